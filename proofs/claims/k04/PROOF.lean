import PyProof.Rows.All
import Wide.All
import OpenK.AllK
import Wide.FinOn
import Lean
import PyProof.EqAt
import PyProof.EqKinds
import PyProof.TupleCall
import PyProof.NeData
import PyProof.P3In
import PyProof.FactsAll.set
import PyProof.CollectWalk
import PyProof.FactsAll.range
import PyProof.MinMaxWalk
import KE.KMinKey
import PyProof.WalkInts
import PyProof.Rows.CallKwBuiltin
import KE.KSortTup
import PyProof.Rows.Range3
import PyProof.ListRange
import PyProof.DictRoadsH
import KE.KDictList
import PyProof.Rows.SortKeyStr
import PyProof.DictCompW
import PyProof.DictWalks
import PyProof.Rows.CompDC
import PyProof.SumAny
import PyProof.TupleOfGen
import PyProof.CollectIter
import PySem.Challenge.RW_twinmoulds_k04_what_a_mould_surely_has
set_option bootstrap.genMatcherCode false
set_option genInjectivity false
set_option genSizeOfSpec false
set_option Elab.async false
set_option linter.all false
set_option maxRecDepth 100000
set_option maxHeartbeats 4000000
local macro_rules | `(tactic| omega) => `(tactic| lia)
open PySem.W (Frag)
namespace L2
open PySem PySem.Spec PyProof.Rows
noncomputable abbrev Key:=Sum Int Str
noncomputable def xG:Key->Value->Bool
 | .inl k,v=>Value.isInt k v
 | .inr x,v=>Value.isStrOf x v
noncomputable def PD (w:World):Key->Int
 | .inl k=>hashInt k
 | .inr x=>hashStr w x
theorem jk:∀{k:Key} {v:Value},xG k v=true->(∃i t,k=Sum.inl i/\v=Value.int i t)\/(∃x t,k=Sum.inr x/\v=Value.str x t)
 | .inl i,v,h=>by
  obtain⟨t,e⟩:=Value.isInt_shape (k:=i) (v:=v) h
  exact .inl ⟨i,t,rfl,e⟩
 | .inr x,v,h=>by
  obtain⟨t,e⟩:=Value.isStrOf_shape (x:=x) (v:=v) h
  exact .inr ⟨x,t,rfl,e⟩
theorem MT (a b:Int):decide ((Sum.inl a:Key)=Sum.inl b)=(a==b):=by
 by_cases e:a=b
 ·subst e;simp
 ·have h:¬ (Sum.inl a:Key)=Sum.inl b:=λq=>e (Sum.inl.inj q)
  rw[decide_eq_false h]
  exact(beq_eq_false_iff_ne.mpr e).symm
theorem MU (a b:Str):decide ((Sum.inr a:Key)=Sum.inr b)=decide (a=b):=by
 by_cases e:a=b
 ·subst e;simp
 ·have h:¬ (Sum.inr a:Key)=Sum.inr b:=λq=>e (Sum.inr.inj q)
  rw[decide_eq_false h,decide_eq_false e]
theorem MV (a:Int) (b:Str):decide ((Sum.inl a:Key)=Sum.inr b)=false:=decide_eq_false (λq=>nomatch q)
theorem MW (a:Str) (b:Int):decide ((Sum.inr a:Key)=Sum.inl b)=false:=decide_eq_false (λq=>nomatch q)
noncomputable def sY (prog:Program) (w:World):PySem.KeyKind prog w Key where
 is:=xG
 hash:=PD w
 inj:=λv a b ha hb=>by
  rcases jk ha with ⟨i,t,rfl,rfl⟩ | ⟨x,t,rfl,rfl⟩
  ·rcases jk hb with ⟨j,u,rfl,e⟩ | ⟨y,u,rfl,e⟩
   ·injection e with e1 _;rw[e1]
   ·exact nomatch e
  ·rcases jk hb with ⟨j,u,rfl,e⟩ | ⟨y,u,rfl,e⟩
   ·exact nomatch e
   ·injection e with e1 _;rw[e1]
 byValue:=λk v h=>by
  rcases jk h with ⟨i,t,rfl,rfl⟩ | ⟨x,t,rfl,rfl⟩<;>rfl
 pyHash:=λhv h=>by
  rcases jk hv with ⟨i,t,rfl,rfl⟩ | ⟨x,t,rfl,rfl⟩
  ·exact wpAny_pyHash_int h
  ·exact wpAny_pyHash_str h
 eqBool:=λhu hv h=>by
  rcases jk hu with ⟨i,t,rfl,rfl⟩ | ⟨x,t,rfl,rfl⟩
  ·rcases jk hv with ⟨j,u,rfl,rfl⟩ | ⟨y,u,rfl,rfl⟩
   ·rw[MT] at h;exact wpAny_eqBool_int h
   ·rw[MV] at h;exact SeqAt.EqAt.int_str i t y u _ _ _ _ h
  ·rcases jk hv with ⟨j,u,rfl,rfl⟩ | ⟨y,u,rfl,rfl⟩
   ·rw[MW] at h;exact SeqAt.EqAt.str_int x t j u _ _ _ _ h
   ·rw[MU] at h;exact wpAny_eqBool_str h
 «strs»:=λk x t v h=>by
  rcases jk h with ⟨i,u,rfl,e⟩ | ⟨y,u,rfl,e⟩
  ·exact nomatch e
  ·injection e with e1 _
   subst e1
   cases v<;>rfl
end L2
namespace L2
open PySem PySem.Spec PyProof.Rows
set_option genInjectivity true in
inductive V where
 |aA|bl (b:Bool)|int (i:Int)|str (x:Str)|ie (b:Array UInt8)|qG (b:UInt64)|ref (a:Addr)|ty (n:String)
 deriving DecidableEq
noncomputable def RelV:V->Value->Prop
 | .aA,u=>u=Value.none
 | .bl b,u=>u=Value.bool b
 | .int i,u=>∃t,u=Value.int i t
 | .str x,u=>∃t,u=Value.str x t
 | .ie b,u=>∃t,u=Value.bytes b t
 | .qG b,u=>∃t,u=Value.float b t
 | .ref a,u=>u=Value.ref a
 | .ty n,u=>u=Value.type n
noncomputable abbrev Vals:List V->List Value->Prop:=Paired RelV
theorem Vals.length {xs:List V} {us:List Value} (r:Vals xs us):xs.length=us.length:=Paired.length r
theorem Vals.get:∀{xs:List V} {us:List Value} {i:Nat} {x:V},Vals xs us->xs[i]?=some x->∃u,us[i]?=some u/\RelV x u
 |_,_,_,_,.nil,e=>by simp at e
 |_,_,0,_,.cons r _,e=>by simp at e;subst e;exact⟨_,rfl,r⟩
 |_,_,i+1,x,.cons _ t,e=>by
  obtain⟨u,h1,h2⟩:=Vals.get (i:=i) (x:=x) t (by simpa using e)
  exact⟨u,by simpa using h1,h2⟩
theorem Vals.set {x:V} {u:Value} (r:RelV x u):∀{xs:List V} {us:List Value} (i:Nat),Vals xs us->Vals (xs.set i x) (us.set i u)
 |_,_,_,.nil=>.nil
 |_,_,0,.cons _ t=>.cons r t
 |_,_,i+1,.cons q t=>.cons q (Vals.set r i t)
theorem Vals.append:∀{xs ys:List V} {us ws:List Value},Vals xs us->Vals ys ws->Vals (xs++ys) (us++ws)
 |_,_,_,_,.nil,s=>s
 |_,_,_,_,.cons r t,s=>.cons r (Vals.append t s)
theorem Vals.take:∀{xs:List V} {us:List Value} (n:Nat),Vals xs us->Vals (xs.take n) (us.take n)
 |_,_,0,_=>.nil
 |_,_,_ + 1,.nil=>.nil
 |_,_,n+1,.cons r t=>.cons r (Vals.take n t)
theorem Vals.drop:∀{xs:List V} {us:List Value} (n:Nat),Vals xs us->Vals (xs.drop n) (us.drop n)
 |_,_,0,r=>r
 |_,_,_ + 1,.nil=>.nil
 |_,_,n+1,.cons _ t=>Vals.drop n t
noncomputable def Fv:Option V->Option Value->Prop
 |some v,some u=>RelV v u
 |none,none=>True
 |_,_=>False
noncomputable def KV {κ:Type}:List (κ×V)->List (κ×Value)->Prop:=Paired λ(p:κ×V) (q:κ×Value)=>p.1=q.1/\RelV p.2 q.2
noncomputable def kV:Key->V
 | .inl i=>.int i
 | .inr x=>.str x
inductive HO where
 |lst (xs:List V)
 |tup (xs:List V)
 |dK (ak:List (Key×V))|dT (ak:List (List Key×V))
 |set (S:Int->Bool) (n:Nat)
 |ins (C dx:Addr) (fs:List (Str×V))
 |own (x:Addr)
 |xd (fs:List (Str×V))
 |met (f x:Addr)
 |bM (lo hi:Int)
 |cF (o:Obj) (u:HO)
 |mP (ps:Array Value)
 |ext (φ:Heap->Prop)
noncomputable abbrev Hp:=Addr->Option HO
noncomputable def upd (H:Hp) (a:Addr) (o:HO):Hp:=λb=>if b=a then some o else H b
theorem dE {H:Hp} {a:Addr} {o:HO}:upd H a o a=some o:=by unfold upd;rw[if_pos rfl]
theorem bt {H:Hp} {a b:Addr} {o:HO} (h:b≠a):upd H a o b=H b:=by unfold upd;rw[if_neg h]
theorem dD {H:Hp} {a b:Addr} {o:HO} (h:H a=some o) (h':H b=none):a≠b:=by
 intro e;subst e;rw[h] at h';cases h'
section
variable (P:Program) (w:World)
noncomputable def cQ (H:Hp) (h:Heap) (a:Addr):HO->Prop
 | .lst xs=>xs.length<=sizeLine/\∃(its:List Value) (n:Nat),Vals xs its/\h.get? a=some { cls:=.type "list",data:=.seq its.toArray n }
 | .tup xs=>xs.length<=sizeLine/\∃its:List Value,Vals xs its/\IsTup h a its.toArray
 | .dK ak=>ak.length<=sizeLine/\(a==sysModules)=false/\∃vs,KV ak vs/\h.DictOf (sY P w) a vs
 | .dT ak=>ak.length<=sizeLine/\(a==sysModules)=false/\∃xs:List (List Key×Addr×Value),
   Paired (λ(p:List Key×V) (q:List Key×Addr×Value)=>p.1=q.1/\H q.2.1=some (.tup (p.1.map kV))/\RelV p.2 q.2.2) ak xs /\
   ∃o es ep,h.get? a=some o/\o.ExactDict/\o.data=.dict es ep/\es.toList=xs.map (entryOfKey (tupleKind (sY P w)))/\(xs.map (·.1)).Nodup
 | .set S n=>h.SetOf (intKind P w) a S n
 | .ins C dx fs=>H dx=some (.own a)/\fs.length<=1000/\dx≠a/\h.get? a=some (PySem.W.instObj C dx) /\
   ∃mA,h.Ns1 dx mA/\(∀f,Fv (fs.lookup f) (mA f))/\PySem.Within mA (fs.map (·.1))
 | .own _=>∃o,h.get? a=some o
 | .xd fs=>∃mA,h.Ns1 a mA/\∀f,Fv (fs.lookup f) (mA f)
 | .bM lo hi=>∃t u v,h.get? a=some { cls:=.type "range",data:=.fields #[.int lo t,.int hi u,.int 1 v] }
 | .cF o u=>h.get? a=some o/\cQ H h a u
 | .mP ps=>h.get? a=some { cls:=.none,data:=.fields ps }
 | .met f x=>h.get? a=some (PySem.W.methodObj (.ref f) (.ref x))
 | .ext φ=>φ h/\(∃o,h.get? a=some o)/\∀h1 h2:Heap,φ h1->(∀o,h1.get? a=some o->h2.get? a=some o)->φ h2
def bX (H:Hp) (h:Heap):Prop:=∀a o,H a=some o->cQ P w H h a o
end
section
variable {P:Program} {w:World} {H H':Hp} {h h':Heap} {a:Addr} {o:HO}
theorem cQ.lt (x:cQ P w H h a o):a<h.objs.size:=by
 cases o with
 |lst xs=>obtain⟨_,_,_,_,e⟩:=x;exact Heap.lt_size e
 |tup xs=>obtain⟨_,_,_,p⟩:=x;exact p.lt
 |dK ak=>obtain⟨_,_,_,_,o,_,_,e,_⟩:=x;exact Heap.lt_size e
 |dT ak=>obtain⟨_,_,_,_,o,_,_,e,_⟩:=x;exact Heap.lt_size e
 |set S n=>obtain⟨o,_,_,_,e,_⟩:=x;exact Heap.lt_size e
 |ins C dx fs=>obtain⟨_,_,_,e,_⟩:=x;exact Heap.lt_size e
 |own y=>obtain⟨_,e⟩:=x;exact Heap.lt_size e
 |xd fs=>obtain⟨_,⟨_,_,_,e,_⟩,_⟩:=x;exact Heap.lt_size e
 |bM lo hi=>obtain⟨_,_,_,e⟩:=x;exact Heap.lt_size e
 |cF ob u=>obtain⟨e,_⟩:=x;exact Heap.lt_size e
 |mP ps=>exact Heap.lt_size (show h.get? a=some _ from x)
 |met f y=>exact Heap.lt_size (show h.get? a=some _ from x)
 |ext φ=>obtain⟨_,⟨_,e⟩,_⟩:=x;exact Heap.lt_size e
theorem Paired.Fx {α β:Type} {F G:α->β->Prop}:∀{Fy:List α} {Fz:List β},Paired F Fy Fz->(∀a b,F a b->G a b)->Paired G Fy Fz
 |_,_,.nil,_=>.nil
 |_,_,.cons r t,f=>.cons (f _ _ r) (Paired.Fx t f)
theorem cQ.fR (x:cQ P w H h a o) (k:∀b u,(b=a\/H b=some (.own a))->h.get? b=some u->h'.get? b=some u)
  (ho:∀b,H b=some (.own a)->H' b=some (.own a)) (ht:∀b xs,H b=some (.tup xs)->H' b=some (.tup xs)):cQ P w H' h' a o:=by
 induction o with
 |lst xs=>obtain⟨z,its,n,r,e⟩:=x;exact⟨z,its,n,r,k _ _ (.inl rfl) e⟩
 |tup xs=>obtain⟨z,its,r,ob,e,c⟩:=x;exact⟨z,its,r,ob,k _ _ (.inl rfl) e,c⟩
 |dK ak=>obtain⟨z,y,vs,r,ob,es,ep,e,c⟩:=x;exact⟨z,y,vs,r,ob,es,ep,k _ _ (.inl rfl) e,c⟩
 |dT ak =>
  obtain⟨z,y,xs,r,ob,es,ep,e,c⟩:=x
  exact⟨z,y,xs,Paired.Fx r λp q z=>⟨z.1,ht _ _ z.2.1,z.2.2⟩,ob,es,ep,k _ _ (.inl rfl) e,c⟩
 |set S n=>obtain⟨ob,es,ep,t,e,c⟩:=x;exact⟨ob,es,ep,t,k _ _ (.inl rfl) e,c⟩
 |ins C dx fs =>
  obtain⟨d,z,ne,e,mA,⟨od,es,ep,e2,c⟩,r⟩:=x
  exact⟨ho _ d,z,ne,k _ _ (.inl rfl) e,mA,⟨od,es,ep,k _ _ (.inr d) e2,c⟩,r⟩
 |own y=>obtain⟨ob,e⟩:=x;exact⟨ob,k _ _ (.inl rfl) e⟩
 |xd fs=>obtain⟨mA,⟨od,es,ep,e,c⟩,r⟩:=x;exact⟨mA,⟨od,es,ep,k _ _ (.inl rfl) e,c⟩,r⟩
 |bM lo hi=>obtain⟨t,u,v,e⟩:=x;exact⟨t,u,v,k _ _ (.inl rfl) e⟩
 |cF ob u ih=>obtain⟨e,q⟩:=x;exact⟨k _ _ (.inl rfl) e,ih q⟩
 |mP ps =>
  have e:h.get? a=some { cls:=.none,data:=.fields ps }:=x
  show h'.get? a=some { cls:=.none,data:=.fields ps }
  exact k a _ (.inl rfl) e
 |met f y =>
  have e:h.get? a=some (PySem.W.methodObj (.ref f) (.ref y)):=x
  show h'.get? a=some (PySem.W.methodObj (.ref f) (.ref y))
  exact k a _ (.inl rfl) e
 |ext φ=>obtain⟨p,⟨o,e⟩,st⟩:=x;exact⟨st _ _ p λo q=>k _ _ (.inl rfl) q,⟨o,k _ _ (.inl rfl) e⟩,st⟩
theorem bX.lt (x:bX P w H h) (e:H a=some o):a<h.objs.size:=(x a o e).lt
theorem bX.fresh (x:bX P w H h) (e:h.objs.size<=a):H a=none:=by
 cases q:H a with
 |none=>rfl
 |some u=>exact absurd (Nat.lt_of_lt_of_le (x.lt q) e) (Nat.lt_irrefl _)
theorem bX.kept (x:bX P w H h) (k:∀b u,h.get? b=some u->h'.get? b=some u):bX P w H h':=λa o e =>
 (x a o e).fR (λb u _ q=>k b u q) (λ_ q=>q) λ_ _ q=>q
theorem bX.laid (x:bX P w H h) (k:∀b u,h.get? b=some u->h'.get? b=some u) (hp:h.objs.size<=a) (new:cQ P w (upd H a o) h' a o):bX P w (upd H a o) h':=λb u e=>by
 have hn:=x.fresh hp
 by_cases hb:b=a
 ·subst hb;rw[dE] at e;cases e;exact new
 ·rw[bt hb] at e
  exact(x b u e).fR (λc v _ q=>k c v q) (λc q=>by rw[bt (dD q hn)];exact q) λc xs q=>by rw[bt (dD q hn)];exact q
end
def Rd (H:Hp) (a:Addr) (u:HO):Prop:=H a=some u\/∃o,H a=some (.cF o u)
theorem Rd.ok {P:Program} {w:World} {H:Hp} {h:Heap} {a:Addr} {u:HO} (r:Rd H a u) (x:bX P w H h):cQ P w H h a u:=by
 rcases r with r | ⟨o,r⟩
 ·exact x a u r
 ·obtain⟨_,q⟩:=x a _ r
  exact q
noncomputable def qH:Option HO->Prop
 |some (.lst _)=>True
 |some (.dK _)=>True
 |some (.dT _)=>True
 |some (.set _ _)=>True
 |some (.ins _ _ _)=>True
 |some (.ext _)=>True
 |_=>False
section
variable {P:Program} {w:World} {H:Hp} {h h':Heap} {x e:Addr} {o':HO}
theorem bX.write (ok:bX P w H h) (mu:qH (H x)) (he:e=x\/H e=some (.own x)) (k:∀b u,b≠e->h.get? b=some u->h'.get? b=some u) (oQ:∃u,h'.get? e=some u)
  (new:cQ P w (upd H x o') h' x o'):bX P w (upd H x o') h':=λb u q=>by
 have FA:∀c y,H c=some (.own y)->c≠x:=λc y r z=>by subst z;rw[r] at mu;exact mu
 have PH:∀c xs,H c=some (.tup xs)->c≠x:=λc xs r z=>by subst z;rw[r] at mu;exact mu
 by_cases hb:b=x
 ·subst hb;rw[dE] at q;cases q;exact new
 ·rw[bt hb] at q
  by_cases mQ:b=e
  ·have q':H b=some (.own x):=by
    rcases he with z|z
    ·exact absurd (mQ.trans z) hb
    ·rw[mQ];exact z
   rw[q] at q';cases q'
   obtain⟨v,hv⟩:=oQ
   exact⟨v,by rw[mQ];exact hv⟩
  ·refine(ok b u q).fR (λc v hc r=>k c v ?_ r) (λc r=>by rw[bt (FA c b r)];exact r) λc xs r=>by rw[bt (PH c xs r)];exact r
   rcases hc with rfl|hc
   ·exact mQ
   ·rintro rfl
    rcases he with z|z
    ·exact FA c b hc z
    ·rw[hc] at z;cases z;exact hb rfl
end
structure Un (fs ex:List Addr) (H H':Hp) (h h':Heap):Prop where
 keep:∀b o,h.get? b=some o->H b=none->b∉fs->b∉ex->h'.get? b=some o
 slot:∀b o,h.get? b=some o->H b=none->b∈fs->b∉ex->∃sl,h'.get? b=some { o with slots:=sl }
 free:∀b o,h.get? b=some o->H b=none->b∉ex->H' b=none
 there:∀b o,h.get? b=some o->b∉ex->∃o',h'.get? b=some o'
 iC:∀b xs,H b=some (.tup xs)->H' b=some (.tup xs)
 gY:∀b o u,H b=some (.cF o u)->H' b=some (.cF o u)
 iU:∀b ps,H b=some (.mP ps)->∃more,H' b=some (.mP (ps++more))
section
variable {fs QH ex Te:List Addr} {H H1 H2:Hp} {h h1 h2 h':Heap} {a x e:Addr} {o:HO}
theorem Un.any (u:Un fs ex H H1 h h1) {b:Addr} {ob:Obj} (q:h.get? b=some ob) (n:H b=none) (hx:b∉ex):∃sl,h1.get? b=some { ob with slots:=sl }:=by
 by_cases hb:b∈fs
 ·exact u.slot b ob q n hb hx
 ·exact⟨ob.slots,u.keep b ob q n hb hx⟩
theorem Un.kept (k:∀b u,h.get? b=some u->h'.get? b=some u):Un fs ex H H h h' :=
 ⟨λb ob q _ _ _=>k b ob q,λb ob q _ _ _=>⟨ob.slots,k b ob q⟩,λ_ _ _ n _=>n,λb ob q _=>⟨ob,k b ob q⟩,λ_ _ q=>q,λ_ _ _ q=>q,λ_ ps q=>⟨#[],by rw[q];simp⟩⟩
theorem Un.refl:Un fs ex H H h h:=Un.kept λ_ _ q=>q
theorem Un.laid (k:∀b u,h.get? b=some u->h'.get? b=some u) (hp:h.objs.size<=a) (hn:H a=none):Un fs ex H (upd H a o) h h' where
 keep:=λb u q _ _ _=>k b u q
 slot:=λb u q _ _ _=>⟨u.slots,k b u q⟩
 free:=λb u q n _=>by rw[bt (Nat.ne_of_lt (Nat.lt_of_lt_of_le (Heap.lt_size q) hp))];exact n
 there:=λb u q _=>⟨u,k b u q⟩
 iC:=λb xs q=>by rw[bt (dD q hn)];exact q
 gY:=λb u xs q=>by rw[bt (dD q hn)];exact q
 iU:=λb ps q=>⟨#[],by rw[bt (dD q hn),q];simp⟩
theorem Un.write (mu:qH (H x)) (he:e=x\/H e=some (.own x)) (k:∀b u,b≠e->h.get? b=some u->h'.get? b=some u) (oQ:∃u,h'.get? e=some u):Un fs ex H (upd H x o) h h':=by
 have hx:∀b,H b=none->b≠x:=λb n z=>by subst z;rw[n] at mu;exact mu
 have hb:∀b,H b=none->b≠e:=λb n z=>by
  subst z
  rcases he with r|r
  ·exact hx b n r
  ·rw[n] at r;cases r
 have hm:∀b u,H b=some u->¬ qH (some u)->b≠x:=λb u q nm z=>by subst z;rw[q] at mu;exact nm mu
 refine⟨λb u q n _ _=>k b u (hb b n) q,λb u q n _ _=>⟨u.slots,k b u (hb b n) q⟩,λb u q n _=>by rw[bt (hx b n)];exact n,λb u q _=>?_,
  λb xs q=>by rw[bt (hm b _ q λz=>z)];exact q,λb u xs q=>by rw[bt (hm b _ q λz=>z)];exact q,λb ps q=>⟨#[],by rw[bt (hm b _ q λz=>z),q];simp⟩⟩
 by_cases mQ:b=e
 ·subst mQ;exact oQ
 ·exact⟨u,k b u mQ q⟩
end
noncomputable def uT (h:Heap) (H:Hp):List Addr:=(List.range h.objs.size).filter λa=>(H a).isSome
noncomputable def kg (h:Heap) (H:Hp):Heap:=PySem.W.hideAll h (uT h H)
theorem Je (h:Heap) (H:Hp):(kg h H).objs.size=h.objs.size:=PySem.W.hideAll_size _ _
theorem Ke {h:Heap} {H:Hp} {b:Addr} {o:Obj} (e:h.get? b=some o) (n:H b=none):(kg h H).get? b=some o :=
 PySem.W.hideAll_get _ e λhm=>by
  have q:(H b).isSome=true:=(List.mem_filter.mp hm).2
  rw[n] at q;simp at q
theorem Lx {h:Heap} {H:Hp} {b:Addr} {o:Obj} (e:(kg h H).get? b=some o):h.get? b=some o/\H b=none:=by
 have e':h.get? b=some o:=PySem.W.of_hideAll (uT h H) e
 refine⟨e',?_⟩
 cases q:H b with
 |none=>rfl
 |some x =>
  have hm:b∈uT h H:=List.mem_filter.mpr ⟨List.mem_range.mpr (Heap.lt_size e'),by simp[q]⟩
  have z:(kg h H).get? b=none:=PySem.W.hideAll_none (uT h H) hm
  rw[z] at e;cases e
noncomputable def Ly (g h:Heap) (L:Addr):List (Addr×Obj):=(List.range h.objs.size).filterMap λa=>if a=L\/(g.get? a).isSome=true then none else (h.get? a).map λo=>(a,o)
noncomputable def rest (g h:Heap) (L d:Addr):List (Addr×Obj):=(Ly g h L).filter λp=>decide (p.1≠d)
end L2
namespace L2
open PySem PySem.Spec PyProof.Rows
structure Mod (K:Frag) (mg:Str->Option Value) (base:Heap):Prop where
 uU:K.In base
 glob:base.Ns mainGlobals mg
 blt:∃mb,base.Ns builtinsNs mb/\∀x:Str,x≠"__name__"->mb x=bootBuiltins x
 nolimit:base.NoLimit
structure Cx where
 prog:Program
 w:World
 K:Frag
 mg:Str->Option Value
 base:Heap
 A:Around
 N:List Str
 cM:Shared
 qu:Hp
 env:Env
 outer:List Env
 stack:List Env
 ex:List Addr
 fn:Str->Bool
 calm:Bool
 pn:List (Addr×Obj)
 xe:Value->Shared->Prop
noncomputable def fV (l:List Env):List Addr:=l.filterMap (·.frame)
noncomputable abbrev Cx.fs (X:Cx):List Addr:=fV X.outer
def qI (sc:Scope) (x:Str):Prop:=sc.names.lookup x=some .local\/sc.names.lookup x=some .cell\/sc.names.lookup x=some .free
def Loc (sc:Scope) (x:Str):Prop:=sc.names.lookup x=some .local\/sc.names.lookup x=some .cell
def Look (env:Env) (h:Heap) (m:Str->Option Value) (x:Str) (u:Value):Prop :=
 (env.kindOf x=some .local/\m x=some u)\/((env.kindOf x=some .cell\/env.kindOf x=some .free)/\∃c,env.cells.lookup x=some c/\h.IsCell c (some u))
structure Cx.Ok (X:Cx):Prop where
 mod:Mod X.K X.mg X.base
 kind:X.env.scope.kind=.function
 glob:X.env.globals=mainGlobals
 blt:X.env.builtins=builtinsNs
 above:X.cM.heap.objs.size<=X.env.locals
 inj:∀x y c,X.env.cells.lookup x=some c->X.env.cells.lookup y=some c->x=y
 has:∀x,(X.env.kindOf x=some .cell\/X.env.kindOf x=some .free)->∃c,X.env.cells.lookup x=some c
 qJ:∀x c,X.fn x=true->X.env.cells.lookup x=some c->X.cM.heap.objs.size<=c
 hd:X.calm=true->X.A.handled=none
 frames:X.A.frames=some X.stack
 uV:X.stack=X.outer\/(X.stack=X.env::X.outer/\X.env.frame=some X.env.locals)
 F3:∀b∈X.ex,b≠X.env.locals/\∀x c,X.env.cells.lookup x=some c->c≠b
 bs:∀b o,X.base.get? b=some o->X.cM.heap.get? b=some o/\X.qu b=none
 i6:X.base.objs.size<=X.cM.heap.objs.size
 mC:∀b o,X.base.get? b=some o->b∉X.ex
 uz:∀b∈X.ex,b∉X.fs
 iV:X.cM.heap.FunFrames X.base X.outer
 oR:∀b∈X.fs,X.qu b=none
structure Inv (X:Cx) (pins:List (Addr×Obj)) (σ:List (Option V)) (H:Hp) (s:Shared):Prop where
 ok:X.Ok
 os:s.os=X.cM.os
 bare:AllBare s.gens
 base:Un X.fs X.ex X.qu H X.cM.heap s.heap
 loc:∃m,s.heap.Ns X.env.locals m/\∀(i:Nat) (x:Str) (v:V),X.N[i]?=some x->σ[i]?=some (some v)->qI X.env.scope x->∃u,RelV v u/\Look X.env s.heap m x u
 cell:∀x c,X.env.cells.lookup x=some c->∃v,s.heap.IsCell c v
 free:H X.env.locals=none
 dZ:∀x c,X.env.cells.lookup x=some c->H c=none
 pin:∀p∈X.pn++pins,s.heap.get? p.1=some p.2/\H p.1=none/\p.1≠X.env.locals/\p.1∉X.fs/\∀v,p.2.data≠.cell v
 aH:bX X.prog X.w H s.heap
 len:σ.length=X.N.length
section
variable {X:Cx} {pins:List (Addr×Obj)} {σ:List (Option V)} {H H':Hp} {s:Shared} {h':Heap}
theorem Cx.Ok.PJ (ok:X.Ok) {b:Addr} {o:Obj} (e:X.base.get? b=some o):b∉X.fs:=λhb=>by
 have:=(ok.iV.mem hb).1
 rw[e] at this;cases this
theorem Inv.bs (I:Inv X pins σ H s):∀b o,X.base.get? b=some o->s.heap.get? b=some o/\H b=none:=λb o e =>
 ⟨I.base.keep b o (I.ok.bs b o e).1 (I.ok.bs b o e).2 (I.ok.PJ e) (I.ok.mC b o e),I.base.free b o (I.ok.bs b o e).1 (I.ok.bs b o e).2 (I.ok.mC b o e)⟩
theorem Inv.bk (I:Inv X pins σ H s):∀b o,X.base.get? b=some o->s.heap.get? b=some o:=λb o e=>(I.bs b o e).1
theorem Inv.mod (I:Inv X pins σ H s):Mod X.K X.mg X.base:=I.ok.mod
theorem Inv.oS (I:Inv X pins σ H s):X.K.In s.heap:=I.ok.mod.uU.keeps I.bk
theorem Inv.lt (I:Inv X pins σ H s):X.env.locals<s.heap.objs.size:=let ⟨_,hn,_⟩:=I.loc;hn.lt
theorem Inv.sz (I:Inv X pins σ H s):X.cM.heap.objs.size<=s.heap.objs.size:=Nat.le_trans I.ok.above (Nat.le_of_lt I.lt)
theorem Inv.qv (I:Inv X pins σ H s) {a:Addr} (h:s.heap.objs.size<=a):a∉X.fs:=λhb=>by
 obtain⟨_,o,ho,_⟩:=I.ok.iV.mem hb
 exact absurd (Nat.lt_of_lt_of_le (Heap.lt_size ho) (Nat.le_trans I.sz h)) (Nat.lt_irrefl _)
theorem Inv.mR (I:Inv X pins σ H s):∀x c,X.env.cells.lookup x=some c->c≠X.env.locals:=λx c e z=>by
 obtain⟨v,o,ho,hd⟩:=I.cell x c e
 obtain⟨m,⟨o',es,ep,dg,gm,_⟩,_⟩:=I.loc
 rw[z,dg] at ho;cases ho;rw[gm] at hd;cases hd
theorem Inv.iV (I:Inv X pins σ H s):s.heap.FunFrames X.base X.outer:=by
 have all:∀(l:List Env),(∀b∈fV l,b∈X.fs)->X.cM.heap.FunFrames X.base l->s.heap.FunFrames X.base l:=by
  intro l
  induction l with
  |nil=>intro _ _;trivial
  |cons env r ih =>
   intro hs hl
   obtain⟨hk,⟨L,o,hf,hn,ho,hd⟩,hr⟩:=hl
   have hL:L∈X.fs:=hs L (by unfold fV;rw[List.filterMap_cons,hf];exact List.mem_cons_self)
   obtain⟨sl,e⟩:=I.base.slot L o ho (I.ok.oR L hL) hL λz=>I.ok.uz L z hL
   exact⟨hk,⟨L,_,hf,hn,e,hd⟩,ih (λb hb=>hs b (by unfold fV;rw[List.filterMap_cons,hf];exact List.mem_cons_of_mem _ hb)) hr⟩
 exact all X.outer (λ_ hb=>hb) I.ok.iV
theorem Inv.stack (I:Inv X pins σ H s):s.heap.FunFrames X.base X.stack:=by
 rcases I.ok.uV with e | ⟨e,hf⟩
 ·rw[e];exact I.iV
 ·rw[e]
  obtain⟨m,hn,_⟩:=I.loc
  refine .cons (by rw[I.ok.kind];decide) hf hn ?_ I.iV
  exact Heap.get?_none_of_le (Nat.le_trans I.ok.i6 I.ok.above)
theorem Inv.j5 (I:Inv X pins σ H s):∀b∈fV X.stack,b∈X.env.locals::X.fs:=λb hb=>by
 rcases I.ok.uV with e | ⟨e,hf⟩
 ·rw[e] at hb;exact List.mem_cons_of_mem _ hb
 ·rw[e] at hb
  unfold fV at hb
  rw[List.filterMap_cons,hf] at hb
  exact hb
theorem Inv.wB (I:Inv X pins σ H s):∀b∈fV X.stack,H b=none:=λb hb=>by
 rcases List.mem_cons.mp (I.j5 b hb) with e|hb
 ·rw[e];exact I.free
 ·obtain⟨_,o,ho,_⟩:=I.ok.iV.mem hb
  exact I.base.free b o ho (I.ok.oR b hb) λz=>I.ok.uz b z hb
theorem Inv.step {g':Array GenState} {t':Nat} {d':Drawn} {ch:List Addr} (I:Inv X pins σ H s)
  (jC:∀b∈ch,(b∈X.ex\/X.cM.heap.objs.size<=b)/\b≠X.env.locals/\(∀x c,X.env.cells.lookup x=some c->c≠b)/\∀p∈X.pn++pins,p.1≠b)
  (keep:∀b o,b≠X.env.locals->b∉X.fs->b∉ch->s.heap.get? b=some o->H b=none->h'.get? b=some o)
  (slot:∀b o,b≠X.env.locals->b∈X.fs->b∉ch->s.heap.get? b=some o->H b=none->∃sl,h'.get? b=some { o with slots:=sl }) (free:∀b o,b∉ch->s.heap.get? b=some o->H b=none->H' b=none)
  (there:∀b o,b∉ch->s.heap.get? b=some o->∃o',h'.get? b=some o')
  (iC:∀b xs,H b=some (.tup xs)->H' b=some (.tup xs)) (gY:∀b o u,H b=some (.cF o u)->H' b=some (.cF o u)) (iU:∀b ps,H b=some (.mP ps)->∃more,H' b=some (.mP (ps++more)))
  (ns:∀m,s.heap.Ns X.env.locals m->h'.Ns X.env.locals m) (aH:bX X.prog X.w H' h') (hg:AllBare g') :
  Inv X pins σ H' { s with heap:=h',gens:=g',drawn:=d',toks:=t' }:=by
 have F4:∀b o,X.cM.heap.get? b=some o->b≠X.env.locals:=λb o e=>Nat.ne_of_lt (Nat.lt_of_lt_of_le (Heap.lt_size e) I.ok.above)
 have uW:∀b o,X.cM.heap.get? b=some o->b∉X.ex->b∉ch:=λb o e hx hb=>by
  rcases(jC b hb).1 with z|z
  ·exact hx z
  ·exact absurd (Nat.lt_of_lt_of_le (Heap.lt_size e) z) (Nat.lt_irrefl _)
 have cellK:∀x c,X.env.cells.lookup x=some c->∀v,s.heap.IsCell c v->h'.IsCell c v:=λx c e v ⟨o,ho,hd⟩=>by
  have qK:c∉ch:=λz=>(jC c z).2.2.1 x c e rfl
  by_cases hc:c∈X.fs
  ·obtain⟨sl,q⟩:=slot c o (I.mR x c e) hc qK ho (I.dZ x c e)
   exact⟨_,q,hd⟩
  ·exact⟨o,keep c o (I.mR x c e) hc qK ho (I.dZ x c e),hd⟩
 refine⟨I.ok,I.os,hg,⟨λb o e n hb hx=>?_,λb o e n hb hx=>?_,λb o e n hx=>?_,λb o e hx=>?_,λb xs e=>iC b xs (I.base.iC b xs e),λb o xs e=>gY b o xs (I.base.gY b o xs e),λb ps e=>?_⟩,?_,λx c e=>?_,?_,λx c e=>?_,λp hp=>?_,aH,I.len⟩
 ·exact keep b o (F4 b o e) hb (uW b o e hx) (I.base.keep b o e n hb hx) (I.base.free b o e n hx)
 ·obtain⟨sl,e1⟩:=I.base.slot b o e n hb hx
  obtain⟨QI,e2⟩:=slot b _ (F4 b o e) hb (uW b o e hx) e1 (I.base.free b o e n hx)
  exact⟨QI,e2⟩
 ·obtain⟨o',e1⟩:=I.base.there b o e hx
  exact free b o' (uW b o e hx) e1 (I.base.free b o e n hx)
 ·obtain⟨o',e1⟩:=I.base.there b o e hx
  exact there b o' (uW b o e hx) e1
 ·obtain⟨m1,e1⟩:=I.base.iU b ps e
  obtain⟨m2,e2⟩:=iU b _ e1
  exact⟨m1++m2,by rw[e2,Array.append_assoc]⟩
 ·obtain⟨m,hn,hl⟩:=I.loc
  refine⟨m,ns m hn,λi x v e1 e2 e3=>?_⟩
  obtain⟨u,r,l⟩:=hl i x v e1 e2 e3
  refine⟨u,r,?_⟩
  rcases l with l | ⟨k,c,e,z⟩
  ·exact .inl l
  ·exact .inr ⟨k,c,e,cellK x c e _ z⟩
 ·obtain⟨v,z⟩:=I.cell x c e
  exact⟨v,cellK x c e v z⟩
 ·obtain⟨m,⟨o,_,_,ho,_⟩,_⟩:=I.loc
  exact free _ o (λz=>(jC _ z).2.1 rfl) ho I.free
 ·obtain⟨v,o,ho,hd⟩:=I.cell x c e
  exact free c o (λz=>(jC c z).2.2.1 x c e rfl) ho (I.dZ x c e)
 ·obtain⟨e,n,ne,nf,d⟩:=I.pin p hp
  have qK:p.1∉ch:=λz=>(jC p.1 z).2.2.2 p hp rfl
  exact⟨keep p.1 p.2 ne nf qK e n,free p.1 p.2 qK e n,ne,nf,d⟩
theorem Inv.un {t':Nat} (I:Inv X pins σ H s) (u:Un X.fs [] H H' s.heap h') (aH:bX X.prog X.w H' h'):Inv X pins σ H' { s with heap:=h',toks:=t' }:=by
 obtain⟨m,⟨o,es,ep,ho,r⟩,_⟩:=id I.loc
 obtain⟨sl,hL⟩:=u.any ho I.free (by simp)
 exact I.step (g':=s.gens) (d':=s.drawn) (ch:=[]) (λ_ z=>nomatch z) (λb o _ hb _ e n=>u.keep b o e n hb (by simp)) (λb o _ hb _ e n=>u.slot b o e n hb (by simp)) (λb o _ e n=>u.free b o e n (by simp)) (λb o _ e=>u.there b o e (by simp)) u.iC u.gY u.iU (λm' hm=>by
  obtain⟨o',ff,qL,dg,r'⟩:=hm
  rw[ho] at dg;cases dg
  exact⟨_,ff,qL,hL,r'⟩) aH I.bare
theorem Inv.call {g':Array GenState} {t':Nat} {d':Drawn} {ch:List Addr} (I:Inv X pins σ H s) (u:Un (fV X.stack) ch H H' s.heap h') (aH:bX X.prog X.w H' h') (hg:AllBare g')
  (jC:∀b∈ch,(b∈X.ex\/X.cM.heap.objs.size<=b)/\b≠X.env.locals/\(∀x c,X.env.cells.lookup x=some c->c≠b)/\∀p∈X.pn++pins,p.1≠b) :
  Inv X pins σ H' { s with heap:=h',gens:=g',drawn:=d',toks:=t' }:=by
 obtain⟨m,⟨o,es,ep,ho,r⟩,_⟩:=id I.loc
 obtain⟨sl,hL⟩:=u.any ho I.free λz=>(jC _ z).2.1 rfl
 exact I.step (ch:=ch) jC (λb o hL hb hc e n=>u.keep b o e n (λz=>(List.mem_cons.mp (I.j5 b z)).elim hL hb) hc) (λb o _ _ hc e n=>u.any e n hc) (λb o hc e n=>u.free b o e n hc) (λb o hc e=>u.there b o e hc) u.iC u.gY u.iU (λm' hm=>by
  obtain⟨o',ff,qL,dg,r'⟩:=hm
  rw[ho] at dg;cases dg
  exact⟨_,ff,qL,hL,r'⟩) aH hg
theorem Inv.turned {t':Nat} {it:Addr} (I:Inv X pins σ H s) (k:∀b o,b≠it->s.heap.get? b=some o->h'.get? b=some o) (hn:H it=none) (hL:it≠X.env.locals)
  (h1:it∈X.ex\/X.cM.heap.objs.size<=it) (h2:∀x c,X.env.cells.lookup x=some c->c≠it) (h3:∀p∈X.pn++pins,p.1≠it):Inv X pins σ H { s with heap:=h',toks:=t' }:=by
 have F5:∀b u,H b=some u->b≠it:=λb u e z=>by rw[z,hn] at e;cases e
 refine I.step (g':=s.gens) (d':=s.drawn) (ch:=[it]) (λb hb=>?_) (λb o _ _ hc e _=>k b o (λz=>hc (by simp[z])) e) (λb o _ _ hc e _=>⟨o.slots,k b o (λz=>hc (by simp[z])) e⟩) (λ_ _ _ _ n=>n)
  (λb o hc e=>⟨o,k b o (λz=>hc (by simp[z])) e⟩) (λ_ _ e=>e) (λ_ _ _ e=>e) (λb ps e=>⟨#[],by rw[e];simp⟩) (λm hm=>?_) (λb u e=>?_) I.bare
 ·have e:b=it:=by simpa using hb
  subst e
  exact⟨h1,hL,h2,h3⟩
 ·obtain⟨o,es,ep,ho,r⟩:=hm
  exact⟨o,es,ep,k _ o (Ne.symm hL) ho,r⟩
 ·refine(I.aH b u e).fR (λc v hc q=>k c v ?_ q) (λ_ q=>q) λ_ _ q=>q
  rcases hc with z|z
  ·rw[z];exact F5 b u e
  ·exact F5 c _ z
theorem Inv.tok (I:Inv X pins σ H s) (t:Nat):Inv X pins σ H { s with toks:=t }:=I.un (h':=s.heap) (t':=t) Un.refl I.aH
theorem Inv.kept {t':Nat} (I:Inv X pins σ H s) (k:∀b u,s.heap.get? b=some u->h'.get? b=some u):Inv X pins σ H { s with heap:=h',toks:=t' }:=I.un (Un.kept k) (I.aH.kept k)
theorem Inv.laid {a:Addr} {o:HO} {t':Nat} (I:Inv X pins σ H s) (k:∀b u,s.heap.get? b=some u->h'.get? b=some u) (hp:s.heap.objs.size<=a) (new:cQ X.prog X.w (upd H a o) h' a o) :
  Inv X pins σ (upd H a o) { s with heap:=h',toks:=t' }:=I.un (Un.laid k hp (I.aH.fresh hp)) (I.aH.laid k hp new)
theorem Inv.write {x e:Addr} {o:HO} {t':Nat} (I:Inv X pins σ H s) (mu:qH (H x)) (he:e=x\/H e=some (.own x)) (k:∀b u,b≠e->s.heap.get? b=some u->h'.get? b=some u) (oQ:∃u,h'.get? e=some u)
  (new:cQ X.prog X.w (upd H x o) h' x o):Inv X pins σ (upd H x o) { s with heap:=h',toks:=t' }:=I.un (Un.write mu he k oQ) (I.aH.write mu he k oQ new)
theorem Inv.j0 {EU:List (Addr×Obj)} (I:Inv X pins σ H s) (h:∀p∈EU,s.heap.get? p.1=some p.2/\H p.1=none/\p.1≠X.env.locals/\p.1∉X.fs/\∀v,p.2.data≠.cell v):Inv X EU σ H s :=
 ⟨I.ok,I.os,I.bare,I.base,I.loc,I.cell,I.free,I.dZ,λp hp=>(List.mem_append.mp hp).elim (λz=>I.pin p (List.mem_append_left _ z)) (h p),I.aH,I.len⟩
theorem Cp {N:List Str} (hN:N.Nodup) {i j:Nat} {x:Str} (a:N[i]?=some x) (b:N[j]?=some x):i=j:=by
 obtain⟨h1,e1⟩:=List.getElem?_eq_some_iff.mp a
 obtain⟨h2,e2⟩:=List.getElem?_eq_some_iff.mp b
 exact(List.getElem_inj hN).mp (e1.trans e2.symm)
theorem Jf {M:Model} {A:Around} {E:Value->Shared->Prop} {i:Nat} {x:Str} {v:V} {u:Value} {Q:Unit->Shared->Prop} (I:Inv X pins σ H s) (hN:X.N.Nodup) (hi:X.N[i]?=some x) (hx:Loc X.env.scope x) (r:RelV v u)
  (h:∀s',Inv X pins (σ.set i (some v)) H s'->(∃a,Heap.SameBut a s.heap s'.heap/\(a=X.env.locals\/X.env.cells.lookup x=some a))->Q () s') (hf:X.fn x=true\/X.env.scope.names.lookup x=some .local:=by first|exact .inl rfl|exact .inr rfl|assumption):wpAny M A (storeName X.env x u) Q E s:=by
 obtain⟨m,hn,hl⟩:=id I.loc
 have PK:(X.env.scope.kind==.class||(X.env.scope.kind==.module&&X.env.locals != X.env.globals))=false:=by rw[I.ok.kind];rfl
 have FC:i < σ.length:=by rw[I.len];exact(List.getElem?_eq_some_iff.mp hi).1
 have mR:=I.mR
 have tracked:∀{a:Addr} {h':Heap},(∃o,s.heap.get? a=some o/\H a=none)->Heap.SameBut a s.heap h'->bX X.prog X.w H h':=λ{a h'} ha hs b ob e=>by
  obtain⟨_,_,EV⟩:=ha
  refine(I.aH b ob e).fR (λc w' hc q=>(hs.2 c ?_).trans q) (λ_ q=>q) λ_ _ q=>q
  rintro rfl
  rcases hc with rfl|hc
  ·rw[EV] at e;cases e
  ·rw[EV] at hc;cases hc
 rcases hx with hk|hk
 ·refine wpAny_storeName_local hk hn (λh' F6 hs=>?_) PK
  obtain⟨oL,_,_,qM,_⟩:=id hn
  refine h _ ⟨I.ok,I.os,I.bare,⟨λb o e n hb hx=>?_,λb o e n hb hx=>?_,I.base.free,λb o e hx=>?_,I.base.iC,I.base.gY,I.base.iU⟩,⟨_,F6,λj y v' e1 e2 e3=>?_⟩,λy c e=>?_,I.free,I.dZ,λp hp=>?_,tracked ⟨oL,qM,I.free⟩ hs,by simpa using I.len⟩ ⟨_,hs,.inl rfl⟩
  ·exact(hs.2 b (Nat.ne_of_lt (Nat.lt_of_lt_of_le (Heap.lt_size e) I.ok.above))).trans (I.base.keep b o e n hb hx)
  ·obtain⟨sl,e1⟩:=I.base.slot b o e n hb hx
   exact⟨sl,(hs.2 b (Nat.ne_of_lt (Nat.lt_of_lt_of_le (Heap.lt_size e) I.ok.above))).trans e1⟩
  ·obtain⟨o',e1⟩:=I.base.there b o e hx
   exact⟨o',(hs.2 b (Nat.ne_of_lt (Nat.lt_of_lt_of_le (Heap.lt_size e) I.ok.above))).trans e1⟩
  ·by_cases hj:j=i
   ·subst hj
    rw[hi] at e1;cases e1
    rw[List.getElem?_set_self FC] at e2
    cases e2
    exact⟨u,r,.inl ⟨hk,by simp⟩⟩
   ·rw[List.getElem?_set_ne (Ne.symm hj)] at e2
    obtain⟨u',r',q⟩:=hl j y v' e1 e2 e3
    refine⟨u',r',?_⟩
    rcases q with ⟨k,e⟩ | ⟨k,c,e,z⟩
    ·refine .inl ⟨k,?_⟩
     have:y≠x:=λe=>hj (Cp hN e1 (e ▸ hi))
     simp[this,e]
    ·exact .inr ⟨k,c,e,z.sameBut hs (mR y c e)⟩
  ·obtain⟨w',z⟩:=I.cell y c e
   exact⟨w',z.sameBut hs (mR y c e)⟩
  ·obtain⟨e,n,ne,nf,d⟩:=I.pin p hp
   exact⟨(hs.2 p.1 ne).trans e,n,ne,nf,d⟩
 ·have yR:X.fn x=true:=by
   rcases hf with z|z
   ·exact z
   ·rw[z] at hk;cases hk
  obtain⟨c,hc⟩:=I.ok.has x (.inl hk)
  obtain⟨w',z⟩:=I.cell x c hc
  refine wpAny_storeName_cell I.ok.kind hk hc z (λh' jD hs=>?_)
  obtain⟨oc,F7,PL⟩:=id z
  refine h { s with heap:=h' } ⟨I.ok,I.os,I.bare,⟨λb o e n hb hx=>?_,λb o e n hb hx=>?_,I.base.free,λb o e hx=>?_,I.base.iC,I.base.gY,I.base.iU⟩,⟨m,hn.sameBut hs (Ne.symm (mR x c hc)),λj y v' e1 e2 e3=>?_⟩,λy c' e=>?_,I.free,I.dZ,λp hp=>?_,tracked ⟨oc,F7,I.dZ x c hc⟩ hs,by simpa using I.len⟩ ⟨c,hs,.inr hc⟩
  ·exact(hs.2 b (Nat.ne_of_lt (Nat.lt_of_lt_of_le (Heap.lt_size e) (I.ok.qJ x c yR hc)))).trans (I.base.keep b o e n hb hx)
  ·obtain⟨sl,e1⟩:=I.base.slot b o e n hb hx
   exact⟨sl,(hs.2 b (Nat.ne_of_lt (Nat.lt_of_lt_of_le (Heap.lt_size e) (I.ok.qJ x c yR hc)))).trans e1⟩
  ·obtain⟨o',e1⟩:=I.base.there b o e hx
   exact⟨o',(hs.2 b (Nat.ne_of_lt (Nat.lt_of_lt_of_le (Heap.lt_size e) (I.ok.qJ x c yR hc)))).trans e1⟩
  ·by_cases hj:j=i
   ·subst hj
    rw[hi] at e1;cases e1
    rw[List.getElem?_set_self FC] at e2
    cases e2
    exact⟨u,r,.inr ⟨.inl hk,c,hc,jD⟩⟩
   ·rw[List.getElem?_set_ne (Ne.symm hj)] at e2
    obtain⟨u',r',q⟩:=hl j y v' e1 e2 e3
    refine⟨u',r',?_⟩
    rcases q with q | ⟨k,c',e,z'⟩
    ·exact .inl q
    ·refine .inr ⟨k,c',e,z'.sameBut hs ?_⟩
     rintro rfl
     exact hj (Cp hN e1 (I.ok.inj _ _ _ e hc ▸ hi))
  ·by_cases F8:c'=c
   ·subst F8;exact⟨_,jD⟩
   ·obtain⟨w2,z2⟩:=I.cell y c' e
    exact⟨w2,z2.sameBut hs F8⟩
  ·obtain⟨e,n,ne,nf,d⟩:=I.pin p hp
   refine⟨(hs.2 p.1 ?_).trans e,n,ne,nf,d⟩
   intro q
   rw[q,F7] at e
   have q':oc=p.2:=Option.some.inj e
   exact d w' (by rw[<- q'];exact PL)
theorem kG {M:Model} {A:Around} {E:Value->Shared->Prop} {i:Nat} {x:Str} {v:V} {u:Value} {Q:Unit->Shared->Prop} (I:Inv X pins σ H s) (hN:X.N.Nodup) (hi:X.N[i]?=some x) (hx:Loc X.env.scope x) (r:RelV v u)
  (h:∀s',Inv X pins (σ.set i (some v)) H s'->Q () s') (hf:X.fn x=true\/X.env.scope.names.lookup x=some .local:=by first|exact .inl rfl|exact .inr rfl|assumption):wpAny M A (storeName X.env x u) Q E s :=
 Jf I hN hi hx r (λs' I' _=>h s' I') hf
theorem Inv.xH {s':Shared} {ch:List Addr} (I:Inv X pins σ H s) (ho:s'.os=s.os) (u:Un (fV X.stack) ch H H' s.heap s'.heap) (aH:bX X.prog X.w H' s'.heap) (hg:AllBare s'.gens)
  (jC:∀b∈ch,(b∈X.ex\/X.cM.heap.objs.size<=b)/\b≠X.env.locals/\(∀x c,X.env.cells.lookup x=some c->c≠b)/\∀p∈X.pn++pins,p.1≠b):Inv X pins σ H' s':=by
 obtain⟨h',g',d',t',o'⟩:=s'
 have e:o'=s.os:=ho
 subst e
 exact I.call (g':=g') (t':=t') (d':=d') u aH hg jC
end
noncomputable abbrev XK:=Value->Option Addr->Hp->Prop
noncomputable abbrev St:=List (Option V)
noncomputable abbrev VK:=V->Hp->Prop
noncomputable abbrev TE:=St->Hp->VK->Prop
noncomputable abbrev TT:=St->Hp->(Bool->Hp->Prop)->Prop
noncomputable abbrev TA:=St->Hp->(List V->Hp->Prop)->Prop
structure Ends where
 nx:St->Hp->Prop
 rt:VK
 bk:St->Hp->Prop:=λ_ _=>False
 ct:St->Hp->Prop:=λ_ _=>False
noncomputable abbrev TS:=Ends->St->Hp->Prop
def EP (X:Cx) (pins:List (Addr×Obj)) (σ:St) (Q:VK) (u:Value) (s':Shared):Prop:=∃v H',Inv X pins σ H' s'/\RelV v u/\Q v H'
def TP (X:Cx) (pins:List (Addr×Obj)) (σ:St) (Q:Bool->Hp->Prop) (b:Bool) (s':Shared):Prop:=∃H',Inv X pins σ H' s'/\Q b H'
def AP (X:Cx) (pins:List (Addr×Obj)) (σ:St) (Q:List V->Hp->Prop) (us:List Value) (s':Shared):Prop:=∃vs H',Inv X pins σ H' s'/\Vals vs us/\Q vs H'
def SP (X:Cx) (pins:List (Addr×Obj)) (D:Ends) (f:Flow) (s':Shared):Prop :=
 match f with
 | .next=>∃ aT H',Inv X pins aT H' s'/\D.nx aT H'
 | .brk=>∃ aT H',Inv X pins aT H' s'/\D.bk aT H'
 | .cont=>∃ aT H',Inv X pins aT H' s'/\D.ct aT H'
 | .ret u=>∃v aT H',Inv X pins aT H' s'/\RelV v u/\D.rt v H'
def PE (X:Cx) (e:Expr) (t:TE):Prop :=
 ∀(pins:List (Addr×Obj)) (s:Shared) (σ:St) (H:Hp) (Q:VK),Inv X pins σ H s->t σ H Q->wpAny (model X.prog X.w) X.A (eval e X.env) (EP X pins σ Q) X.xe s
def PT (X:Cx) (e:Expr) (t:TT):Prop :=
 ∀(pins:List (Addr×Obj)) (s:Shared) (σ:St) (H:Hp) (Q:Bool->Hp->Prop),Inv X pins σ H s->t σ H Q->wpAny (model X.prog X.w) X.A (isTrue e X.env (eval e X.env)) (TP X pins σ Q) X.xe s
def PW (X:Cx) (e:Expr) (t:TT):Prop :=
 ∀(whole:Sem Value) (pins:List (Addr×Obj)) (s:Shared) (σ:St) (H:Hp) (Q:Bool->Hp->Prop),Inv X pins σ H s->t σ H Q->wpAny (model X.prog X.w) X.A (isTrue e X.env whole) (TP X pins σ Q) X.xe s
theorem PW.pt {X:Cx} {e:Expr} {t:TT} (h:PW X e t):PT X e t:=h _
def PA (X:Cx) (es:List Expr) (t:TA):Prop :=
 ∀(pos:Pos) (pins:List (Addr×Obj)) (s:Shared) (σ:St) (H:Hp) (Q:List V->Hp->Prop),Inv X pins σ H s->t σ H Q->wpAny (model X.prog X.w) X.A (spliced (backTo pos (starEach es X.env))) (AP X pins σ Q) X.xe s
def PS (X:Cx) (st:Stmt) (t:TS):Prop :=
 ∀(pins:List (Addr×Obj)) (s:Shared) (σ:St) (H:Hp) (D:Ends),Inv X pins σ H s->t D σ H->wpAny (model X.prog X.w) X.A (exec st X.env) (SP X pins D) X.xe s
def dq (X:Cx) (st:List Stmt) (t:TS):Prop :=
 ∀(pins:List (Addr×Obj)) (s:Shared) (σ:St) (H:Hp) (D:Ends),Inv X pins σ H s->t D σ H->wpAny (model X.prog X.w) X.A (execs st X.env) (SP X pins D) X.xe s
theorem aJ {α:Type} {t:Sem α} {Q Q':α->Shared->Prop} {M:Model} {A:Around} {E:Value->Shared->Prop} {s:Shared} (h:wpAny M A t Q E s) (hQ:∀a s,Q a s->Q' a s):wpAny M A t Q' E s:=wpAny_mono h hQ λ_ _ x=>x
end L2
namespace L2
open PySem PySem.Spec PyProof.Rows
section
variable {X:Cx}
noncomputable def PM (i:Nat):TE:=fun σ H Q=>∃v,σ[i]?=some (some v)/\Q v H
noncomputable def tC (v:V):TE:=λ_ H Q=>Q v H
theorem MX {i:Nat} {x:Str} {pos:Pos} (hN:X.N[i]?=some x) (hv:qI X.env.scope x) (hd:(x==("__debug__":Str))=false:=by decide) (i7:(x==("__classdict__":Str))=false:=by decide):PE X (.Name x pos) (PM i):=by
 intro pins s σ H Q I h
 obtain⟨v,e,h⟩:=h
 obtain⟨m,hn,hl⟩:=I.loc
 obtain⟨u,r,l⟩:=hl i x v hN e hv
 have fin:EP X pins σ Q u s:=⟨v,H,I,r,h⟩
 rcases l with ⟨hk,hm⟩ | ⟨hk,c,hc,kQ⟩
 ·exact wpAny_Name (wpAny_loadName_local I.ok.kind hk hn hm fin) hd
 ·rcases hk with hk|hk
  ·exact wpAny_Name (wpAny_loadName_cell I.ok.kind hk hc kQ fin) hd
  ·exact wpAny_Name (wpAny_loadName_free I.ok.kind hk hc kQ fin i7) hd
theorem D1 {i j pos}:PE X (.Constant (.int i) j pos) (tC (.int i)):=λ_ _ _ H _ I h=>wpAny_Constant_int ⟨.int i,H,I.tok _,⟨_,rfl⟩,h⟩
theorem Om {b j pos}:PE X (.Constant (.bool b) j pos) (tC (.bl b)):=λ_ _ _ H _ I h=>Constant_bool ⟨.bl b,H,I,rfl,h⟩
theorem MY {x j pos}:PE X (.Constant (.str x) j pos) (tC (.str x)):=λ_ _ _ H _ I h=>Calls.Constant_str ⟨.str x,H,I.tok _,⟨_,rfl⟩,h⟩
def Gl (X:Cx) (x:Str):Prop:=X.env.kindOf x=some .globalImplicit
theorem C6 {E:Value->Shared->Prop} {pins:List (Addr×Obj)} {s:Shared} {σ:St} {H:Hp} {x:Str} {u:Value} {pos:Pos} {Q:Value->Shared->Prop} (I:Inv X pins σ H s) (hg:Gl X x) (hm:X.mg x=some u) (h:Q u s)
  (hd:(x==("__debug__":Str))=false:=by decide):wpAny (model X.prog X.w) X.A (eval (.Name x pos) X.env) Q E s :=
 Calls.Name_function_global I.ok.kind hg (Calls.loadGlobal_global (by rw[I.ok.glob];exact I.mod.glob.keeps I.bk) hm h) hd
theorem kK {E:Value->Shared->Prop} {pins:List (Addr×Obj)} {s:Shared} {σ:St} {H:Hp} {x:Str} {u:Value} {pos:Pos} {Q:Value->Shared->Prop} (I:Inv X pins σ H s) (hg:Gl X x) (hm:X.mg x=none) (hv:bootBuiltins x=some u) (h:Q u s)
  (hn:x≠"__name__":=by decide) (hd:(x==("__debug__":Str))=false:=by decide):wpAny (model X.prog X.w) X.A (eval (.Name x pos) X.env) Q E s:=by
 obtain⟨mb,h1,h2⟩:=I.mod.blt
 exact Calls.Name_function_global I.ok.kind hg (Calls.loadGlobal_builtin (by rw[I.ok.glob];exact I.mod.glob.keeps I.bk) hm (by rw[I.ok.blt];exact h1.keeps I.bk) ((h2 x hn).trans hv) h) hd
theorem Lz {x:Str} {v:V} {u:Value} {pos:Pos} (hg:Gl X x) (hm:X.mg x=some u) (r:RelV v u) (hd:(x==("__debug__":Str))=false:=by decide):PE X (.Name x pos) (tC v) :=
 λ_ _ _ H _ I h=>C6 I hg hm ⟨v,H,I,r,h⟩ hd
theorem wC {x:Str} {v:V} {u:Value} {pos:Pos} (hg:Gl X x) (hm:X.mg x=none) (hv:bootBuiltins x=some u) (r:RelV v u) (hn:x≠"__name__":=by decide) (hd:(x==("__debug__":Str))=false:=by decide):PE X (.Name x pos) (tC v) :=
 λ_ _ _ H _ I h=>kK I hg hm hv ⟨v,H,I,r,h⟩ hn hd
variable {a b:Expr} {ta tb:TE} {pos:Pos}
variable {tA uX:TT} {rest:List Expr}
noncomputable def cm (t u:TT):TT:=fun σ H Q=>t σ H λc H1=>if c=true then u σ H1 Q else Q false H1
noncomputable def fW (t u:TT):TT:=fun σ H Q=>t σ H λc H1=>if c=true then Q true H1 else u σ H1 Q
noncomputable def ei (t:TT):TT:=fun σ H Q=>t σ H λc H1=>Q (!c) H1
theorem LA (ha:PT X a tA):PW X (.BoolOp .And [a] pos) tA:=by
 intro wh pins s σ H Q I h
 refine isTrue_and (aJ (ha pins s σ H Q I h) λc s1 e=>?_)
 cases c with
 |true=>exact isTrue_and_nil e
 |false=>exact e
theorem MZ (ha:PT X a tA):PW X (.BoolOp .Or [a] pos) tA:=by
 intro wh pins s σ H Q I h
 refine isTrue_or (aJ (ha pins s σ H Q I h) λc s1 e=>?_)
 cases c with
 |false=>exact isTrue_or_nil e
 |true=>exact e
theorem M0 (ha:PT X a tA) (hb:PW X (.BoolOp .And (b::rest) pos) uX):PW X (.BoolOp .And (a::b::rest) pos) (cm tA uX):=by
 intro wh pins s σ H Q I h
 refine isTrue_and (aJ (ha pins s σ H _ I h) λc s1 ⟨H1,I1,q1⟩=>?_)
 cases c with
 |true=>exact hb wh pins s1 σ H1 Q I1 q1
 |false=>exact⟨H1,I1,q1⟩
theorem Oo (ha:PT X a tA) (hb:PW X (.BoolOp .Or (b::rest) pos) uX):PW X (.BoolOp .Or (a::b::rest) pos) (fW tA uX):=by
 intro wh pins s σ H Q I h
 refine isTrue_or (aJ (ha pins s σ H _ I h) λc s1 ⟨H1,I1,q1⟩=>?_)
 cases c with
 |true=>exact⟨H1,I1,q1⟩
 |false=>exact hb wh pins s1 σ H1 Q I1 q1
theorem M3 (ha:PT X a tA):PT X (.UnaryOp .Not a pos) (ei tA):=by
 intro pins s σ H Q I h
 exact isTrue_not (ha pins s σ H (λc H1=>Q (!c) H1) I h)
noncomputable def Oq (ta tb:TE):TE:=fun σ H Q=>ta σ H λx H1=>∃c,x=.bl c/\if c=true then tb σ H1 Q else Q (.bl false) H1
noncomputable def PN (ta tb:TE):TE:=fun σ H Q=>ta σ H λx H1=>∃c,x=.bl c/\if c=true then Q (.bl true) H1 else tb σ H1 Q
noncomputable def Ot (ta:TE):TE:=fun σ H Q=>ta σ H λx H1=>∃c,x=.bl c/\Q (.bl (!c)) H1
theorem M4 {op} {t:TE} (h:PE X a t):PE X (.BoolOp op [a] pos) t:=λpins s σ H Q I hw=>BoolOp_one (h pins s σ H Q I hw)
theorem M5 (ha:PE X a ta) (hb:PE X (.BoolOp .And (b::rest) pos) tb):PE X (.BoolOp .And (a::b::rest) pos) (Oq ta tb):=by
 intro pins s σ H Q I h
 refine BoolOp_and (aJ (ha pins s σ H _ I h) λv s1 ⟨x,H1,I1,r1,q1⟩=>?_)
 obtain⟨c,rfl,q1⟩:=q1
 cases r1
 refine wpAny_truthy_bool ?_
 cases c with
 |true=>exact hb pins s1 σ H1 Q I1 q1
 |false=>exact⟨.bl false,H1,I1,rfl,q1⟩
theorem Ou (ha:PE X a ta) (hb:PE X (.BoolOp .Or (b::rest) pos) tb):PE X (.BoolOp .Or (a::b::rest) pos) (PN ta tb):=by
 intro pins s σ H Q I h
 refine BoolOp_or (aJ (ha pins s σ H _ I h) λv s1 ⟨x,H1,I1,r1,q1⟩=>?_)
 obtain⟨c,rfl,q1⟩:=q1
 cases r1
 refine wpAny_truthy_bool ?_
 cases c with
 |false=>exact hb pins s1 σ H1 Q I1 q1
 |true=>exact⟨.bl true,H1,I1,rfl,q1⟩
theorem M6 (ha:PE X a ta):PE X (.UnaryOp .Not a pos) (Ot ta):=by
 intro pins s σ H Q I h
 refine UnaryOp_ (aJ (ha pins s σ H _ I h) λv s1 ⟨x,H1,I1,r1,q1⟩=>?_)
 obtain⟨c,rfl,q1⟩:=q1
 cases r1
 exact not_of (wpAny_truthy_bool ⟨.bl (!c),H1,I1,rfl,q1⟩)
end
end L2
namespace L2
open PySem PySem.Spec PyProof.Rows
def bG (K:Frag) (H:Hp) (a:Addr) (xs:List V):Prop :=
 Rd H a (.lst xs) \/
  ∃(o:Obj) (its:Array Value) (n:Nat),K.lookup a=some o/\o.cls=.type "list"/\o.dict=none/\o.data=.seq its n/\its.size<=sizeLine/\Vals xs its.toList
def aR (K:Frag) (H:Hp) (a:Addr) (xs:List V):Prop :=
 Rd H a (.tup xs) \/
  ∃(o:Obj) (its:Array Value) (n:Nat),K.lookup a=some o/\o.cls=.type "tuple"/\o.data=.seq its n/\its.size<=sizeLine/\Vals xs its.toList
noncomputable def PQ:Value->Option V
 | .none=>some .aA
 | .bool b=>some (.bl b)
 | .int i _=>some (.int i)
 | .str x _=>some (.str x)
 | .bytes b _=>some (.ie b)
 | .float b _=>some (.qG b)
 | .ref a=>some (.ref a)
 | .type n=>some (.ty n)
 |_=>none
theorem RelV.abs {x:V} {u:Value} (r:RelV x u):PQ u=some x:=by
 cases x with
 |aA=>cases r;rfl
 |bl _=>cases r;rfl
 |int _=>obtain⟨t,rfl⟩:=r;rfl
 |str _=>obtain⟨t,rfl⟩:=r;rfl
 |ie _=>obtain⟨t,rfl⟩:=r;rfl
 |qG _=>obtain⟨t,rfl⟩:=r;rfl
 |ref _=>cases r;rfl
 |ty _=>cases r;rfl
theorem RelV.inj {x y:V} {u:Value} (r:RelV x u) (q:RelV y u):x=y:=Option.some.inj (r.abs.symm.trans q.abs)
theorem Vals.inj:∀{xs ys:List V} {us:List Value},Vals xs us->Vals ys us->xs=ys
 |_,_,_,.nil,.nil=>rfl
 |_,_,_,.cons r t,.cons r' t'=>by rw[r.inj r',Vals.inj t t']
section
variable {X:Cx} {pins:List (Addr×Obj)} {σ:St} {H:Hp} {s:Shared} {a:Addr} {xs ys:List V}
theorem bG.of {K:Frag} (h:H a=some (.lst xs)):bG K H a xs:=.inl (.inl h)
theorem aR.of {K:Frag} (h:H a=some (.tup xs)):aR K H a xs:=.inl (.inl h)
theorem Inv.list (I:Inv X pins σ H s) (h:bG X.K H a xs):∃its:List Value,Vals xs its/\PlainL s.heap a its.toArray/\xs.length<=sizeLine:=by
 rcases h with h | ⟨o,its,n,hk,hc,hd,hs,hz,r⟩
 ·obtain⟨z,its,n,r,e⟩:=h.ok I.aH
  exact⟨its,r,⟨_,n,e,rfl,rfl,rfl⟩,z⟩
 ·refine⟨its.toList,r,⟨o,n,I.oS a o hk,hc,hd,by simpa using hs⟩,?_⟩
  have e:=r.length
  simp only[Array.length_toList] at e
  omega
theorem Inv.tuple (I:Inv X pins σ H s) (h:aR X.K H a xs):∃its:List Value,Vals xs its/\IsTup s.heap a its.toArray/\xs.length<=sizeLine:=by
 rcases h with h | ⟨o,its,n,hk,hc,hs,hz,r⟩
 ·obtain⟨z,its,r,p⟩:=h.ok I.aH
  exact⟨its,r,p,z⟩
 ·refine⟨its.toList,r,⟨o,I.oS a o hk,hc,n,by simpa using hs⟩,?_⟩
  have e:=r.length
  simp only[Array.length_toList] at e
  omega
theorem Inv.Kf (I:Inv X pins σ H s) (h:bG X.K H a xs) (h':bG X.K H a ys):xs=ys:=by
 obtain⟨its,r,⟨o,n,e,_,_,d⟩,_⟩:=I.list h
 obtain⟨its',r',⟨o',n',e',_,_,d'⟩,_⟩:=I.list h'
 rw[e] at e';cases e'
 rw[d] at d'
 injection d' with d1 _
 have:its=its':=by simpa using congrArg Array.toList d1
 subst this
 exact r.inj r'
theorem Inv.vK (I:Inv X pins σ H s) (h:aR X.K H a xs) (h':aR X.K H a ys):xs=ys:=by
 obtain⟨its,r,⟨o,e,_,n,d⟩,_⟩:=I.tuple h
 obtain⟨its',r',⟨o',e',_,n',d'⟩,_⟩:=I.tuple h'
 rw[e] at e';cases e'
 rw[d] at d'
 injection d' with d1 _
 have:its=its':=by simpa using congrArg Array.toList d1
 subst this
 exact r.inj r'
end
noncomputable abbrev Cx.ju (X:Cx) (E:Value->Shared->Prop):Cx:={ X with xe:=E }
noncomputable abbrev Cx.qN (X:Cx):Cx:=X.ju λ_ _=>False
theorem Cx.Ok.ju {X:Cx} (ok:X.Ok) (E:Value->Shared->Prop):(X.ju E).Ok :=
 ⟨ok.mod,ok.kind,ok.glob,ok.blt,ok.above,ok.inj,ok.has,ok.qJ,ok.hd,ok.frames,ok.uV,ok.F3,ok.bs,ok.i6,ok.mC,ok.uz,ok.iV,ok.oR⟩
theorem Cx.Ok.kL {X:Cx} {E:Value->Shared->Prop} (ok:(X.ju E).Ok):X.Ok :=
 ⟨ok.mod,ok.kind,ok.glob,ok.blt,ok.above,ok.inj,ok.has,ok.qJ,ok.hd,ok.frames,ok.uV,ok.F3,ok.bs,ok.i6,ok.mC,ok.uz,ok.iV,ok.oR⟩
section
variable {X:Cx} {pins:List (Addr×Obj)} {σ:St} {H:Hp} {s:Shared} {E:Value->Shared->Prop}
theorem Inv.ju (I:Inv X pins σ H s) (E:Value->Shared->Prop):Inv (X.ju E) pins σ H s:=⟨I.ok.ju E,I.os,I.bare,I.base,I.loc,I.cell,I.free,I.dZ,I.pin,I.aH,I.len⟩
theorem Inv.kL (I:Inv (X.ju E) pins σ H s):Inv X pins σ H s:=⟨I.ok.kL,I.os,I.bare,I.base,I.loc,I.cell,I.free,I.dZ,I.pin,I.aH,I.len⟩
theorem SP.kL {D:Ends} {f:Flow} {s':Shared} (h:SP (X.ju E) pins D f s'):SP X pins D f s':=by
 cases f with
 |next=>obtain⟨aT,H',I,q⟩:=h;exact⟨aT,H',I.kL,q⟩
 |brk=>obtain⟨aT,H',I,q⟩:=h;exact⟨aT,H',I.kL,q⟩
 |cont=>obtain⟨aT,H',I,q⟩:=h;exact⟨aT,H',I.kL,q⟩
 |ret u=>obtain⟨v,aT,H',I,r,q⟩:=h;exact⟨v,aT,H',I.kL,r,q⟩
theorem dq.qN {st:List Stmt} {t:TS} (h:dq X.qN st t):dq X st t:=λpins s σ H D I hw =>
 wpAny_mono (h pins s σ H D (I.ju _) hw) (λ_ _ q=>q.kL) λ_ _ z=>False.elim z
end
section
variable {X:Cx} {st:Stmt} {rest:List Stmt} {t u:TS} {e:Expr} {te:TE} {pos:Pos}
noncomputable def Ov:TS:=λD σ H=>D.nx σ H
noncomputable def PR (t u:TS):TS:=λD σ H=>t { D with nx:=u D } σ H
theorem LB:dq X [] Ov:=λ_ _ σ H _ I h=>wpAny_execs_nil ⟨σ,H,I,h⟩
theorem Kg (h1:PS X st t) (h2:dq X rest u):dq X (st::rest) (PR t u):=by
 intro pins s σ H D I h
 refine wpAny_execs_cons (aJ (h1 pins s σ H { D with nx:=u D } I h) λf s1 q=>?_)
 cases f with
 |next =>
  obtain⟨aT,H',I',q⟩:=q
  exact h2 pins s1 aT H' D I' q
 |ret v=>exact q
 |brk=>exact q
 |cont=>exact q
theorem LC (h1:PS X st t):dq X [st] t:=by
 intro pins s σ H D I h
 refine wpAny_execs_cons (aJ (h1 pins s σ H D I h) λf s1 q=>?_)
 cases f with
 |next=>exact wpAny_execs_nil q
 |ret v=>exact q
 |brk=>exact q
 |cont=>exact q
noncomputable def Ow:TS:=λD σ H=>D.ct σ H
theorem HP:PS X (.Continue pos) Ow:=λ_ _ σ H _ I h=>wpAny_Continue ⟨σ,H,I,h⟩
theorem Inv.quiet {pins:List (Addr×Obj)} {σ:St} {H:Hp} {s:Shared} (I:Inv X pins σ H s):interactive X.env=false:=by simp[interactive,I.ok.kind]
noncomputable def Ox (te:TE):TS:=λD σ H=>te σ H λ_ H1=>D.nx σ H1
theorem LD (he:PE X e te) (hs:swapsWith e none pos.line X.env=pure false:=by rfl):PS X (.Expr e pos) (Ox te):=by
 intro pins s σ H D I h
 exact wpAny_Expr_any (aJ (he pins s σ H _ I h) λv s1 ⟨x,H1,I1,r1,q1⟩=>⟨σ,H1,I1,q1⟩) I.quiet hs
noncomputable def PU (te:TE):TS:=λD σ H=>te σ H D.rt
theorem M7 (he:PE X e te):PS X (.Return (some e) pos) (PU te):=by
 intro pins s σ H D I h
 exact wpAny_Return_some (aJ (he pins s σ H _ I h) λv s1 ⟨x,H1,I1,r1,q1⟩=>⟨x,σ,H1,I1,r1,q1⟩)
noncomputable def PV (c:TT) (t u:TS):TS:=λD σ H=>c σ H λb H1=>if b=true then t D σ H1 else u D σ H1
theorem Oy {c:Expr} {a b:List Stmt} {tc:TT} (hc:PT X c tc) (ha:dq X a t) (hb:dq X b u):PS X (.If c a b pos) (PV tc t u):=by
 intro pins s σ H D I h
 refine wpAny_If (aJ (hc pins s σ H _ I h) λd s1 ⟨H1,I1,q1⟩=>?_)
 cases d with
 |true=>exact ha pins s1 σ H1 D I1 q1
 |false=>exact hb pins s1 σ H1 D I1 q1
end
noncomputable abbrev TG:=V->St->Hp->(St->Hp->Prop)->Prop
noncomputable abbrev gn:=List V->St->Hp->(St->Hp->Prop)->Prop
def PG (X:Cx) (target:Expr) (t:TG):Prop :=
 ∀(pins:List (Addr×Obj)) (s:Shared) (σ:St) (H:Hp) (v:V) (u:Value) (Q:St->Hp->Prop),Inv X pins σ H s->RelV v u->t v σ H Q ->
  wpAny (model X.prog X.w) X.A (assign target X.env u) (λ_ s'=>∃ aT H',Inv X pins aT H' s'/\Q aT H') X.xe s
def jE (X:Cx) (ts:List Expr) (t:gn):Prop :=
 ∀(pins:List (Addr×Obj)) (s:Shared) (σ:St) (H:Hp) (vs:List V) (us:List Value) (Q:St->Hp->Prop),Inv X pins σ H s->Vals vs us->t vs σ H Q ->
  wpAny (model X.prog X.w) X.A (assignInOrder ((assignEach ts X.env).map (·.2)) us) (λ_ s'=>∃ aT H',Inv X pins aT H' s'/\Q aT H') X.xe s
noncomputable abbrev uA:=V->V->V->Hp->(Hp->Prop)->Prop
def yg (X:Cx) (t:uA):Prop :=
 ∀(pins:List (Addr×Obj)) (s:Shared) (σ:St) (H:Hp) (o i v:V) (ov iv u:Value) (Q:Hp->Prop),Inv X pins σ H s->RelV o ov->RelV i iv->RelV v u->t o i v H Q ->
  wpAny (model X.prog X.w) X.A (setItem ov iv u) (λ_ s'=>∃H',Inv X pins σ H' s'/\Q H') X.xe s
section
variable {X:Cx} {pos:Pos}
noncomputable def kb (i:Nat):TG:=λv σ H Q=>Q (σ.set i (some v)) H
theorem bI {i:Nat} {x:Str} (hN:X.N.Nodup) (hi:X.N[i]?=some x) (hx:Loc X.env.scope x) (hf:X.fn x=true\/X.env.scope.names.lookup x=some .local:=by first|exact .inl rfl|exact .inr rfl|assumption):PG X (.Name x pos) (kb i):=by
 intro pins s σ H v u Q I r h
 exact wpAny_assign_Name (kG I hN hi hx r (λs' I'=>⟨_,H,I',h⟩) hf)
noncomputable def yh:gn:=λvs σ H Q=>vs=[]/\Q σ H
noncomputable def xI (t:TG) (u:gn):gn:=λvs σ H Q=>∃v r,vs=v::r/\t v σ H fun aT H'=>u r aT H' Q
theorem sZ:jE X [] yh:=by
 intro pins s σ H vs us Q I r h
 obtain⟨e,h⟩:=h
 subst e
 cases r
 exact assignInOrder_nil ⟨σ,H,I,h⟩
theorem lO {e:Expr} {es:List Expr} {t:TG} {u:gn} (h1:PG X e t) (h2:jE X es u)
  (hs:(assignEach (e::es) X.env).map (·.2)=assign e X.env::(assignEach es X.env).map (·.2):=by rfl):jE X (e::es) (xI t u):=by
 intro pins s σ H vs us Q I r h
 obtain⟨v,vr,e1,h⟩:=h
 subst e1
 cases r with
 |cons r rr =>
  rw[hs]
  refine assignInOrder_cons (aJ (h1 pins s σ H _ _ _ I r h) λ_ s1 ⟨F9,H1,I1,q1⟩=>?_)
  exact h2 pins s1 F9 H1 _ _ Q I1 rr q1
noncomputable def yi (K:Frag) (n:Nat) (t:gn):TG:=λv σ H Q=>∃a xs,v=.ref a/\aR K H a xs/\xs.length=n/\t xs σ H Q
theorem lT {es:List Expr} {k:Nat} {t:gn} {n:Nat} (hc:X.calm=true) (h:jE X es t)
  (hn:(assignEach es X.env).length=n:=by rfl) (qO:(assignEach es X.env).findIdx? (·.1)=none:=by rfl):PG X (.Tuple es k pos) (yi X.K n t):=by
 intro pins s σ H v u Q I r hw
 obtain⟨a,xs,e1,hq,hl,hw⟩:=hw
 subst e1
 cases r
 obtain⟨its,rv,ht,hz⟩:=I.tuple hq
 refine assign_Tuple_tuple (I.ok.hd hc) ht (by simp[hn,<- hl,rv.length]) qO λh' hx=>?_
 have I1:Inv X pins σ H { s with heap:=h' }:=I.kept (t':=s.toks) λb o e=>hx b o (Nat.ne_of_lt (Heap.lt_size e)) e
 exact h pins _ σ H xs _ Q I1 (by simpa using rv) hw
noncomputable def PX (to ti:TE) (t:uA):TG:=λv σ H Q=>to σ H λo H1=>ti σ H1 λi H2=>t o i v H2 λH3=>Q σ H3
theorem D2 {o i:Expr} {to ti:TE} {t:uA} (ho:PE X o to) (hi:PE X i ti) (hs:yg X t)
  (ha:∀v,assign (.Subscript o i pos) X.env v=(do
   let ov <- holding [v] (eval o X.env)
   let iv <- holding [v,ov] (eval i X.env)
   standAt pos
   holding [v,ov,iv] (setItem ov iv v)
   release [v,ov,iv] []):=by intro _;rfl):PG X (.Subscript o i pos) (PX to ti t):=by
 intro pins s σ H v u Q I r h
 rw[ha]
 refine wpAny_bind (wpAny_holding (aJ (ho pins s σ H _ I h) λov s1 ⟨x,H1,I1,r1,q1⟩=>?_))
 refine wpAny_bind (wpAny_holding (aJ (hi pins s1 σ H1 _ I1 q1) λiv s2 ⟨y,H2,I2,r2,q2⟩=>?_))
 refine wpAny_bind (wpAny_standAt (wpAny_bind (wpAny_holding (aJ (hs pins s2 σ H2 x y v ov iv u _ I2 r1 r2 r q2) λ_ s3 ⟨H3,I3,q3⟩=>?_))))
 exact wpAny_release ⟨σ,H3,I3,q3⟩
noncomputable def oy (te:TE) (g:TG):TS:=λD σ H=>te σ H λx H1=>g x σ H1 D.nx
theorem xg {tg e:Expr} {te:TE} {g:TG} (he:PE X e te) (hg:PG X tg g) (hs:swapsWithSole [tg] e pos.line X.env=pure false:=by rfl) (hw:swappedStores [tg] e X.env=pure none:=by rfl)
  (h1:(assignEach [tg] X.env).map (·.2)=[assign tg X.env]:=by rfl):PS X (.Assign [tg] e pos) (oy te g):=by
 intro pins s σ H D I h
 refine wpAny_Assign_stores (aJ (he pins s σ H _ I h) λv s1 ⟨x,H1,I1,r1,q1⟩=>?_) hs hw
 rw[h1]
 exact aJ (hg pins s1 σ H1 x v _ I1 r1 q1) λ_ s2 q=>q
theorem M8 {i:Nat} {x:Str} {e:Expr} {te:TE} {pos':Pos} (hN:X.N.Nodup) (hi:X.N[i]?=some x) (hx:Loc X.env.scope x) (he:PE X e te) (hs:swapsWith e (some (.Name x pos')) pos.line X.env=pure false:=by rfl) (hf:X.fn x=true\/X.env.scope.names.lookup x=some .local:=by first|exact .inl rfl|exact .inr rfl|assumption) :
  PS X (.Assign [.Name x pos'] e pos) (oy te (kb i)):=by
 intro pins s σ H D I h
 refine wpAny_Assign_Name (aJ (he pins s σ H _ I h) λv s1 ⟨y,H1,I1,r1,q1⟩=>?_) hs
 exact kG I1 hN hi hx r1 (λs2 I2=>⟨_,H1,I2,q1⟩) hf
noncomputable def PY (i j:Nat) (ta:TA):TS:=λD σ H=>ta σ H λvs H1=>∃v w,vs=[v,w]/\D.nx ((σ.set i (some v)).set j (some w)) H1
theorem M9 {i j:Nat} {x y:Str} {a b:Expr} {ta:TA} {px py pt:Pos} {kt k2 gp} (hc:X.calm=true) (hN:X.N.Nodup) (hi:X.N[i]?=some x) (hj:X.N[j]?=some y) (dH:i≠j)
  (hx:X.env.scope.names.lookup x=some .local) (hy:X.env.scope.names.lookup y=some .local) (ha:PA X [a,b] ta)
  (hw:swappedStores [.Tuple [.Name x px,.Name y py] kt pt] (.Tuple [a,b] k2 gp) X.env=pure (some [x,y]))
  (hs:swapsWithSole [.Tuple [.Name x px,.Name y py] kt pt] (.Tuple [a,b] k2 gp) pos.line X.env=pure false:=by rfl) :
  PS X (.Assign [.Tuple [.Name x px,.Name y py] kt pt] (.Tuple [a,b] k2 gp) pos) (PY i j ta):=by
 intro pins s σ H D I h
 rw[exec_Assign_arm]
 refine wpAny_bind (wpAny_standAt ?_)
 rw[hs]
 refine wpAny_bind (wpAny_pure ?_)
 rw[if_neg (by decide)]
 refine wpAny_bind (Tuple_ (aJ (ha _ pins s σ H _ I h) λus s1 ⟨vs,H1,I1,r1,q1⟩=>?_))
 obtain⟨v,w,e1,q1⟩:=q1
 subst e1
 obtain⟨u1,u2,rfl,rv,mS⟩:∃u1 u2,us=[u1,u2]/\RelV v u1/\RelV w u2:=by
  cases r1 with
  |cons p q =>
   cases q with
   |cons p' q' =>
    cases q'
    exact⟨_,_,rfl,p,p'⟩
 refine wpAny_newObj_type ?_ (by show 2<=sizeLine;decide)
 have I2:Inv X pins σ H1 { s1 with heap:=s1.heap.push { cls:=.type "tuple",data:=.seq [u1,u2].toArray } }:=I1.kept (t':=s1.toks) λb o e=>Heap.get?_push_of_some _ e
 rw[hw]
 refine wpAny_bind (wpAny_pure ?_)
 show wpAny (model X.prog X.w) X.A (do rule "assign.swapped-stores";let items <- unpackItems (.ref s1.heap.objs.size) 2 none;assignInOrder [λv=>bindName X.env y v,λv=>bindName X.env x v] items.reverse;pure Flow.next) _ _ _
 refine wpAny_bind (wpAny_rule (wpAny_bind (unpackItems_tuple (items:=#[u1,u2]) (I.ok.hd hc) (IsTup.new s1.heap _) λh' yS=>?_)))
 have I3:=I2.kept (h':=h') (t':=s1.toks) λb o e=>yS b o (Nat.ne_of_lt (Heap.lt_size e)) e
 show wpAny _ _ (assignInOrder [λv=>bindName X.env y v,λv=>bindName X.env x v] [u2,u1] >>= λ_=>pure Flow.next) _ _ _
 refine wpAny_bind (assignInOrder_cons (wpAny_bindName (kG I3 hN hj (.inl hy) mS (λs2 I4=>?_) (.inr hy))))
 refine assignInOrder_cons (wpAny_bindName (kG I4 hN hi (.inl hx) rv (λs3 I5=>assignInOrder_nil (wpAny_pure ?_)) (.inr hx)))
 rw[List.set_comm _ _ (Ne.symm dH)] at I5
 exact⟨_,H1,I5,q1⟩
end
section
variable {X:Cx} {pos:Pos}
end
structure It where
 go:Nat->Hp->Prop
 qP:Nat->Hp->V->Hp->Prop
 stop:Nat->Hp->Prop
def fC (X:Cx) (pins:List (Addr×Obj)) (H:Hp) (b:Addr):Prop :=
 H b=none/\b≠X.env.locals/\b∉X.fs/\(b∈X.ex\/X.cM.heap.objs.size<=b)/\(∀x c,X.env.cells.lookup x=some c->c≠b)/\∀p∈X.pn++pins,p.1≠b
theorem Inv.oz {X:Cx} {pins:List (Addr×Obj)} {σ:St} {H H':Hp} {s:Shared} {b:Addr} (I:Inv X pins σ H s) (hb:s.heap.objs.size<=b) (hn:H' b=none):fC X pins H' b:=by
 refine⟨hn,Nat.ne_of_gt (Nat.lt_of_lt_of_le I.lt hb),I.qv hb,.inr (Nat.le_trans I.sz hb),λx c e z=>?_,λp hp z=>?_⟩
 ·obtain⟨v,q⟩:=I.cell x c e
  exact absurd (Nat.lt_of_lt_of_le q.lt (by rw[z];exact hb)) (Nat.lt_irrefl _)
 ·exact absurd (Nat.lt_of_lt_of_le (Heap.lt_size (I.pin p hp).1) (by rw[z];exact hb)) (Nat.lt_irrefl _)
structure Turn (P:Program) (w:World) (K:Frag) (tg:Expr) (J:It) (fp:List Addr) (it:Addr) (tn:Nat->Heap->Prop):Prop where
 mem:it∈fp
 obj:∀i h,tn i h->∀b∈fp,∃o,h.get? b=some o/\∀v,o.data≠.cell v
 keep:∀i h h',tn i h->(∀b∈fp,∀o,h.get? b=some o->h'.get? b=some o)->tn i h'
 item:∀(X:Cx),X.prog=P->X.w=w->X.K=K->X.calm=true->∀(i:Nat) (pins:List (Addr×Obj)) (s:Shared) (σ:St) (H:Hp) (E:Value->Shared->Prop),Inv X pins σ H s->(∀b∈fp,fC X pins H b)->tn i s.heap->J.go i H ->
  wpAny (model P w) X.A (pyNext (.ref it)) (λr s1=>∃u,r=some u /\
   wpAny (model P w) X.A (letOwnedTupleGo tg (.ref it) u) (λ_ s2=>∃x H',Inv X pins σ H' s2/\RelV x u/\J.qP i H x H'/\tn (i+1) s2.heap/\∀b∈fp,H' b=none) E s1) E s
 done:∀(X:Cx),X.prog=P->X.w=w->X.K=K->X.calm=true->∀(i:Nat) (pins:List (Addr×Obj)) (s:Shared) (σ:St) (H:Hp) (E:Value->Shared->Prop),Inv X pins σ H s->(∀b∈fp,fC X pins H b)->tn i s.heap->J.stop i H ->
  wpAny (model P w) X.A (pyNext (.ref it)) (λr s1=>r=none/\Inv X pins σ H s1) E s
 self:∀(A:Around) (i:Nat) (s:Shared) (Q:Value->Shared->Prop) (E:Value->Shared->Prop),tn i s.heap->Q (.ref it) s->wpAny (model P w) A (pyIter (.ref it)) Q E s
noncomputable abbrev TI:=St->Hp->(It->Hp->Prop)->Prop
def Ga (X:Cx) (pins:List (Addr×Obj)) (σ:St) (tg:Expr) (R:It->Hp->Prop) (gr:Value) (s2:Shared):Prop :=
 ∃(it:Addr) (fp:List Addr) (tn:Nat->Heap->Prop) (J:It) (H':Hp),gr=.ref it/\Inv X pins σ H' s2/\Turn X.prog X.w X.K tg J fp it tn/\tn 0 s2.heap/\(∀b∈fp,fC X pins H' b)/\R J H'
def PI (X:Cx) (tg iter:Expr) (wi:TI):Prop :=
 ∀(pins:List (Addr×Obj)) (s:Shared) (σ:St) (H:Hp) (R:It->Hp->Prop),Inv X pins σ H s->wi σ H R ->
  wpAny (model X.prog X.w) X.A (eval iter X.env) (λv s1=>wpAny (model X.prog X.w) X.A (pyIter v) (Ga X pins σ tg R) X.xe s1) X.xe s
theorem t9 {M:Model} {A:Around} {E:Value->Shared->Prop} {s:Shared} {tg:Expr} {it:Addr} {u:Value} {o:Obj} {n:String} {vs:Array Value} {Q:Unit->Shared->Prop} (ho:s.heap.get? it=some o) (hc:o.cls=.type n) (hd:o.data=.fields vs)
  (hn:["enumerate","zip","dict_itemiterator","dict_reverseitemiterator","odict_iterator","itertools.zip_longest","itertools.pairwise"].contains n=false) (hQ:Q () s):wpAny M A (letOwnedTupleGo tg (.ref it) u) Q E s:=by
 unfold letOwnedTupleGo
 cases tg<;>first
  |exact wpAny_pure hQ
  |(cases u<;>first
    |exact wpAny_pure hQ
    |(refine wpAny_bind (wpAny_load ho ?_)
      rw[hc,hd]
      show wpAny M A (if (["enumerate","zip","dict_itemiterator","dict_reverseitemiterator","odict_iterator","itertools.zip_longest","itertools.pairwise"].contains n&&vs[0]?==some (rawInt _))=true then _ else _) Q E s
      rw[if_neg (by intro h;rw[hn,Bool.false_and] at h;cases h)]
      exact wpAny_pure hQ))
noncomputable def yT (K:Frag) (a:Addr):It :=
 ⟨λi H=>∃xs x,bG K H a xs/\xs[i]?=some x,λi H x H'=>H'=H/\∀xs,bG K H a xs->xs[i]?=some x,λi H=>∃xs,bG K H a xs/\xs.length<=i⟩
noncomputable def yU (K:Frag) (a:Addr):It :=
 ⟨λi H=>∃xs x,aR K H a xs/\xs[i]?=some x,λi H x H'=>H'=H/\∀xs,aR K H a xs->xs[i]?=some x,λi H=>∃xs,aR K H a xs/\xs.length<=i⟩
noncomputable def qQ (lo:Int) (n:Nat):It:=⟨λi _=>i<n,λi H x H'=>H'=H/\x=.int (lo+i),λi _=>n<=i⟩
theorem Jg {P:Program} {w:World} {K:Frag} {tg:Expr} (a it:Addr):Turn P w K tg (yT K a) [it] it (λi h=>h.IsListIter it a i) where
 mem:=by simp
 obj:=λi h st b hb=>by
  have e:b=it:=by simpa using hb
  subst e
  obtain⟨o,e,c,d⟩:=st
  exact⟨o,e,λv z=>by rw[d] at z;cases z⟩
 keep:=λi h h' st k=>st.at λo e=>k it (by simp) o e
 item:=by
  intro X hP hw hK hc i pins s σ H E I hf st hg
  subst hP hw hK
  obtain⟨xs,x,hq,hx⟩:=hg
  obtain⟨its,rv,p,hz⟩:=I.list hq
  obtain⟨u,hu,ru⟩:=rv.get hx
  obtain⟨f0,f1,f2,f3,f4,f5⟩:=hf it (by simp)
  refine wpAny_pyNext_list_item st p.isList (x:=u) (by simpa using hu) λh' cT sb=>?_
  have I1:Inv X pins σ H { s with heap:=h' }:=I.turned (t':=s.toks) (λb o hb e=>(sb.2 b hb).trans e) f0 f1 f3 f4 f5
  obtain⟨o,e,c,d⟩:=id cT
  exact⟨u,rfl,t9 (s:={ s with heap:=h' }) e c d (by decide) ⟨x,H,I1,ru,⟨rfl,λys hy=>by rw[I.Kf hy hq];exact hx⟩,cT,λb hb=>(hf b hb).1⟩⟩
 done:=by
  intro X hP hw hK hc i pins s σ H E I hf st hg
  subst hP hw hK
  obtain⟨xs,hq,hx⟩:=hg
  obtain⟨its,rv,p,hz⟩:=I.list hq
  obtain⟨f0,f1,f2,f3,f4,f5⟩:=hf it (by simp)
  have hl:=rv.length
  exact wpAny_pyNext_list_end (I.ok.hd hc) st p.isList (by simp;omega) λh' eb=>⟨rfl,I.turned (t':=s.toks) (λb o hb e=>eb b o hb e) f0 f1 f3 f4 f5⟩
 self:=λ_ _ _ _ _ st h=>wpAny_pyIter_listiter st h
theorem Im {P:Program} {w:World} {K:Frag} {tg:Expr} (a it:Addr):Turn P w K tg (yU K a) [it] it (λi h=>h.IsTupleIter it a i) where
 mem:=by simp
 obj:=λi h st b hb=>by
  have e:b=it:=by simpa using hb
  subst e
  obtain⟨o,e,c,d⟩:=st
  exact⟨o,e,λv z=>by rw[d] at z;cases z⟩
 keep:=λi h h' st k=>st.at λo e=>k it (by simp) o e
 item:=by
  intro X hP hw hK hc i pins s σ H E I hf st hg
  subst hP hw hK
  obtain⟨xs,x,hq,hx⟩:=hg
  obtain⟨its,rv,p,hz⟩:=I.tuple hq
  obtain⟨u,hu,ru⟩:=rv.get hx
  obtain⟨f0,f1,f2,f3,f4,f5⟩:=hf it (by simp)
  refine wpAny_pyNext_tuple_item st (show s.heap.IsTuple a its.toArray from p) (x:=u) (by simpa using hu) λh' cT sb=>?_
  have I1:Inv X pins σ H { s with heap:=h' }:=I.turned (t':=s.toks) (λb o hb e=>(sb.2 b hb).trans e) f0 f1 f3 f4 f5
  obtain⟨o,e,c,d⟩:=id cT
  exact⟨u,rfl,t9 (s:={ s with heap:=h' }) e c d (by decide) ⟨x,H,I1,ru,⟨rfl,λys hy=>by rw[I.vK hy hq];exact hx⟩,cT,λb hb=>(hf b hb).1⟩⟩
 done:=by
  intro X hP hw hK hc i pins s σ H E I hf st hg
  subst hP hw hK
  obtain⟨xs,hq,hx⟩:=hg
  obtain⟨its,rv,p,hz⟩:=I.tuple hq
  obtain⟨f0,f1,f2,f3,f4,f5⟩:=hf it (by simp)
  have hl:=rv.length
  exact wpAny_pyNext_tuple_end (I.ok.hd hc) st (show s.heap.IsTuple a its.toArray from p) (by simp;omega) λh' eb=>⟨rfl,I.turned (t':=s.toks) (λb o hb e=>eb b o hb e) f0 f1 f3 f4 f5⟩
 self:=λ_ _ _ _ _ st h=>wpAny_pyIter_tupleiter st h
theorem Io {P:Program} {w:World} {K:Frag} {tg:Expr} (it:Addr) (lo:Int) (n:Nat):Turn P w K tg (qQ lo n) [it] it (λi h=>IsRangeIter h it (lo+(i:Nat)*1) ((n:Int)-(i:Nat)) 1) where
 mem:=by simp
 obj:=λi h st b hb=>by
  have e:b=it:=by simpa using hb
  subst e
  exact⟨_,st,λv z=>by
   have z':Data.fields _=Data.cell v:=z
   cases z'⟩
 keep:=λi h h' st k=>k it (by simp) _ st
 item:=by
  intro X hP hw hK hc i pins s σ H E I hf st hg
  subst hP hw hK
  obtain⟨f0,f1,f2,f3,f4,f5⟩:=hf it (by simp)
  have W:=Walks.range (prog:=X.prog) (w:=X.w) (I.ok.hd hc) it lo 1 n
  refine W.item i s _ _ hg st λv h' tk hv cT kk=>?_
  obtain⟨t,rfl⟩:=hv
  have I1:Inv X pins σ H { s with heap:=h',toks:=tk }:=I.turned (λb o hb e=>kk b o (by simpa using hb) e) f0 f1 f3 f4 f5
  refine⟨_,rfl,t9 (s:={ s with heap:=h',toks:=tk }) (n:="range_iterator") cT rfl rfl (by decide) ⟨.int (lo+i),H,I1,⟨t,?_⟩,⟨rfl,rfl⟩,cT,λb hb=>(hf b hb).1⟩⟩
  rw[Int.mul_one]
 done:=by
  intro X hP hw hK hc i pins s σ H E I hf st hg
  subst hP hw hK
  obtain⟨f0,f1,f2,f3,f4,f5⟩:=hf it (by simp)
  exact wpAny_pyNext_range_end (I.ok.hd hc) st (by have:n<=i:=hg;omega) λh' eb=>⟨rfl,I.turned (t':=s.toks) (λb o hb e=>eb b o hb e) f0 f1 f3 f4 f5⟩
 self:=λ_ _ _ _ _ st h=>wpAny_pyIter_rangeiter st h
end L2
namespace L2
open PySem PySem.Spec PyProof.Rows
section
variable {X:Cx} {tg:Expr}
noncomputable def EW (K:Frag) (tl:TE):TI:=fun σ H R=>tl σ H λx H1=>∃a,x=.ref a/\(∃xs,bG K H1 a xs)/\R (yT K a) H1
noncomputable def FD (K:Frag) (tl:TE):TI:=fun σ H R=>tl σ H λx H1=>∃a,x=.ref a/\(∃xs,aR K H1 a xs)/\R (yU K a) H1
theorem LF {l:Expr} {tl:TE} (hl:PE X l tl):PI X tg l (EW X.K tl):=by
 intro pins s σ H R I h
 refine aJ (hl pins s σ H _ I h) λv s1 ⟨x,H1,I1,r1,q1⟩=>?_
 obtain⟨a,e,⟨xs,hq⟩,q⟩:=q1
 subst e
 cases r1
 obtain⟨its,rv,p,hz⟩:=I1.list hq
 refine wpAny_pyIter_list p.isList ?_
 refine⟨s1.heap.objs.size,[s1.heap.objs.size],_,_,H1,rfl,I1.kept (t':=s1.toks) λb o e=>Heap.get?_push_of_some _ e,Jg a _,⟨_,Heap.get?_push_size _ rfl,rfl,rfl⟩,λb hb=>?_,q⟩
 have e:b=s1.heap.objs.size:=by simpa using hb
 subst e
 exact I1.oz (Nat.le_refl _) (I1.aH.fresh (Nat.le_refl _))
theorem Na {l:Expr} {tl:TE} (hl:PE X l tl):PI X tg l (FD X.K tl):=by
 intro pins s σ H R I h
 refine aJ (hl pins s σ H _ I h) λv s1 ⟨x,H1,I1,r1,q1⟩=>?_
 obtain⟨a,e,⟨xs,hq⟩,q⟩:=q1
 subst e
 cases r1
 obtain⟨its,rv,p,hz⟩:=I1.tuple hq
 refine wpAny_pyIter_tuple (show s1.heap.IsTuple a its.toArray from p) ?_
 refine⟨s1.heap.objs.size,[s1.heap.objs.size],_,_,H1,rfl,I1.kept (t':=s1.toks) λb o e=>Heap.get?_push_of_some _ e,Im a _,⟨_,Heap.get?_push_size _ rfl,rfl,rfl⟩,λb hb=>?_,q⟩
 have e:b=s1.heap.objs.size:=by simpa using hb
 subst e
 exact I1.oz (Nat.le_refl _) (I1.aH.fresh (Nat.le_refl _))
theorem Cq {pins:List (Addr×Obj)} {σ:St} {H:Hp} {s:Shared} {R:It->Hp->Prop} {E:Value->Shared->Prop} {lo hi:Int} {t u v:Tok} {tk:Nat} (I:Inv X pins σ H s) (h1:-(2 ^ 62)<=lo) (h2:lo<2 ^ 62) (h3:-(2 ^ 62)<=hi) (h4:hi<2 ^ 62)
  (q:R (qQ lo (hi-lo).toNat) H):wpAny (model X.prog X.w) X.A (pyIter (.ref s.heap.objs.size)) (Ga X pins σ tg R) E { s with heap:=s.heap.push { cls:=.type "range",data:=.fields #[.int lo t,.int hi u,.int 1 v] },toks:=tk }:=by
 refine wpAny_pyIter_range (IsRange.new ..) (small_one h1 h2 h3 h4) ?_
 have I1:Inv X pins σ H { s with heap:=s.heap.push { cls:=.type "range",data:=.fields #[.int lo t,.int hi u,.int 1 v] },toks:=tk }:=I.kept λb o e=>Heap.get?_push_of_some _ e
 refine⟨(s.heap.push { cls:=.type "range",data:=.fields #[.int lo t,.int hi u,.int 1 v] }).objs.size,[(s.heap.push { cls:=.type "range",data:=.fields #[.int lo t,.int hi u,.int 1 v] }).objs.size],_,_,H,rfl,
  I1.kept (t':=tk) λb o e=>Heap.get?_push_of_some _ e,Io _ lo (hi-lo).toNat,?_,λb hb=>?_,q⟩
 ·have e1:lo+((0:Nat):Int)*1=lo:=by simp
  have e2:(((hi-lo).toNat:Nat):Int)-((0:Nat):Int)=Builtin.Range.rangeSize lo hi 1:=by rw[rangeSize_one];split<;>omega
  show IsRangeIter _ _ (lo+((0:Nat):Int)*1) ((((hi-lo).toNat:Nat):Int)-((0:Nat):Int)) 1
  rw[e1,e2]
  exact Heap.get?_push_size _ rfl
 ·have e:b=(s.heap.push { cls:=.type "range",data:=.fields #[.int lo t,.int hi u,.int 1 v] }).objs.size:=by simpa using hb
  subst e
  exact I1.oz (Nat.le_refl _) (I1.aH.fresh (Nat.le_refl _))
noncomputable def Oz (ta:TA):TI:=fun σ H R=>ta σ H λvs H1=>∃j:Int,vs=[.int j]/\-(2 ^ 62)<=j/\j<2 ^ 62/\R (qQ 0 j.toNat) H1
noncomputable def OA (ta:TA):TI:=fun σ H R=>ta σ H λvs H1=>∃i j:Int,vs=[.int i,.int j]/\(-(2 ^ 62)<=i/\i<2 ^ 62/\-(2 ^ 62)<=j/\j<2 ^ 62)/\R (qQ i (j-i).toNat) H1
theorem Jh {a:Expr} {ta:TA} {p pos:Pos} (hg:Gl X "range") (hm:X.mg "range"=none) (ha:PA X [a] ta) (hs:starEach [a] X.env=[(false,eval a X.env)]:=by rfl):PI X tg (.Call (.Name "range" p) [a] [] pos) (Oz ta):=by
 intro pins s σ H R I h
 refine Call_ (kK I hg hm boot_range (PyProof.Rows.callWith_type1 (aJ (ha pos pins s σ H _ I h) λus s1 ⟨vs,H1,I1,r1,q1⟩=>?_) hs rfl))
 obtain⟨j,e,q1,q2,q⟩:=q1
 subst e
 cases r1 with
 |cons r rr =>
  cases rr
  obtain⟨t,rfl⟩:=r
  exact call_range_1 (Cq I1 (by omega) (by omega) q1 q2 (by simpa using q))
theorem Ji {a b:Expr} {ta:TA} {p pos:Pos} (hg:Gl X "range") (hm:X.mg "range"=none) (ha:PA X [a,b] ta) (hs:starEach [a,b] X.env=[(false,eval a X.env),(false,eval b X.env)]:=by rfl) (dw:starEach [b] X.env=[(false,eval b X.env)]:=by rfl) :
  PI X tg (.Call (.Name "range" p) [a,b] [] pos) (OA ta):=by
 intro pins s σ H R I h
 refine Call_ (kK I hg hm boot_range (PyProof.Rows.callWith_type1 (aJ (ha pos pins s σ H _ I h) λus s1 ⟨vs,H1,I1,r1,q1⟩=>?_) (by rw[hs,dw]) (by rw[dw];rfl)))
 obtain⟨i,j,e,⟨q1,q2,q3,q4⟩,q⟩:=q1
 subst e
 cases r1 with
 |cons r rr =>
  cases rr with
  |cons r' rr =>
   cases rr
   obtain⟨t,rfl⟩:=r
   obtain⟨t',rfl⟩:=r'
   exact call_range_2 (Cq I1 q1 q2 q3 q4 q)
noncomputable def FE (wi:TI) (g:TG) (tb:TS):TS:=λD σ H=>wi σ H λJ H1=>∃W:Nat->Nat->St->Hp->Prop,(∃m,W 0 m σ H1)/\∀i m σ H,W i m σ H ->
 (J.stop i H/\D.nx σ H)\/(J.go i H/\∃N:St->Hp->Prop,(∀ aT H',N aT H'->∃m',m' < m/\W (i+1) m' aT H')/\∀x H',J.qP i H x H'->g x σ H' fun kj H2=>tb { D with nx:=N,ct:=N,bk:=D.nx } kj H2)
noncomputable def kM (fp:List Addr) (h:Heap):List (Addr×Obj):=fp.filterMap λb=>(h.get? b).map λo=>(b,o)
theorem nH {fp:List Addr} {h:Heap} {b:Addr} {o:Obj} (hb:b∈fp) (e:h.get? b=some o):(b,o)∈kM fp h:=List.mem_filterMap.mpr ⟨b,hb,by rw[e];rfl⟩
theorem BE {fp:List Addr} {h:Heap} {p:Addr×Obj} (hp:p∈kM fp h):p.1∈fp/\h.get? p.1=some p.2:=by
 obtain⟨b,hb,e⟩:=List.mem_filterMap.mp hp
 cases q:h.get? b with
 |none=>rw[q] at e;cases e
 |some o =>
  rw[q] at e
  have e':(b,o)=p:=Option.some.inj e
  subst e'
  exact⟨hb,q⟩
theorem Inv.pinned {pins:List (Addr×Obj)} {σ:St} {H:Hp} {s:Shared} {fp:List Addr} (I:Inv X pins σ H s) (hf:∀b∈fp,fC X pins H b) (ho:∀b∈fp,∃o,s.heap.get? b=some o/\∀v,o.data≠.cell v):Inv X (pins++kM fp s.heap) σ H s :=
 I.j0 λp hp=>(List.mem_append.mp hp).elim (λz=>I.pin p (List.mem_append_right _ z)) λz=>by
  obtain⟨hb,e⟩:=BE z
  obtain⟨f0,f1,f2,_⟩:=hf p.1 hb
  obtain⟨o,e',d⟩:=ho p.1 hb
  rw[e] at e';cases e'
  exact⟨e,f0,f1,f2,d⟩
theorem Inv.jX {pins pl:List (Addr×Obj)} {σ:St} {H:Hp} {s:Shared} (I:Inv X (pins++pl) σ H s):Inv X pins σ H s:=I.j0 λp hp=>I.pin p (List.mem_append_right _ (List.mem_append_left _ hp))
theorem Nb {iter:Expr} {body:List Stmt} {wi:TI} {g:TG} {tb:TS} {pos:Pos} (hp:PassesOwn (model X.prog X.w) X.A X.env X.xe) (hc:X.calm=true) (hi:PI X tg iter wi) (hg:PG X tg g) (hb:dq X body tb)
  (hs:∀x,foldedSetIterable iter X.env x=pure x:=by intro _;rfl):PS X (.For tg iter body [] pos) (FE wi g tb):=by
 intro pins s σ H D I h
 refine wpAny_For (aJ (hi pins s σ H _ I h) λv s1 h1=>aJ h1 λgr s2 h2=>?_) hs
 obtain⟨it,fp,tn,J,H2,e,I2,T,iH,f2,W,⟨m0,w0⟩,turn⟩:=h2
 subst e
 have stat:∀{H':Hp},(∀b∈fp,H' b=none)->∀b∈fp,fC X pins H' b:=λhn b hb=>⟨hn b hb,(f2 b hb).2⟩
 refine codeAny_forLoop_any (λn s'=>∃i aT H',Inv X pins aT H' s'/\tn i s'.heap/\(∀b∈fp,H' b=none)/\W i n aT H') ?_ m0 ⟨0,σ,H2,I2,iH,λb hb=>(f2 b hb).1,w0⟩
 rintro n s3 ⟨i,jF,H3,I3,k9,lb,w3⟩
 rcases turn i n jF H3 w3 with ⟨stop,qn⟩ | ⟨go,N,hN,step⟩
 ·refine wpAny_passesOwn hp (aJ (T.done X rfl rfl rfl hc i pins s3 jF H3 X.xe I3 (stat lb) k9 stop) λr s4 ⟨hr,I4⟩=>?_)
  subst hr
  exact wpAny_execs_nil ⟨jF,H3,I4,qn⟩
 ·refine wpAny_passesOwn hp (aJ (T.item X rfl rfl rfl hc i pins s3 jF H3 X.xe I3 (stat lb) k9 go) λr s4 ⟨u,hr,h4⟩=>?_)
  subst hr
  refine wpAny_passesOwn hp (aJ h4 λ_ s5 ⟨x,H5,I5,r5,y5,i8,qR⟩=>?_)
  have qS:=I5.pinned (stat qR) (T.obj _ _ i8)
  refine wpAny_passesOwn hp (aJ (hg _ s5 jF H5 x u _ qS r5 (step x H5 y5)) λ_ s6 ⟨QJ,H6,I6,q6⟩=>?_)
  refine wpAny_passesOwn hp (aJ (hb _ s6 QJ H6 _ I6 q6) λf s7 q7=>?_)
  have again:∀{i9:St} {H7:Hp},Inv X (pins++kM fp s5.heap) i9 H7 s7->N i9 H7->∃m,m<n/\∃i aT H',Inv X pins aT H' s7/\tn i s7.heap/\(∀b∈fp,H' b=none)/\W i m aT H':=λ{i9 H7} I7 n7=>by
   obtain⟨m',hm,w7⟩:=hN i9 H7 n7
   refine⟨m',hm,i+1,i9,H7,I7.jX,T.keep _ _ _ i8 λb hb o e=>(I7.pin (b,o) (List.mem_append_right _ (List.mem_append_right _ (nH hb e)))).1,λb hb=>?_,w7⟩
   obtain⟨o,e,d⟩:=T.obj _ _ i8 b hb
   exact(I7.pin (b,o) (List.mem_append_right _ (List.mem_append_right _ (nH hb e)))).2.1
  cases f with
  |next=>obtain⟨i9,H7,I7,n7⟩:=q7;exact again I7 n7
  |cont=>obtain⟨i9,H7,I7,n7⟩:=q7;exact again I7 n7
  |brk=>obtain⟨i9,H7,I7,q7⟩:=q7;exact⟨i9,H7,I7.jX,q7⟩
  |ret v=>obtain⟨x7,i9,H7,I7,r7,q7⟩:=q7;exact⟨x7,i9,H7,I7.jX,r7,q7⟩
end
end L2
namespace L2
open PySem PySem.Spec PyProof.Rows
noncomputable abbrev R2:=V->V->Hp->VK->Prop
def bh (X:Cx) (f:Value->Value->Sem Value) (r:R2):Prop :=
 ∀(pins:List (Addr×Obj)) (s:Shared) (σ:St) (H:Hp) (x y:V) (v u:Value) (Q:VK),Inv X pins σ H s->RelV x v->RelV y u->r x y H Q ->
  wpAny (model X.prog X.w) X.A (f v u) (EP X pins σ Q) X.xe s
def qT (X:Cx) (f:Value->Sem Value) (r:V->Hp->VK->Prop):Prop :=
 ∀(pins:List (Addr×Obj)) (s:Shared) (σ:St) (H:Hp) (x:V) (v:Value) (Q:VK),Inv X pins σ H s->RelV x v->r x H Q ->
  wpAny (model X.prog X.w) X.A (f v) (EP X pins σ Q) X.xe s
def bV (X:Cx) (f:Value) (r:List V->Hp->VK->Prop):Prop :=
 ∀(pins:List (Addr×Obj)) (s:Shared) (σ:St) (H:Hp) (xs:List V) (us:List Value) (Q:VK),Inv X pins σ H s->Vals xs us->r xs H Q ->
  wpAny (model X.prog X.w) X.A (call f us) (EP X pins σ Q) X.xe s
def PZ (X:Cx) (r:V->Hp->(Bool->Hp->Prop)->Prop):Prop :=
 ∀(pins:List (Addr×Obj)) (s:Shared) (σ:St) (H:Hp) (x:V) (v:Value) (Q:Bool->Hp->Prop),Inv X pins σ H s->RelV x v->r x H Q ->
  wpAny (model X.prog X.w) X.A (truthy v) (TP X pins σ Q) X.xe s
noncomputable def qU (r:R2) (ta tb:TE):TE:=fun σ H Q=>ta σ H λx H1=>tb σ H1 λy H2=>r x y H2 Q
noncomputable def QK (r:V->Hp->VK->Prop) (ta:TE):TE:=fun σ H Q=>ta σ H λx H1=>r x H1 Q
noncomputable def rI (C:Int->Int->Prop) (g:Int->Int->V):R2:=λx y H Q=>∃i j,x=.int i/\y=.int j/\C i j/\Q (g i j) H
noncomputable def mT (g:Int->Int->V):R2:=λx y H Q=>∃i j,x=.int i/\y=.int j/\Q (g i j) H
noncomputable def rU (g:Int->V):V->Hp->VK->Prop:=λx H Q=>∃i,x=.int i/\Q (g i) H
section
variable {X:Cx} {a b c:Expr} {ta tb tc:TE} {pos:Pos}
theorem yj (ha:PE X a ta) (hb:PE X b tb) {pins:List (Addr×Obj)} {s:Shared} {σ:St} {H:Hp} {R:V->V->Hp->Prop} (I:Inv X pins σ H s)
  (h:ta σ H λx H1=>tb σ H1 λy H2=>R x y H2) {Q:Value->Shared->Prop} {f:Value->Value->Sem Value}
  (hf:∀v u s2 x y H2,Inv X pins σ H2 s2->RelV x v->RelV y u->R x y H2->wpAny (model X.prog X.w) X.A (f v u) Q X.xe s2) :
  wpAny (model X.prog X.w) X.A (eval a X.env) (λv bu=>wpAny (model X.prog X.w) X.A (eval b X.env) (λu uB=>wpAny (model X.prog X.w) X.A (f v u) Q X.xe uB) X.xe bu) X.xe s:=by
 refine aJ (ha pins s σ H _ I h) λv s1 ⟨x,H1,I1,r1,q1⟩=>?_
 refine aJ (hb pins s1 σ H1 _ I1 q1) λu s2 ⟨y,H2,I2,r2,q2⟩=>?_
 exact hf v u s2 x y H2 I2 r1 r2 q2
theorem OB {op:Operator} {r:R2} (ho:bh X (binaryOp op) r) (ha:PE X a ta) (hb:PE X b tb):PE X (.BinOp a op b pos) (qU r ta tb):=by
 intro pins s σ H Q I h
 exact wpAny_BinOp (yj ha hb I h λv u s2 x y H2 I2 rx ry q=>ho pins s2 σ H2 x y v u Q I2 rx ry q)
theorem OC {op:UnaryOp} {r:V->Hp->VK->Prop} (ho:qT X (unaryOp op) r) (ha:PE X a ta):PE X (.UnaryOp op a pos) (QK r ta):=by
 intro pins s σ H Q I h
 exact UnaryOp_ (aJ (ha pins s σ H _ I h) λv s1 ⟨x,H1,I1,r1,q1⟩=>ho pins s1 σ H1 x v Q I1 r1 q1)
theorem uY {f:Value->Value->Sem Value} {C:Int->Int->Prop} {g:Int->Int->Int}
  (rule:∀(i j:Int) (t u:Tok) (s:Shared) (Q:Value->Shared->Prop) (E:Value->Shared->Prop),C i j->Q (.int (g i j) s.toks) { s with toks:=s.toks+1 }->wpAny (model X.prog X.w) X.A (f (.int i t) (.int j u)) Q E s) :
  bh X f (rI C λi j=>.int (g i j)):=by
 intro pins s σ H x y v u Q I rx ry h
 obtain⟨i,j,rfl,rfl,hc,q⟩:=h
 obtain⟨t,rfl⟩:=rx
 obtain⟨t',rfl⟩:=ry
 exact rule i j t t' s _ _ hc ⟨.int (g i j),H,I.tok _,⟨_,rfl⟩,q⟩
theorem FF {f:Value->Value->Sem Value} {g:Int->Int->Int}
  (rule:∀(i j:Int) (t u:Tok) (s:Shared) (Q:Value->Shared->Prop) (E:Value->Shared->Prop),Q (.int (g i j) s.toks) { s with toks:=s.toks+1 }->wpAny (model X.prog X.w) X.A (f (.int i t) (.int j u)) Q E s) :
  bh X f (mT λi j=>.int (g i j)):=by
 intro pins s σ H x y v u Q I rx ry h
 obtain⟨i,j,rfl,rfl,q⟩:=h
 obtain⟨t,rfl⟩:=rx
 obtain⟨t',rfl⟩:=ry
 exact rule i j t t' s _ _ ⟨.int (g i j),H,I.tok _,⟨_,rfl⟩,q⟩
theorem yk {f:Value->Value->Sem Value} {g:Int->Int->Bool}
  (rule:∀(i j:Int) (t u:Tok) (s:Shared) (Q:Value->Shared->Prop) (E:Value->Shared->Prop),Q (.bool (g i j)) s->wpAny (model X.prog X.w) X.A (f (.int i t) (.int j u)) Q E s) :
  bh X f (mT λi j=>.bl (g i j)):=by
 intro pins s σ H x y v u Q I rx ry h
 obtain⟨i,j,rfl,rfl,q⟩:=h
 obtain⟨t,rfl⟩:=rx
 obtain⟨t',rfl⟩:=ry
 exact rule i j t t' s _ _ ⟨.bl (g i j),H,I,rfl,q⟩
def P0 (i j:Int):Prop:=0<j/\j<1073741824
def P1 (i j:Int):Prop:=0<=j/\j<=1000000/\i.natAbs<2 ^ 64
def uC (i j:Int):Prop:=(-(2 ^ 64)<i/\i<2 ^ 64)\/(-(2 ^ 64)<j/\j<2 ^ 64)
theorem uC.ok {i j:Int} (h:uC i j):IntMulOk i j:=by
 rcases h with ⟨h1,h2⟩ | ⟨h1,h2⟩
 ·exact .of_left (intBits_le_64 h1 h2)
 ·exact .of_right (intBits_le_64 h1 h2)
theorem Nc:bh X (binaryOp .Add) (mT λi j=>.int (i+j)):=FF λ_ _ _ _ _ _ _ q=>add_int q
theorem Nd:bh X (binaryOp .Sub) (mT λi j=>.int (i-j)):=FF λ_ _ _ _ _ _ _ q=>sub_int q
theorem Nf:bh X (binaryOp .Mult) (rI uC λi j=>.int (i*j)):=uY λ_ _ _ _ _ _ _ hc q=>mul_int q hc.ok
theorem LG:bh X (binaryOp .FloorDiv) (rI P0 λi j=>.int (i / j)):=uY λi j _ _ _ _ _ hc q=>by
 have h1:(0:Int)<j:=hc.1
 have h2:j<1073741824:=hc.2
 exact floordiv_int (by omega) (by rw[Int.fdiv_eq_ediv_of_nonneg i (by omega)];exact q) (.inl (PyProof.noPylong_small (by omega)))
theorem Ng:bh X (binaryOp .Mod) (rI (λ_ j=>0<j) λi j=>.int (i % j)):=uY λi j _ _ _ _ _ hc q=>by
 have h1:(0:Int)<j:=hc
 exact mod_int' (by omega) (by rw[Int.fmod_eq_emod_of_nonneg i (by omega)];exact q)
theorem Nh:bh X (binaryOp .Pow) (rI P1 λi j=>.int (i ^ j.toNat)):=uY λ_ _ _ _ _ _ _ hc q=>pow_int_small hc.1 hc.2.1 hc.2.2 q
theorem QM {f:Value->Sem Value} {g:Int->Int}
  (rule:∀(i:Int) (t:Tok) (s:Shared) (Q:Value->Shared->Prop) (E:Value->Shared->Prop),Q (.int (g i) s.toks) { s with toks:=s.toks+1 }->wpAny (model X.prog X.w) X.A (f (.int i t)) Q E s) :
  qT X f (rU λi=>.int (g i)):=by
 intro pins s σ H x v Q I rx h
 obtain⟨i,rfl,q⟩:=h
 obtain⟨t,rfl⟩:=rx
 exact rule i t s _ _ ⟨.int (g i),H,I.tok _,⟨_,rfl⟩,q⟩
theorem Ni:qT X (unaryOp .USub) (rU λi=>.int (-i)):=QM λ_ _ _ _ _ q=>neg_int q
end
noncomputable def yl:V->V->Bool
 | .aA,.aA=>true | .aA,.int _=>true | .int _,.aA=>true | .aA,.bl _=>true | .bl _,.aA=>true | .aA,.str _=>true | .str _,.aA=>true
 | .int _,.int _=>true | .bl _,.bl _=>true | .str _,.str _=>true | .ie _,.ie _=>true
 | .int _,.str _=>true | .str _,.int _=>true | .bl _,.str _=>true | .str _,.bl _=>true
 |_,_=>false
noncomputable def QN:R2:=λx y H Q=>yl x y=true/\Q (.bl (decide (x=y))) H
noncomputable def QP:R2:=λx y H Q=>yl x y=true/\Q (.bl (!decide (x=y))) H
theorem C7 {i j:Int}:decide (V.int i=V.int j)=(i==j):=by
 rw[Bool.eq_iff_iff]
 simp
theorem D3 {i j:Bool}:decide (V.bl i=V.bl j)=(i==j):=by
 rw[Bool.eq_iff_iff]
 simp
theorem wD {i j:Str}:decide (V.str i=V.str j)=(i==j):=by
 rw[Bool.eq_iff_iff]
 simp
theorem C8 {i j:Array UInt8}:decide (V.ie i=V.ie j)=(i.toList==j.toList):=by
 rw[Bool.eq_iff_iff]
 cases i
 cases j
 simp
section
variable {X:Cx} {a b c:Expr} {ta tb tc:TE} {pos:Pos}
theorem ck {pins:List (Addr×Obj)} {σ:St} {H:Hp} {s:Shared} {Q:VK} {k k':Bool} (I:Inv X pins σ H s) (q:Q (.bl k) H) (e:k=k'):EP X pins σ Q (.bool k') s:=by
 subst e
 exact⟨.bl k,H,I,rfl,q⟩
theorem OD:bh X (compareOp .Eq) QN:=by
 intro pins s σ H x y v u Q I rx ry h
 obtain⟨hs,q⟩:=h
 cases x with
 |aA =>
  cases rx
  cases y with
  |aA=>cases ry;exact PySem.EqNone.eq_none_none (ck I q (by simp))
  |bl j=>cases ry;exact PySem.EqNone.eq_none_bool (ck I q (by simp))
  |int j=>obtain⟨t',rfl⟩:=ry;exact PySem.EqNone.eq_none_int (ck I q (by simp))
  |str j=>obtain⟨t',rfl⟩:=ry;exact PySem.EqNone.eq_none_str (ck I q (by simp))
  |_=>exact absurd (show false=true from hs) Bool.false_ne_true
 |bl i =>
  cases rx
  cases y with
  |aA=>cases ry;exact PySem.EqNone.eq_bool_none (ck I q (by simp))
  |bl j=>cases ry;exact eq_bool (ck I q D3)
  |str j=>obtain⟨t',rfl⟩:=ry;exact PySem.EqMixed.eq_bool_str (ck I q (by simp))
  |_=>exact absurd (show false=true from hs) Bool.false_ne_true
 |int i =>
  obtain⟨t,rfl⟩:=rx
  cases y with
  |aA=>cases ry;exact PySem.EqNone.eq_int_none (ck I q (by simp))
  |int j=>obtain⟨t',rfl⟩:=ry;exact eq_int (ck I q C7)
  |str j=>obtain⟨t',rfl⟩:=ry;exact PySem.EqMixed.eq_int_str (ck I q (by simp))
  |_=>exact absurd (show false=true from hs) Bool.false_ne_true
 |str i =>
  obtain⟨t,rfl⟩:=rx
  cases y with
  |aA=>cases ry;exact PySem.EqNone.eq_str_none (ck I q (by simp))
  |bl j=>cases ry;exact PySem.EqMixed.eq_str_bool (ck I q (by simp))
  |int j=>obtain⟨t',rfl⟩:=ry;exact PySem.EqMixed.eq_str_int (ck I q (by simp))
  |str j=>obtain⟨t',rfl⟩:=ry;exact eq_str (ck I q wD)
  |_=>exact absurd (show false=true from hs) Bool.false_ne_true
 |ie i =>
  obtain⟨t,rfl⟩:=rx
  cases y with
  |ie j=>obtain⟨t',rfl⟩:=ry;exact PySem.W.eq_bytes (ck I q C8)
  |_=>exact absurd (show false=true from hs) Bool.false_ne_true
 |_=>cases y<;>exact absurd (show false=true from hs) Bool.false_ne_true
theorem OE:bh X (compareOp .NotEq) QP:=by
 intro pins s σ H x y v u Q I rx ry h
 obtain⟨hs,q⟩:=h
 cases x with
 |aA =>
  cases rx
  cases y with
  |aA=>cases ry;exact PySem.EqNone.ne_none_none (ck I q (by simp))
  |bl j=>cases ry;exact PySem.EqNone.ne_none_bool (ck I q (by simp))
  |int j=>obtain⟨t',rfl⟩:=ry;exact PySem.EqNone.ne_none_int (ck I q (by simp))
  |str j=>obtain⟨t',rfl⟩:=ry;exact PySem.EqNone.ne_none_str (ck I q (by simp))
  |_=>exact absurd (show false=true from hs) Bool.false_ne_true
 |bl i =>
  cases rx
  cases y with
  |aA=>cases ry;exact PySem.EqNone.ne_bool_none (ck I q (by simp))
  |bl j=>cases ry;exact ne_bool (ck I q (congrArg not D3))
  |str j=>obtain⟨t',rfl⟩:=ry;exact PySem.EqMixed.ne_bool_str (ck I q (by simp))
  |_=>exact absurd (show false=true from hs) Bool.false_ne_true
 |int i =>
  obtain⟨t,rfl⟩:=rx
  cases y with
  |aA=>cases ry;exact PySem.EqNone.ne_int_none (ck I q (by simp))
  |int j=>obtain⟨t',rfl⟩:=ry;exact ne_int (ck I q (congrArg not C7))
  |str j=>obtain⟨t',rfl⟩:=ry;exact PySem.EqMixed.ne_int_str (ck I q (by simp))
  |_=>exact absurd (show false=true from hs) Bool.false_ne_true
 |str i =>
  obtain⟨t,rfl⟩:=rx
  cases y with
  |aA=>cases ry;exact PySem.EqNone.ne_str_none (ck I q (by simp))
  |bl j=>cases ry;exact PySem.EqMixed.ne_str_bool (ck I q (by simp))
  |int j=>obtain⟨t',rfl⟩:=ry;exact PySem.EqMixed.ne_str_int (ck I q (by simp))
  |str j=>obtain⟨t',rfl⟩:=ry;exact ne_str (ck I q (congrArg not wD))
  |_=>exact absurd (show false=true from hs) Bool.false_ne_true
 |ie i =>
  obtain⟨t,rfl⟩:=rx
  cases y with
  |ie j=>obtain⟨t',rfl⟩:=ry;exact PySem.W.ne_bytes (ck I q (congrArg not C8))
  |_=>exact absurd (show false=true from hs) Bool.false_ne_true
 |_=>cases y<;>exact absurd (show false=true from hs) Bool.false_ne_true
theorem OF:bh X (compareOp .LtE) (mT λi j=>.bl (decide (i<=j))):=yk λ_ _ _ _ _ _ _ q=>le_int q
theorem OG:bh X (compareOp .Gt) (mT λi j=>.bl (decide (j<i))):=yk λ_ _ _ _ _ _ _ q=>gt_int q
theorem OH:bh X (compareOp .GtE) (mT λi j=>.bl (decide (j<=i))):=yk λ_ _ _ _ _ _ _ q=>ge_int q
theorem bJ (b:Expr) {op:CmpOp} (h:op≠.In:=by decide) (h2:op≠.NotIn:=by decide):behindInMarks op b=false:=by
 have e1:(op==CmpOp.In)=false:=by cases op<;>first|rfl|exact absurd rfl h
 have e2:(op==CmpOp.NotIn)=false:=by cases op<;>first|rfl|exact absurd rfl h2
 cases b<;>simp[behindInMarks,e1,e2]
theorem LH {op:CmpOp} {r:R2} (ho:bh X (compareOp op) r) (ha:PE X a ta) (hb:PE X b tb) (hm:behindInMarks op b=false):PE X (.Compare a [op] [b] pos) (qU r ta tb):=by
 intro pins s σ H Q I h
 exact wpAny_Compare1 (yj ha hb I h λv u s2 x y H2 I2 rx ry q=>ho pins s2 σ H2 x y v u Q I2 rx ry q) hm
noncomputable def ua (t:TE):TT:=fun σ H Q=>t σ H λx H'=>∃k,x=.bl k/\Q k H'
theorem LI {op:CmpOp} {r:R2} (ho:bh X (compareOp op) r) (ha:PE X a ta) (hb:PE X b tb) (hm:behindInMarks op b=false):PT X (.Compare a [op] [b] pos) (ua (qU r ta tb)):=by
 intro pins s σ H Q I h
 refine wpAny_isTrue_Compare1 (aJ (ha pins s σ H _ I h) λv s1 ⟨x,H1,I1,r1,q1⟩=>aJ (hb pins s1 σ H1 _ I1 q1) λu s2 ⟨y,H2,I2,r2,q2⟩ =>
  aJ (ho pins s2 σ H2 x y v u _ I2 r1 r2 q2) λc s3 ⟨z,H3,I3,r3,k,e,q3⟩=>?_) hm
 subst e
 cases r3
 exact wpAny_truthy_bool ⟨H3,I3,q3⟩
noncomputable def D4 (r r':R2) (ta tb tc:TE):TE:=fun σ H Q=>ta σ H λx H1=>tb σ H1 λy H2=>r x y H2 λz H3=>∃k,z=.bl k /\
 (if k=true then tc σ H3 λw' H4=>r' y w' H4 Q else Q (.bl false) H3)
theorem Kh {op mU:CmpOp} {r r':R2} (ho:bh X (compareOp op) r) (dg:bh X (compareOp mU) r') (ha:PE X a ta) (hb:PE X b tb) (hc:PE X c tc)
  (hm:lastMarks [op,mU] [b,c]=false:=by with_unfolding_all rfl):PE X (.Compare a [op,mU] [b,c] pos) (D4 r r' ta tb tc):=by
 intro pins s σ H Q I h
 refine Compare_chain (aJ (ha pins s σ H _ I h) λv s1 ⟨x,H1,I1,r1,q1⟩=>chain_link (aJ (hb pins s1 σ H1 _ I1 q1) λu s2 ⟨y,H2,I2,r2,q2⟩ =>
  aJ (ho pins s2 σ H2 x y v u _ I2 r1 r2 q2) λd s3 ⟨z,H3,I3,r3,k,e,q3⟩=>?_)) hm
 subst e
 cases r3
 refine wpAny_truthy_bool ?_
 cases k with
 |false=>exact ite_ff ⟨.bl false,H3,I3,rfl,q3⟩
 |true=>exact ite_tt (chain_last (aJ (hc pins s3 σ H3 _ I3 q3) λw' s4 ⟨z',H4,I4,r4,q4⟩=>dg pins s4 σ H4 y z' u w' Q I4 r2 r4 q4))
def mE (K:Frag) (x:V) (H:Hp) (k:Bool):Prop :=
 match x with
 | .aA=>k=false
 | .bl b=>k=b
 | .int i=>k=(i != 0)
 | .str y=>y.length<=sizeLine/\k=((y.length:Int) != 0)
 | .ie y=>y.size<=sizeLine/\k=((y.size:Int) != 0)
 | .ref p=>(∃xs,bG K H p xs/\k=!xs.isEmpty)\/(∃xs,aR K H p xs/\k=!xs.isEmpty)\/∃ak,H p=some (.dK ak)/\k=!ak.isEmpty
 |_=>False
theorem Ip {κ:Type} {ak:List (κ×V)} {vs:List (κ×Value)} (r:KV ak vs):(!vs.isEmpty)=!ak.isEmpty:=by
 cases r<;>rfl
theorem Bl {xs:List V} {its:List Value} (r:Vals xs its):(!its.toArray.isEmpty)=!xs.isEmpty:=by
 cases r<;>simp
theorem lU:(sizeLine:Nat)<2 ^ 63:=by rw[sizeLine_eq];decide
theorem D5:PZ X (λx H Q=>∃k,mE X.K x H k/\Q k H):=by
 intro pins s σ H x v Q I rx h
 obtain⟨k,e,q⟩:=h
 have hl:=lU
 have hs:sizeLine=16777216:=sizeLine_eq
 cases x with
 |aA =>
  cases rx
  have e':k=false:=e
  subst e'
  exact truthy_none ⟨H,I,q⟩
 |bl b =>
  cases rx
  have e':k=b:=e
  subst e'
  exact wpAny_truthy_bool ⟨H,I,q⟩
 |int i =>
  obtain⟨t,rfl⟩:=rx
  have e':k=(i != 0):=e
  subst e'
  exact PySem.P.truthy_int ⟨H,I,q⟩
 |str y =>
  obtain⟨t,rfl⟩:=rx
  obtain⟨hy,e'⟩:y.length<=sizeLine/\k=((y.length:Int) != 0):=e
  subst e'
  exact PySem.P.truthy_str (by omega) ⟨H,I.tok _,q⟩
 |ie y =>
  obtain⟨t,rfl⟩:=rx
  obtain⟨hy,e'⟩:y.size<=sizeLine/\k=((y.size:Int) != 0):=e
  subst e'
  exact PySem.W.truthy_bytes (by omega) ⟨H,I.tok _,q⟩
 |ref p =>
  cases rx
  have e':(∃xs,bG X.K H p xs/\k=!xs.isEmpty)\/(∃xs,aR X.K H p xs/\k=!xs.isEmpty)\/∃ak,H p=some (.dK ak)/\k=!ak.isEmpty:=e
  rcases e' with ⟨xs,hx,e'⟩ | ⟨xs,hx,e'⟩ | ⟨ak,hx,e'⟩
  ·subst e'
   obtain⟨its,r,pl,hz⟩:=I.list hx
   have hlen:=r.length
   exact wpAny_truthy_list pl.isList (by simp only[List.size_toArray];omega) ⟨H,I.tok _,by rw[Bl r];exact q⟩
  ·subst e'
   obtain⟨its,r,pl,hz⟩:=I.tuple hx
   have hlen:=r.length
   exact truthy_tuple pl (by simp only[List.size_toArray];omega) ⟨H,I.tok _,by rw[Bl r];exact q⟩
  ·subst e'
   obtain⟨hz,hS,vs,r,m⟩:ak.length<=sizeLine/\(p==sysModules)=false/\∃vs,KV ak vs/\s.heap.DictOf (sY X.prog X.w) p vs:=I.aH p _ hx
   have hlen:ak.length=vs.length:=Paired.length r
   exact wpAny_truthy_dict hS m (by omega) ⟨H,I.tok _,by rw[Ip r];exact q⟩
 |_=>exact(show False from e).elim
theorem Ki (ha:PE X a ta) (he:∀whole,isTrue a X.env whole=(do let v <- whole;standAt a.pos;holding [v] (truthy v))) :
  PT X a (fun σ H Q=>ta σ H λx H'=>∃k,mE X.K x H' k/\Q k H'):=by
 intro pins s σ H Q I h
 exact isTrue_plain (aJ (ha pins s σ H _ I h) λv s1 ⟨x,H1,I1,r1,q1⟩=>D5 pins s1 σ H1 x v Q I1 r1 q1) (he _)
theorem Iq:bh X (binaryOp .Add) (λx y H Q=>∃i j,x=.str i/\y=.str j/\i.length+j.length<=sizeLine/\Q (.str (i++j)) H):=by
 intro pins s σ H x y v u Q I rx ry h
 obtain⟨i,j,rfl,rfl,hz,q⟩:=h
 obtain⟨t,rfl⟩:=rx
 obtain⟨t',rfl⟩:=ry
 exact add_str (λt' tk=>⟨.str (i++j),H,I.tok _,⟨_,rfl⟩,q⟩) hz
theorem vals1 {x:V} {us:List Value} (r:Vals [x] us):∃u,us=[u]/\RelV x u:=by
 cases r with
 |cons r1 r2=>cases r2;exact⟨_,rfl,r1⟩
theorem vals2 {x y:V} {us:List Value} (r:Vals [x,y] us):∃u w',us=[u,w']/\RelV x u/\RelV y w':=by
 cases r with
 |cons r1 r2 =>
  cases r2 with
  |cons r3 r4=>cases r4;exact⟨_,_,rfl,r1,r3⟩
theorem Jj (hc:X.calm=true):bV X (.builtin "max") (λxs H Q=>∃i j,xs=[.int i,.int j]/\Q (.int (if j > i then j else i)) H):=by
 intro pins s σ H xs us Q I r h
 obtain⟨i,j,rfl,q⟩:=h
 obtain⟨u,w',rfl,⟨t,rfl⟩,⟨t',rfl⟩⟩:=vals2 r
 refine max_two_ints (I.ok.hd hc) λh' tk k=>⟨_,H,I.kept k,?_,q⟩
 by_cases hj:j > i
 ·rw[if_pos hj,if_pos hj];exact⟨_,rfl⟩
 ·rw[if_neg hj,if_neg hj];exact⟨_,rfl⟩
theorem Jk (hc:X.calm=true):bV X (.builtin "min") (λxs H Q=>∃i j,xs=[.int i,.int j]/\Q (.int (if j<i then j else i)) H):=by
 intro pins s σ H xs us Q I r h
 obtain⟨i,j,rfl,q⟩:=h
 obtain⟨u,w',rfl,⟨t,rfl⟩,⟨t',rfl⟩⟩:=vals2 r
 refine min_two_ints (I.ok.hd hc) λh' tk k=>⟨_,H,I.kept k,?_,q⟩
 by_cases hj:j<i
 ·rw[if_pos hj,if_pos hj];exact⟨_,rfl⟩
 ·rw[if_neg hj,if_neg hj];exact⟨_,rfl⟩
end
end L2
namespace L2
open PySem PySem.Spec PyProof.Rows
structure S7 (h:Heap) (x dx C:Addr) (mA:Str->Option Value):Prop where
 obj:h.get? x=some (PySem.W.instObj C dx)
 ns:h.Ns1 dx mA
 ne:dx≠x
section
variable {prog:Program} {w:World} {A:Around} {E:Value->Shared->Prop} {s:Shared} {K:Frag} {x dx C f:Addr} {mA:Str->Option Value} {name:Str} {v:Value}
end
section
variable {P:Program} {w:World} {H H':Hp} {h h':Heap} {a C dx:Addr} {fs QH:List (Str×V)}
end
structure QQ (K:Frag) (C:Addr):Prop where
 pg:PySem.W.plainGet K C Str.empty=true
 hd:PySem.W.hasDictIn K C=true
 po:PySem.W.plainOver K C=true
 sa:PySem.W.findIn K (.ref C) "__setattr__"=some (some (.builtin "object.__setattr__"))
structure Tf (K:Frag) (C:Addr) (f:Str) (v:V) (u:Value):Prop where
 at_:PySem.W.findIn K (.ref C) f=some (some u)
 rel:RelV v u
 get:PySem.W.specialIn K u "__get__"=some none
 cp:PySem.W.copiedNames.contains f=false
structure Meth (K:Frag) (C:Addr) (m:Str) (f:Addr):Prop where
 at_:PySem.W.findIn K (.ref C) m=some (some (.ref f))
 fn:PySem.W.isFn K (.ref f)=true
 kp:PySem.W.keepIn K (.ref f)=true
section
variable {X:Cx} {pins:List (Addr×Obj)} {σ:St} {H:Hp} {s:Shared} {a C dx:Addr} {fs:List (Str×V)} {f:Str} {v:V} {A:Around} {E:Value->Shared->Prop}
end
section
variable {X:Cx} {o e value:Expr} {f:Str} {pos pos' ym:Pos} {ta tv:TE}
end
section
variable {X:Cx} {pins:List (Addr×Obj)} {σ:St} {H:Hp} {s:Shared} {A:Around} {E:Value->Shared->Prop} {Q:Value->Shared->Prop} {c:Value} {b:Bool}
inductive iW (K:Frag) (H:Hp):V->Value->Prop where
 |aA:iW K H .aA (.type "NoneType")
 |bl (x:Bool):iW K H (.bl x) (.type "bool")
 |int (i:Int):iW K H (.int i) (.type "int")
 |str (x:Str):iW K H (.str x) (.type "str")
 |qG (x:UInt64):iW K H (.qG x) (.type "float")
 |lst {a:Addr} {xs:List V} (e:H a=some (.lst xs)):iW K H (.ref a) (.type "list")
 |cF {a:Addr} {o:Obj} {xs:List V} (e:H a=some (.cF o (.lst xs))):iW K H (.ref a) (.type "list")
 |tup {a:Addr} {xs:List V} (e:H a=some (.tup xs)):iW K H (.ref a) (.type "tuple")
 |dK {a:Addr} {ak:List (Key×V)} (e:H a=some (.dK ak)):iW K H (.ref a) (.type "dict")
 |dT {a:Addr} {ak:List (List Key×V)} (e:H a=some (.dT ak)):iW K H (.ref a) (.type "dict")
 |ins {a C dx:Addr} {fs:List (Str×V)} (e:H a=some (.ins C dx fs)) (cl:QQ K C) (ha:PySem.W.findIn K (.ref C) "__class__"=some (some (.builtin "object.__class__")))
   (hn:PySem.W.specialIn K (.builtin "object.__class__") "__get__"=some (some (.builtin "getset_descriptor.__get__"))) (Gb:PySem.W.takesIn K (.builtin "object.__class__")=some true)
   (hm:PySem.W.mroIn K C (.type "object")=some true):iW K H (.ref a) (.ref C)
end
end L2
namespace L2
open PySem PySem.Spec PyProof.Rows
structure cq (k:Nat) (A:Around):Prop where
 hd:A.handled=none
 dp:A.depth+3*k+5<recursionLimit
 un:A.units+16*k+200<cLine
 gd:A.guards=some []
theorem cq.mono {j k:Nat} {A:Around} (r:cq k A) (h:j<=k):cq j A:=⟨r.hd,by have:=r.dp;omega,by have:=r.un;omega,r.gd⟩
theorem cq.deeper {k:Nat} {A:Around} (r:cq (k+1) A) (env:Env):cq k (A.deeper env) :=
 ⟨r.hd,by have:=r.dp;show A.depth+1+3*k+5 < _;omega,by have:=r.un;show A.units+3+16*k+200 < _;omega,r.gd⟩
theorem cq.depth {k:Nat} {A:Around} (r:cq k A):A.depth<recursionLimit:=by have:=r.dp;omega
noncomputable def P2:TA:=λ_ H Q=>Q [] H
noncomputable def OI (ta:TE) (tr:TA):TA:=fun σ H Q=>ta σ H λx H1=>tr σ H1 λxs H2=>Q (x::xs) H2
section
variable {X:Cx} {e:Expr} {es:List Expr} {te:TE} {t:TA} {pos:Pos}
theorem lV:PA X [] P2:=λ_ _ _ _ H Q I h=>Calls.spliced_nil ⟨[],H,I,.nil,h⟩
theorem j3 (ha:PE X e te) (hr:PA X es t) (hs:starEach (e::es) X.env=(false,eval e X.env)::starEach es X.env:=by rfl):PA X (e::es) (OI te t):=by
 intro pos pins s σ H Q I h
 rw[hs]
 show wpAny _ _ (spliced ((false,eval e X.env)::backTo pos (starEach es X.env))) _ _ s
 refine Calls.spliced_cons (aJ (ha pins s σ H _ I h) λu s1 ⟨x,H1,I1,r1,q1⟩=>?_)
 exact aJ (hr pos pins s1 σ H1 _ I1 q1) λus s2 ⟨xs,H2,I2,r2,q2⟩=>⟨x::xs,H2,I2,.cons r1 r2,q2⟩
noncomputable def P4 (t:TA):TE:=fun σ H Q=>t σ H λxs H1=>xs.length<=sizeLine/\∀p,H1 p=none->Q (.ref p) (upd H1 p (.tup xs))
noncomputable def P5 (t:TA):TE:=fun σ H Q=>t σ H λxs H1=>xs.length<=sizeLine/\∀p,H1 p=none->Q (.ref p) (upd H1 p (.lst xs))
theorem Nj {x1} (h:PA X es t):PE X (.Tuple es x1 pos) (P4 t):=by
 intro pins s σ H Q I hq
 refine wpAny_Tuple_spliced (aJ (h pos pins s σ H _ I hq) λus s1 ⟨xs,H1,I1,r,z,q⟩=>⟨by rw[<- r.length];exact z,?_⟩)
 have hf:H1 s1.heap.objs.size=none:=I1.aH.fresh (Nat.le_refl _)
 refine⟨.ref s1.heap.objs.size,upd H1 s1.heap.objs.size (.tup xs),I1.laid (t':=s1.toks) (λb u e=>Heap.get?_push_of_some _ e) (Nat.le_refl _) ?_,rfl,q _ hf⟩
 exact⟨z,us,r,⟨_,Heap.get?_push_size _ rfl,rfl,_,rfl⟩⟩
theorem D6 (h:PA X es t):PE X (.List es pos) (P5 t):=by
 intro pins s σ H Q I hq
 refine wpAny_List_spliced (aJ (h pos pins s σ H _ I hq) λus s1 ⟨xs,H1,I1,r,z,q⟩=>⟨by rw[<- r.length];exact z,?_⟩)
 have hf:H1 s1.heap.objs.size=none:=I1.aH.fresh (Nat.le_refl _)
 refine⟨.ref s1.heap.objs.size,upd H1 s1.heap.objs.size (.lst xs),I1.laid (t':=s1.toks) (λb u e=>Heap.get?_push_of_some _ e) (Nat.le_refl _) ?_,rfl,q _ hf⟩
 exact⟨z,us,0,r,Heap.get?_push_size _ rfl⟩
end
noncomputable abbrev Sp:=List V->Hp->VK->XK->Prop
noncomputable abbrev iI:=List Env->Hp->Shared->XK->Value->Shared->Prop
structure uD (P:Program) (w:World) (K:Frag) (mg:Str->Option Value) (base:Heap) (A:Around) (outer:List Env) (s:Shared) (H:Hp):Prop where
 frames:A.frames=some outer
 mod:Mod K mg base
 bs:∀b o,base.get? b=some o->s.heap.get? b=some o/\H b=none
 i6:base.objs.size<=s.heap.objs.size
 iV:s.heap.FunFrames base outer
 oR:∀b∈fV outer,H b=none
 aH:bX P w H s.heap
 bare:AllBare s.gens
def CE (outer:List Env) (P:Program) (w:World) (H:Hp) (s:Shared) (Q:VK) (u:Value) (s':Shared):Prop :=
 ∃v H',s'.os=s.os/\AllBare s'.gens/\Un (fV outer) [] H H' s.heap s'.heap/\bX P w H' s'.heap/\RelV v u/\Q v H'
def CR (CX:iI) (outer:List Env) (P:Program) (w:World) (H:Hp) (s:Shared) (Q:VK) (E:XK) (r:Result) (s':Shared):Prop :=
 match r with
 | .ok (.ret u)=>CE outer P w H s Q u s'
 | .ok _=>False
 | .error e=>CX outer H s E e s'
structure aU (P:Program) (w:World) (K:Frag) (mg:Str->Option Value) (base:Heap) (CX:iI) (k:Nat) (f:Addr) (fd:FuncData) (ps:List Str) (sp:Sp):Prop where
 len:∀vs H Q E,sp vs H Q E->vs.length=ps.length
 run:∀(A:Around) (outer:List Env) (s:Shared) (H:Hp) (args:Args) (us:List Value) (vs:List V) (Q:VK) (E:XK),cq k A->uD P w K mg base A outer s H->BindsTo s fd args (ps.zip us)->Vals vs us->sp vs H Q E ->
  codeAny (model P w) A (.call (.ref f) args) (CR CX outer P w H s Q E) s
theorem aU.imp {P:Program} {w:World} {K:Frag} {mg:Str->Option Value} {base:Heap} {CX:iI} {k:Nat} {f:Addr} {fd:FuncData} {ps:List Str} {sp Ge:Sp} (F:aU P w K mg base CX k f fd ps sp)
  (h:∀vs H Q E,Ge vs H Q E->sp vs H Q E):aU P w K mg base CX k f fd ps Ge :=
 ⟨λvs H Q E q=>F.len vs H Q E (h _ _ _ _ q),λA outer s H args us vs Q E hr he hb hv hs=>F.run A outer s H args us vs Q E hr he hb hv (h _ _ _ _ hs)⟩
section
variable {X:Cx} {pins:List (Addr×Obj)} {σ:St} {H:Hp} {s s':Shared}
theorem Inv.kW (I:Inv X pins σ H s):uD X.prog X.w X.K X.mg X.base X.A X.stack s H :=
 ⟨I.ok.frames,I.ok.mod,I.bs,Nat.le_trans I.ok.i6 I.sz,I.stack,I.wB,I.aH,I.bare⟩
theorem Inv.after {Q:VK} {u:Value} (I:Inv X pins σ H s) (h:CE X.stack X.prog X.w H s Q u s'):EP X pins σ Q u s':=by
 obtain⟨v,H',os,bare,un,aH,r,q⟩:=h
 obtain⟨hh,g,d,t,yV⟩:=s'
 obtain rfl:yV=s.os:=os
 exact⟨v,H',I.call (h':=hh) (g':=g) (d':=d) (t':=t) (ch:=[]) un aH bare (λb z=>absurd z (by simp)),r,q⟩
end
noncomputable def OJ (sp:Sp) (aw:List V) (E:XK) (t:TA):TE:=fun σ H Q=>t σ H λvs H1=>sp (vs++aw) H1 Q E
def Binds (K:Frag) (fd:FuncData) (ps:List Str) (ds:List Value):Prop :=
 ∀(s:Shared) (us:List Value),K.In s.heap->(us++ds).length=ps.length->BindsTo s fd ⟨us,[]⟩ (ps.zip (us++ds))
theorem Binds.all {K:Frag} {fd:FuncData} {ps:List Str} (h:∀us:List Value,us.length=ps.length->bindArgs fd ⟨us,[]⟩=pure (ps.zip us)):Binds K fd ps []:=λs us _ hl=>by
 rw[List.append_nil] at hl |-
 exact .of_eq (h us hl)
def Passes (CX:iI) (X:Cx) (E:XK):Prop:=∀(pins:List (Addr×Obj)) (σ:St) (H:Hp) (s:Shared) (e:Value) (s':Shared),Inv X pins σ H s->CX X.stack H s E e s'->X.xe e s'
section
variable {X:Cx} {CX:iI} {k:Nat} {f C:Addr} {fd:FuncData} {ps:List Str} {sp:Sp} {aw:List V} {ds:List Value} {E:XK} {x m:Str} {p pos apos:Pos} {e o:Expr} {es:List Expr} {ta:TE} {t:TA}
theorem Nk {pins:List (Addr×Obj)} {σ:St} {H:Hp} {s:Shared} {Q:VK} {us:List Value} {vs:List V} (F:aU X.prog X.w X.K X.mg X.base CX k f fd ps sp) (hr:cq k X.A) (hb:Binds X.K fd ps ds) (hd:Vals aw ds) (hx:Passes CX X E)
  (I:Inv X pins σ H s) (r:Vals vs us) (h:sp (vs++aw) H Q E):wpAny (model X.prog X.w) X.A (call (.ref f) us) (EP X pins σ Q) X.xe s:=by
 have r2:Vals (vs++aw) (us++ds):=r.append hd
 have hl:(us++ds).length=ps.length:=by rw[<- r2.length];exact F.len _ _ _ _ h
 refine wpAny_call (codeAny_mono (F.run X.A X.stack s H ⟨us,[]⟩ (us++ds) (vs++aw) Q E hr I.kW (hb s us I.oS hl) r2 h) λr s' hq=>?_)
 cases r with
 |error e=>exact hx pins σ H s e s' I hq
 |ok fl =>
  cases fl with
  |ret u=>exact I.after hq
  |next=>exact False.elim hq
  |brk=>exact False.elim hq
  |cont=>exact False.elim hq
theorem LJ (F:aU X.prog X.w X.K X.mg X.base CX k f fd ps sp) (hr:cq k X.A) (hg:Gl X x) (hm:X.mg x=some (.ref f)) (hk:PySem.W.keepIn X.K (.ref f)=true) (hb:Binds X.K fd ps ds) (hd:Vals aw ds) (hx:Passes CX X E)
  (ha:PA X (e::es) t) (ja:(x==("__debug__":Str))=false:=by decide) (he:starEach (e::es) X.env=(false,eval e X.env)::starEach es X.env:=by rfl) (cN:(backTo pos (starEach es X.env)).any (·.1)=false:=by rfl) :
  PE X (.Call (.Name x p) (e::es) [] pos) (OJ sp aw E t):=by
 intro pins s σ H Q I h
 refine wpAny_Call_Name_kw (C6 I hg hm ?_ ja)
 refine PySem.W.callWith_K (h₀:=X.base) I.ok.mod.uU hk (aJ (ha pos pins s σ H _ I h) λus s1 ⟨vs,H1,I1,r,q⟩=>⟨I1.oS,?_⟩) he cN
 exact Nk F hr hb hd hx I1 r q
structure Mk (K:Frag) (C f:Addr):Prop where
 makes:PySem.W.makesIn K C=true
 init:PySem.W.findIn K (.ref C) "__init__"=some (some (.ref f))
 fn:PySem.W.isFn K (.ref f)=true
 kp:PySem.W.keepIn K (.ref C)=true
end
section
variable {X:Cx} {CX:iI} {k:Nat} {f C:Addr} {fd:FuncData} {ps ks:List Str} {sp:Sp} {E:XK} {x m:Str} {p pos apos P6:Pos} {e o:Expr} {es:List Expr} {Th:List Keyword} {te ta:TE} {t tk:TA} {nm:Option Str}
structure S6 (K:Frag) (fd:FuncData) (ps ks:List Str) (g:List Value->List Value->List Value) (gV:List V->List V->List V):Prop where
 to:∀(s:Shared) (us ws:List Value),K.In s.heap->(g us ws).length=ps.length->BindsTo s fd ⟨us,ks.zip ws⟩ (ps.zip (g us ws))
 rel:∀{vs:List V} {us:List Value} {zs:List V} {ws:List Value},Vals vs us->Vals zs ws->Vals (gV vs zs) (g us ws)
variable {g:List Value->List Value->List Value} {gV:List V->List V->List V}
end
structure bB (N P:List Str) (sc:Scope):Prop where
 kind:sc.kind=.function
 co:sc.isCoroutine=false
 gen:sc.isGenerator=false
 nd:N.Nodup
 pre:N.take P.length=P
 par:∀x∈P,sc.names.lookup x=some .local\/sc.names.lookup x=some .cell
 Nl:∀y∈sc.names,y.2≠.free
theorem BF {kindOf:Str->Option NameKind} {x:Str}:∀{binds:List (Str×Value)} {m:Str->Option Value},(∀v,(x,v)∉binds)->bindL kindOf binds m x=m x
 | [],_,_=>rfl
 |(n,v)::r,m,h=>by
  unfold bindL
  rw[BF λw hw=>h w (List.mem_cons_of_mem _ hw)]
  split
  ·have:x≠n:=by rintro rfl;exact h v List.mem_cons_self
   simp[this]
  ·rfl
theorem BG {kindOf:Str->Option NameKind} {x:Str}:∀{binds:List (Str×Value)} {m:Str->Option Value},(∀v,(x,v)∉binds)->bindC kindOf binds m x=m x
 | [],_,_=>rfl
 |(n,v)::r,m,h=>by
  unfold bindC
  rw[BG λw hw=>h w (List.mem_cons_of_mem _ hw)]
  split
  ·rfl
  ·have:x≠n:=by rintro rfl;exact h v List.mem_cons_self
   simp[this]
theorem BH {kindOf:Str->Option NameKind} {x:Str} {v:Value}:∀{P:List Str} {vs:List Value} {i:Nat} {m:Str->Option Value},P.Nodup->P[i]?=some x->vs[i]?=some v->kindOf x=some .local ->
  bindL kindOf (P.zip vs) m x=some v
 | [],_,_,_,_,h,_,_=>by simp at h
 |_::_,[],_,_,_,_,h,_=>by simp at h
 |p::P,w::vs,0,m,nd,h1,h2,hk=>by
  simp at h1 h2;subst h1;subst h2
  show bindL kindOf ((p,w)::P.zip vs) m p=_
  unfold bindL
  rw[BF λv hv=>(List.nodup_cons.mp nd).1 (List.of_mem_zip hv).1,if_pos hk]
  simp
 |p::P,w::vs,i+1,m,nd,h1,h2,hk=>by
  show bindL kindOf ((p,w)::P.zip vs) m x=_
  unfold bindL
  exact BH (i:=i) (List.nodup_cons.mp nd).2 (by simpa using h1) (by simpa using h2) hk
theorem BJ {kindOf:Str->Option NameKind} {x:Str} {v:Value}:∀{P:List Str} {vs:List Value} {i:Nat} {m:Str->Option Value},P.Nodup->P[i]?=some x->vs[i]?=some v->kindOf x≠some .local ->
  bindC kindOf (P.zip vs) m x=some v
 | [],_,_,_,_,h,_,_=>by simp at h
 |_::_,[],_,_,_,_,h,_=>by simp at h
 |p::P,w::vs,0,m,nd,h1,h2,hk=>by
  simp at h1 h2;subst h1;subst h2
  show bindC kindOf ((p,w)::P.zip vs) m p=_
  unfold bindC
  rw[BG λv hv=>(List.nodup_cons.mp nd).1 (List.of_mem_zip hv).1,if_neg hk]
  simp
 |p::P,w::vs,i+1,m,nd,h1,h2,hk=>by
  show bindC kindOf ((p,w)::P.zip vs) m x=_
  unfold bindC
  exact BJ (i:=i) (List.nodup_cons.mp nd).2 (by simpa using h1) (by simpa using h2) hk
noncomputable def start (N:List Str) (vs:List V):St:=vs.map some++List.replicate (N.length-vs.length) none
noncomputable def mF (CX:iI) (P:Program) (w:World) (K:Frag) (mg:Str->Option Value) (base:Heap) (N:List Str) (qual:Str) (scope:Scope) (f:Addr) (cd:Value) (A:Around) (outer:List Env) (s:Shared) (H:Hp) (E:XK):Cx where
 prog:=P
 w:=w
 K:=K
 mg:=mg
 base:=base
 A:=A.deeper (envOfC qual scope s.heap.objs.size f cd)
 N:=N
 cM:=s
 qu:=H
 env:=envOfC qual scope s.heap.objs.size f cd
 outer:=outer
 stack:=envOfC qual scope s.heap.objs.size f cd::outer
 ex:=[]
 calm:=true
 fn:=λ_=>true
 pn:=[]
 xe:=λe s'=>wpAny (model P w) (A.deeper (envOfC qual scope s.heap.objs.size f cd)) (leaving (envOfC qual scope s.heap.objs.size f cd) e) (λ_ qV=>CX outer H s E e qV) (λe' qV=>CX outer H s E e' qV) s'
theorem Cr {sc:Scope} {n:Nat} {x:Str} (h:sc.names.lookup x=some .cell):∃c,(cellsFrom n sc.names []).lookup x=some c:=by
 have q:=PySem.W.cellsFrom_some sc.names n [] (.inl h)
 exact Option.isSome_iff_exists.mp q
theorem Jl {CX:iI} {P:Program} {w:World} {K:Frag} {mg:Str->Option Value} {base:Heap} {N ps:List Str} {qual:Str} {scope:Scope} {f:Addr} {cd:Value} {A:Around} {outer:List Env} {s s1:Shared} {H:Hp} {E:XK} {us:List Value} {vs:List V}
  (S:bB N ps scope) (hd:A.handled=none) (e0:uD P w K mg base A outer s H) (hl:vs.length=ps.length) (r:Vals vs us)
  (x:InCallC s s.heap.objs.size (bindL (envOfC qual scope s.heap.objs.size f cd).kindOf (ps.zip us) λ_=>none) (cellsFrom (s.heap.objs.size+1) scope.names []) (bindC (envOfC qual scope s.heap.objs.size f cd).kindOf (ps.zip us) λ_=>none) s1) :
  Inv (mF CX P w K mg base N qual scope f cd A outer s H E) [] (start N vs) H s1:=by
 have cN:ps.length<=N.length:=by have:=congrArg List.length S.pre;rw[List.length_take] at this;omega
 obtain⟨h1,tk,rfl,hk⟩:=x.done
 have qW:∀b:Addr,b∉(mF CX P w K mg base N qual scope f cd A outer s H E).ex:=λb z=>absurd (show b∈([]:List Addr) from z) (by simp)
 refine⟨⟨e0.mod,S.kind,rfl,rfl,Nat.le_refl _,λy z c h1 h2=>?_,λy hy=>?_,λy c _ h=>?_,λ_=>hd,Around.frames_deeper e0.frames,.inr ⟨rfl,rfl⟩,λb z=>absurd z (qW b),e0.bs,e0.i6,λb _ _=>qW b,λb z=>absurd z (qW b),e0.iV,e0.oR⟩,
  rfl,e0.bare,Un.kept hk,⟨_,x.toInCall.ns,λi y v h1 h2 h3=>?_⟩,λy c h=>⟨_,x.cell y c h⟩,e0.aH.fresh (Nat.le_refl _),λy c h=>?_,λp hp=>absurd (show p∈([]:List (Addr×Obj)) from hp) (by simp),e0.aH.kept hk,?_⟩
 ·exact name_of_addr x.apart (PySem.mem_of_lookup h1) (PySem.mem_of_lookup h2)
 ·have hy:scope.names.lookup y=some .cell\/scope.names.lookup y=some .free:=hy
  rcases hy with hy|hy
  ·exact Cr hy
  ·exact absurd rfl (S.Nl _ (PySem.mem_of_lookup hy))
 ·exact Nat.le_of_lt (x.above y c (PySem.mem_of_lookup h))
 ·have hi:i<vs.length:=by
   unfold start at h2
   by_cases hi:i<vs.length
   ·exact hi
   ·rw[List.getElem?_append_right (by simpa using hi)] at h2
    rw[List.getElem?_replicate] at h2
    split at h2<;>cases h2
  have ha:vs[i]?=some v:=by
   unfold start at h2
   rw[List.getElem?_append_left (by simpa using hi),List.getElem?_map] at h2
   cases e:vs[i]? with
   |none=>rw[e] at h2;cases h2
   |some a=>rw[e] at h2;cases h2;rfl
  obtain⟨u,hu,rv⟩:=r.get ha
  have hp:ps[i]?=some y:=by
   rw[<- S.pre,List.getElem?_take_of_lt (by omega)];exact h1
  have Gf:ps.Nodup:=by rw[<- S.pre];exact S.nd.sublist (List.take_sublist _ _)
  refine⟨u,rv,?_⟩
  rcases S.par y (List.mem_of_getElem? hp) with k|k
  ·exact .inl ⟨k,BH Gf hp hu k⟩
  ·obtain⟨c,e⟩:=Cr (n:=s.heap.objs.size+1) k
   refine .inr ⟨.inl k,c,e,?_⟩
   have q:=x.cell y c e
   rw[BJ Gf hp hu (by show scope.names.lookup y≠_;rw[k];decide)] at q
   exact q
 ·exact e0.aH.fresh (Nat.le_of_lt (x.above y c (PySem.mem_of_lookup h)))
 ·unfold start
  show _=N.length
  rw[List.length_append,List.length_map,List.length_replicate]
  omega
theorem OK {CX:iI} {P:Program} {w:World} {K:Frag} {mg:Str->Option Value} {base:Heap} {k:Nat} {f:Addr} {name qual:Str} {params:Arguments} {body:List Stmt} {scope:Scope} {dV kV doc pm aX ct oc:Value} {an od:Option Addr}
  {lg:Array (Option Value)} {N ps:List Str} {sp:Sp} (lk:K.lookup f=some ⟨oc,od,.func (PySem.W.fnOf name qual params body scope dV kV doc pm an aX ct),lg⟩) (i7:PySem.W.codeIn K aX qual=true) (S:bB N ps scope)
  (len:∀vs H Q E,sp vs H Q E->vs.length=ps.length)
  (xJ:∀(A:Around) (outer:List Env) (s:Shared) (H:Hp) (vs:List V) (Q:VK) (E:XK),cq k (A.deeper (envOfC qual scope s.heap.objs.size f aX))->sp vs H Q E ->
   ∃t,dq (mF CX P w K mg base N qual scope f aX A outer s H E) body t/\t { nx:=λ_ H'=>Q .aA H',rt:=Q } (start N vs) H) :
  aU P w K mg base CX (k+1) f (PySem.W.fnOf name qual params body scope dV kV doc pm an aX ct) ps sp:=by
 refine⟨len,λA outer s H args us vs Q E hr e0 hb r lh=>?_⟩
 have hl:=len _ _ _ _ lh
 have KX:K.In s.heap:=e0.mod.uU.keeps λb o e=>(e0.bs b o e).1
 have lim:s.heap.NoLimit:=e0.mod.nolimit.keeps λb o e=>(e0.bs b o e).1
 have OL:∀y∈ps.zip us,scope.names.lookup y.1=some .local\/(scope.names.lookup y.1=some .cell/\((cellsFrom (s.heap.objs.size+1) scope.names []).lookup y.1).isSome=true):=λ⟨n,v⟩ hy=>by
  rcases S.par n (List.of_mem_zip hy).1 with q|q
  ·exact .inl q
  ·exact .inr ⟨q,PySem.W.cellsFrom_some _ _ _ (.inl q)⟩
 refine codeAny_call_function hr.depth (KX _ _ lk) rfl S.co S.gen rfl (PySem.W.codeRec_of KX i7) (hb _ _ _ _ ?_)
 refine wpAny_newFunctionEnv_cells S.kind OL λenv he s1 x=>?_
 subst he
 refine⟨lim.keeps x.toInCall.keep,codeAny_func ?_⟩
 obtain⟨t,ht,hq⟩:=xJ A outer s H vs Q E (hr.deeper _) lh
 have I:Inv (mF CX P w K mg base N qual scope f aX A outer s H E) [] (start N vs) H s1:=Jl S hr.hd e0 hl r x
 refine wpAny_mono (ht [] s1 (start N vs) H _ I hq) (λfl s' hs=>?_) λe s' hs=>hs
 have fin:∀{aT:St} {H':Hp} {v:V} {u:Value},Inv (mF CX P w K mg base N qual scope f aX A outer s H E) [] aT H' s'->RelV v u->Q v H'->CE outer P w H s Q u s' :=
  λ{aT H' v u} J rv q=>⟨v,H',J.os,J.bare,J.base,J.aH,rv,q⟩
 cases fl with
 |ret u =>
  obtain⟨v,aT,H',J,rv,q⟩:=hs
  exact fin J rv q
 |next =>
  obtain⟨aT,H',J,q⟩:=hs
  exact fin (v:=V.aA) (u:=Value.none) J rfl q
 |brk =>
  obtain⟨_,_,_,q⟩:=hs
  exact False.elim q
 |cont =>
  obtain⟨_,_,_,q⟩:=hs
  exact False.elim q
end L2
namespace L2
open PySem PySem.Spec PyProof.Rows
section
variable {X:Cx} {x:Str} {p pos:Pos} {e:Expr} {es:List Expr} {t:TA} {id T:String} {r:List V->Hp->VK->Prop}
noncomputable def yW (r:List V->Hp->VK->Prop) (t:TA):TE:=fun σ H Q=>t σ H λvs H1=>r vs H1 Q
theorem vX (hc:bV X (.builtin id) r) (hg:Gl X x) (hm:X.mg x=none) (hv:bootBuiltins x=some (.builtin id)) (ha:PA X (e::es) t) (hn:x≠"__name__":=by decide) (ja:(x==("__debug__":Str))=false:=by decide)
  (he:starEach (e::es) X.env=(false,eval e X.env)::starEach es X.env:=by rfl) (cN:(backTo pos (starEach es X.env)).any (·.1)=false:=by rfl):PE X (.Call (.Name x p) (e::es) [] pos) (yW r t):=by
 intro pins s σ H Q I h
 refine wpAny_Call_Name_kw (kK I hg hm hv ?_ hn ja)
 exact PyProof.Rows.callWith_builtin1 (aJ (ha pos pins s σ H _ I h) λus s1 ⟨vs,H1,I1,r1,q1⟩=>hc pins s1 σ H1 vs us Q I1 r1 q1) he cN
theorem vL (hc:bV X (.type T) r) (hg:Gl X x) (hm:X.mg x=none) (hv:bootBuiltins x=some (.type T)) (ha:PA X (e::es) t) (hn:x≠"__name__":=by decide) (ja:(x==("__debug__":Str))=false:=by decide)
  (he:starEach (e::es) X.env=(false,eval e X.env)::starEach es X.env:=by rfl) (cN:(backTo pos (starEach es X.env)).any (·.1)=false:=by rfl):PE X (.Call (.Name x p) (e::es) [] pos) (yW r t):=by
 intro pins s σ H Q I h
 refine wpAny_Call_Name_kw (kK I hg hm hv ?_ hn ja)
 exact PyProof.Rows.callWith_type1 (aJ (ha pos pins s σ H _ I h) λus s1 ⟨vs,H1,I1,r1,q1⟩=>hc pins s1 σ H1 vs us Q I1 r1 q1) he cN
end
end L2
namespace HT
open PySem PyProof.Rows
noncomputable def lexLt:List Int->List Int->Bool
 | [],[]=>false
 | [],_::_=>true
 |_::_,[]=>false
 |x::xs,y::ys=>if x=y then lexLt xs ys else decide (x<y)
theorem ip (x y:Int) (xs ys:List Int):lexLt (x::xs) (y::ys)=if x=y then lexLt xs ys else decide (x<y):=rfl
theorem Cs (A:Around) (s:Shared) (a:Int) (t:Tok) (c:Int) (u:Tok) (prog:Program) (w:World) (E:Value->Shared->Prop) (Q:Value->Shared->Prop) (h:Q (.bool (decide (a<c))) s) :
  wpAny (model prog w) A (richCompare .Lt (.int a t) (.int c u)) Q E s :=
 (PyProof.Rows.lt_int h:wpAny (model prog w) A (compareOp .Lt (.int a t) (.int c u)) Q E s)
section
open PySem.SeqAt
open PySem.AutoSeq1 (wpAny_loadPart')
open PySem.MeetsSeq PySem.MeetsSeq2 PySem.MeetsSeq3
end
section
variable {prog:Program} {w:World} {A:Around} {E:Value->Shared->Prop} {s:Shared}
theorem LK {t b:Addr} {vs ws:List Value} {Q:Value->Shared->Prop} (ht:IsTup s.heap t vs.toArray) (hb:IsTup s.heap b ws.toArray) (hv:vs≠[])
  (h1:ws=[]->Q (.ref t) s) (h2:ws≠[]->Q (.ref s.heap.objs.size) { s with heap:=s.heap.push { cls:=.type "tuple",data:=.seq (vs++ws).toArray } })
  (hsz:vs.length+ws.length<=sizeLine):wpAny (model prog w) A (binaryOp .Add (.ref t) (.ref b)) Q E s:=by
 obtain⟨⟨cls,dd,data,sl⟩,ho,hc,n,hd⟩:=id ht
 obtain⟨⟨FG,lj,data2,cG⟩,iJ,lp,n2,hd2⟩:=id hb
 simp only at hc hd lp hd2
 subst hc hd lp hd2
 have e:vs.toArray++ws.toArray=(vs++ws).toArray:=by simp
 by_cases hw:ws=[]
 ·exact concat_meets ⟨_,ho,rfl⟩ ⟨_,iJ,rfl⟩ noFill_tuple_add seq_tuple_add PySem.F.slot_tuple_add PySem.F.entry_tuple_add (PySem.F.args_tuple_add_2 _ _)
   (tuple_addW1 t b vs.toArray ws.toArray n n2 dd lj sl cG (by simpa using hv) (by simp[hw])) ⟨ho,iJ,h1 hw⟩
 ·refine concat_meets ⟨_,ho,rfl⟩ ⟨_,iJ,rfl⟩ noFill_tuple_add seq_tuple_add PySem.F.slot_tuple_add PySem.F.entry_tuple_add (PySem.F.args_tuple_add_2 _ _)
   (tuple_addW2 t b vs.toArray ws.toArray n n2 dd lj sl cG (by simpa using hv) (by simpa using hw) (by rw[List.size_toArray,List.size_toArray];exact hsz)) ⟨ho,iJ,?_⟩
  rw[e]
  exact h2 hw
noncomputable def aP (n d:Nat):Option Int->Nat
 |none=>d
 |some v=>if v<0 then (v+(n:Int)).toNat else min v.toNat n
theorem LL (n d k:Nat):aP n d (some (k:Int))=min k n:=by
 show (if (k:Int)<0 then ((k:Int)+(n:Int)).toNat else min (k:Int).toNat n)=min k n
 rw[if_neg (by omega),Int.toNat_natCast]
theorem Nm (n d:Nat) (hd:d<=n) (o:Option Int):aP n d o<=n:=by
 cases o with
 |none=>exact hd
 |some v =>
  show (if v<0 then (v+(n:Int)).toNat else min v.toNat n)<=n
  by_cases hv:v<0
  ·rw[if_pos hv];omega
  ·rw[if_neg hv];exact Nat.min_le_right _ _
theorem C9 (v:Int) (n d:Nat):(if v<0 then max (v+(n:Int)) 0 else min v (n:Int))=((aP n d (some v):Nat):Int):=by
 show (if v<0 then max (v+(n:Int)) 0 else min v (n:Int))=(((if v<0 then (v+(n:Int)).toNat else min v.toNat n):Nat):Int)
 by_cases hv:v<0
 ·simp only[if_pos hv];omega
 ·simp only[if_neg hv];omega
theorem Ir (lo hi:Option Int) (n:Nat):Builtin.Slice.sliceAdjust lo hi 1 (n:Int)=(((aP n 0 lo:Nat):Int),((aP n n hi:Nat):Int)):=by
 have h1:¬ ((1:Int)<0):=by omega
 unfold Builtin.Slice.sliceAdjust
 simp only[h1,if_false]
 refine Prod.ext ?_ ?_
 ·cases lo with
  |none=>rfl
  |some v=>exact C9 v n 0
 ·cases hi with
  |none=>rfl
  |some v=>exact C9 v n n
theorem Iu (i j:Nat):Builtin.Slice.slicePlaces (i:Int) (j:Int) 1=j-i:=by
 unfold Builtin.Slice.slicePlaces
 have h1:(1:Int) > 0:=by omega
 simp only[h1,if_true,Int.ediv_one]
 split<;>omega
theorem Bm {v:Value} {o:Option Int} {Q:Option Int->Shared->Prop} (p:IsPart v o) (h:Q o s):wpAny (model prog w) A (Builtin.Slice.slicePartIndex v) Q E s:=by
 cases p with
 |none=>exact slicePart_none h
 |int i t=>exact slicePart_int h
theorem AG {sl:Addr} {vl vu:Value} {lo hi:Option Int} {n:Nat} {Q:Int×Int×Nat->Shared->Prop} (hs:s.heap.IsSliceOf sl vl vu .none) (pl:IsPart vl lo) (pu:IsPart vu hi)
  (h:Q (((aP n 0 lo:Nat):Int),1,aP n n hi-aP n 0 lo) s):wpAny (model prog w) A (Builtin.Slice.sliceApplied (.ref sl) (pure (n:Int))) Q E s:=by
 obtain⟨os,iK,gu,km⟩:=id hs
 unfold Builtin.Slice.sliceApplied Builtin.Slice.sliceFields
 refine wpAny_bind (wpAny_bind (wpAny_field iK km (x:=vl) rfl (wpAny_bind (wpAny_field iK km (x:=vu) rfl (wpAny_bind (wpAny_field iK km (x:=.none) rfl (wpAny_pure ?_)))))))
 refine wpAny_bind (slicePart_none ?_)
 show wpAny _ _ (if ((1:Int)==0)=true then _ else _) _ _ s
 rw[if_neg (by decide)]
 refine wpAny_bind (Bm pl (wpAny_bind (Bm pu (wpAny_bind (wpAny_pure ?_)))))
 show wpAny _ _ (match Builtin.Slice.sliceAdjust lo hi 1 (n:Int) with | (lo,hi)=>pure (lo,(1:Int),Builtin.Slice.slicePlaces lo hi 1)) _ _ s
 rw[Ir lo hi n]
 show wpAny _ _ (pure (((aP n 0 lo:Nat):Int),(1:Int),Builtin.Slice.slicePlaces ((aP n 0 lo:Nat):Int) ((aP n n hi:Nat):Int) 1)) _ _ s
 rw[Iu]
 exact wpAny_pure h
theorem Kj (xs:Array Value) (i k:Nat):((List.range k).filterMap λ(m:Nat)=>xs[((i:Int)+(m:Int)*1).toNat]?).toArray=((xs.toList.drop i).take k).toArray:=by
 have e:(λ(m:Nat)=>xs[((i:Int)+(m:Int)*1).toNat]?)=λm=>xs[i+m]?:=by
  funext m
  have:((i:Int)+(m:Int)*1).toNat=i+m:=by omega
  rw[this]
 rw[e]
 have:=pick_run xs i k
 rw[List.filterMap_map] at this
 have e2:((λx=>xs[x]?) ∘ λx=>i+x)=λm=>xs[i+m]?:=rfl
 rw[e2] at this
 rw[this]
theorem G1 {t sl:Addr} {items:Array Value} {vl vu:Value} {lo hi:Option Int} {Q:Value->Shared->Prop} (ht:IsTup s.heap t items) (hs:s.heap.IsSliceOf sl vl vu .none) (pl:IsPart vl lo) (pu:IsPart vu hi)
  (hw:¬ (aP items.size 0 lo=0/\aP items.size items.size hi=items.size))
  (h:Q (.ref s.heap.objs.size) { s with heap:=s.heap.push { cls:=.type "tuple",data:=.seq ((items.toList.drop (aP items.size 0 lo)).take (aP items.size items.size hi-aP items.size 0 lo)).toArray } })
  (hsz:items.size<=sizeLine):wpAny (model prog w) A (getItem (.ref t) (.ref sl)) Q E s:=by
 have ue:sizeOk (.seq ((items.toList.drop (aP items.size 0 lo)).take (aP items.size items.size hi-aP items.size 0 lo)).toArray):=by
  show ((items.toList.drop (aP items.size 0 lo)).take (aP items.size items.size hi-aP items.size 0 lo)).toArray.size<=sizeLine
  rw[List.size_toArray,List.length_take,List.length_drop,Array.length_toList]
  omega
 have hj:aP items.size items.size hi<=items.size:=Nm _ _ (Nat.le_refl _) hi
 obtain⟨os,iK,gu,km⟩:=id hs
 have qX:s.TypeIs (.ref sl) "slice":=⟨os,iK,gu⟩
 unfold getItem
 try with_reducible refine wpAny_holding ?_
 first|refine wpAny_bind (wpAny_pure ?_)|skip
 refine wpAny_bind (wpAny_sequenceKey ht.typeIs (by decide) ?_)
 refine wpAny_bind (wpAny_callSpecial?_slot (name:=Str.ofString "__getitem__") ht.typeIs PyProof.Rows.slot_tuple_getitem
  (wpAny_call_entry PyProof.Rows.slot_tuple_getitem ht.typeIs entry_tuple_getitem ?_ (args_tuple_getitem _ _)))
 show wpAny _ _ (Builtin.Tuple.tupleItemsOf (.ref t) >>= _) _ _ s
 refine wpAny_bind (tupleItemsOf_ ht ?_)
 refine wpAny_bind (wpAny_typeOf qX ?_)
 rw[if_pos (by decide)]
 refine wpAny_bind (AG hs pl pu ?_)
 have yX:¬ ((((aP items.size 0 lo:Nat):Int)==0&&(1:Int)==1&&(aP items.size items.size hi-aP items.size 0 lo)==items.size)=true):=by
  intro q
  rw[Bool.and_eq_true,Bool.and_eq_true] at q
  have q1:((aP items.size 0 lo:Nat):Int)=0:=eq_of_beq q.1.1
  have q2:aP items.size items.size hi-aP items.size 0 lo=items.size:=eq_of_beq q.2
  exact hw ⟨by omega,by omega⟩
 show wpAny _ _ (if (((aP items.size 0 lo:Nat):Int)==0&&(1:Int)==1&&(aP items.size items.size hi-aP items.size 0 lo)==items.size)=true then _ else _) _ _ s
 rw[if_neg yX,Kj]
 first
  |exact wpAny_bind (m:=Builtin.Tuple.tupleExact _) (wpAny_newObj_type (wpAny_pure ⟨_,rfl,wpAny_pure h⟩) ue)
  |exact wpAny_bind (m:=Builtin.Tuple.tupleExact _) (wpAny_newObj_type (wpAny_bind (wpAny_pure (wpAny_pure ⟨_,rfl,wpAny_pure h⟩))) ue)
  |exact wpAny_bind (wpAny_bind (m:=Builtin.Tuple.tupleExact _) (wpAny_newObj_type (wpAny_pure (wpAny_pure ⟨_,rfl,wpAny_pure h⟩)) ue))
  |exact wpAny_bind (wpAny_bind (m:=Builtin.Tuple.tupleExact _) (wpAny_newObj_type (wpAny_pure ⟨_,rfl,wpAny_pure h⟩) ue))
end
end HT
namespace L2
open PySem PySem.Spec PyProof.Rows
noncomputable abbrev TO:=St->Hp->(Option Int->Hp->Prop)->Prop
def PO (X:Cx) (e:Option Expr) (t:TO):Prop :=
 ∀(pins:List (Addr×Obj)) (s:Shared) (σ:St) (H:Hp) (Q:Option Int->Hp->Prop),Inv X pins σ H s->t σ H Q ->
  wpAny (model X.prog X.w) X.A (evalPart e X.env) (λu s'=>∃o H',Inv X pins σ H' s'/\IsPart u o/\Q o H') X.xe s
noncomputable def LM:TO:=λ_ H Q=>Q none H
noncomputable def OM (t:TE):TO:=fun σ H Q=>t σ H λx H1=>∃i,x=.int i/\Q (some i) H1
theorem intsAre_of {ns:List Int}:∀{us:List Value},Vals (ns.map V.int) us->IntsAre us ns:=by
 induction ns with
 |nil=>intro us r;rw[List.map_nil] at r;cases r;exact .nil
 |cons n ns ih =>
  intro us r
  rw[List.map_cons] at r
  cases r with
  |cons r1 r2 =>
   obtain⟨t,e⟩:=r1
   subst e
   exact .cons n t (ih r2)
section
variable {X:Cx} {e:Expr} {te:TE} {lo hi:Option Expr} {tl th:TO} {pos p2:Pos}
theorem LN:PO X none LM:=by
 intro pins s σ H Q I h
 rw[evalPart_none]
 exact wpAny_pure ⟨none,H,I,.none,h⟩
theorem LO (h:PE X e te):PO X (some e) (OM te):=by
 intro pins s σ H Q I hw
 rw[evalPart_some]
 refine aJ (h pins s σ H _ I hw) λu s1 ⟨x,H1,I1,r1,q1⟩=>?_
 obtain⟨i,rfl,q⟩:=q1
 obtain⟨t,rfl⟩:=r1
 exact⟨some i,H1,I1,.int i t,q⟩
def qY (X:Cx) (r:V->Option Int->Option Int->Hp->VK->Prop):Prop :=
 ∀(pins:List (Addr×Obj)) (s:Shared) (σ:St) (H:Hp) (x:V) (v vl vu:Value) (lo hi:Option Int) (sl:Addr) (Q:VK),Inv X pins σ H s->RelV x v->s.heap.IsSliceOf sl vl vu .none->IsPart vl lo->IsPart vu hi->r x lo hi H Q ->
  ∃T id,typeLookup (.type T) "__getitem__"=pure (some (.builtin id))/\s.TypeIs v T/\wpAny (model X.prog X.w) X.A (getItem v (.ref sl)) (EP X pins σ Q) X.xe s
noncomputable def QR (r:V->Option Int->Option Int->Hp->VK->Prop) (te:TE) (tl th:TO):TE:=fun σ H Q=>te σ H λx H1=>tl σ H1 λl H2=>th σ H2 λu H3=>r x l u H3 Q
theorem Kk {r:V->Option Int->Option Int->Hp->VK->Prop} (hr:qY X r) (he:PE X e te) (hl:PO X lo tl) (hu:PO X hi th):PE X (.Subscript e (.Slice lo hi none p2) pos) (QR r te tl th):=by
 intro pins s σ H Q I h
 refine Subscript_ (aJ (he pins s σ H _ I h) λv s1 ⟨x,H1,I1,r1,q1⟩=>?_)
 refine wpAny_Slice (aJ (hl pins s1 σ H1 _ I1 q1) λvl s2 ⟨l,H2,I2,pl,q2⟩=>aJ (hu pins s2 σ H2 _ I2 q2) λvu s3 ⟨u,H3,I3,pu,q3⟩=>?_)
 rw[evalPart_none]
 refine wpAny_pure ?_
 have I4:Inv X pins σ H3 { s3 with heap:=s3.heap.push { cls:=.type "slice",data:=.fields #[vl,vu,.none] } }:=I3.kept (t':=s3.toks) λb ob q=>Heap.get?_push_of_some _ q
 obtain⟨T,id,hT,ht,hg⟩:=hr pins { s3 with heap:=s3.heap.push { cls:=.type "slice",data:=.fields #[vl,vu,.none] } } σ H3 x v vl vu l u s3.heap.objs.size Q I4 r1 (Heap.IsSliceOf.new ..) pl pu q3
 show wpAny (model X.prog X.w) X.A (subscriptTail e (.Slice lo hi none p2) v (.ref s3.heap.objs.size)) (EP X pins σ Q) X.xe { s3 with heap:=s3.heap.push { cls:=.type "slice",data:=.fields #[vl,vu,.none] } }
 exact tail_any (ops:=[.ref s3.heap.objs.size,v]) ht hT hg (by with_unfolding_all rfl)
noncomputable def iX (xs:List V) (lo hi:Option Int):List V:=(xs.drop (HT.aP xs.length 0 lo)).take (HT.aP xs.length xs.length hi-HT.aP xs.length 0 lo)
theorem A6 (xs:List V) (lo hi:Option Int):(iX xs lo hi).length<=xs.length:=by
 unfold iX
 rw[List.length_take,List.length_drop]
 omega
noncomputable def P7 (K:Frag):V->Option Int->Option Int->Hp->VK->Prop:=λx lo hi H Q=>∃a xs,x=.ref a/\aR K H a xs /\
 ¬ (HT.aP xs.length 0 lo=0/\HT.aP xs.length xs.length hi=xs.length)/\∀p,H p=none->Q (.ref p) (upd H p (.tup (iX xs lo hi)))
theorem xh:qY X (P7 X.K):=by
 intro pins s σ H x v vl vu lo hi sl Q I rx hs pl pu h
 obtain⟨a,xs,rfl,hx,hw,q⟩:=h
 cases rx
 obtain⟨its,r,ht,hz⟩:=I.tuple hx
 have hlen:its.toArray.size=xs.length:=by rw[List.size_toArray];exact r.length.symm
 refine⟨"tuple",_,PyProof.Rows.slot_tuple_getitem.lookup,ht.typeIs,?_⟩
 refine HT.G1 ht hs pl pu (by rw[hlen];exact hw) ?_ (by rw[hlen];exact hz)
 rw[hlen]
 refine⟨.ref s.heap.objs.size,_,I.laid (t':=s.toks) (o:=.tup (iX xs lo hi)) (λb ob q=>Heap.get?_push_of_some _ q) (Nat.le_refl _) ?_,rfl,q _ (I.aH.fresh (Nat.le_refl _))⟩
 exact⟨Nat.le_trans (A6 xs lo hi) hz,_,(r.drop (HT.aP xs.length 0 lo)).take (HT.aP xs.length xs.length hi-HT.aP xs.length 0 lo),IsTup.new _ _⟩
noncomputable def ON (K:Frag):R2:=λx y H Q=>∃a b xs ys,x=.ref a/\y=.ref b/\aR K H a xs/\aR K H b ys/\xs≠[]/\xs.length+ys.length<=sizeLine /\
 (ys=[]->Q (.ref a) H)/\(ys≠[]->∀p,H p=none->Q (.ref p) (upd H p (.tup (xs++ys))))
theorem Vals.wF {xs:List V} {us:List Value} (r:Vals xs us):us=[]↔xs=[]:=by
 cases r with
 |nil=>simp
 |cons _ _=>simp
theorem LP:bh X (binaryOp .Add) (ON X.K):=by
 intro pins s σ H x y v u Q I rx ry h
 obtain⟨a,b,xs,ys,rfl,rfl,ha,hb,hx,hz,q1,q2⟩:=h
 cases rx
 cases ry
 obtain⟨its,r1,p1,_⟩:=I.tuple ha
 obtain⟨mG,r2,p2,_⟩:=I.tuple hb
 refine HT.LK p1 p2 (λz=>hx (r1.wF.mp z)) (λz=>⟨.ref a,H,I,rfl,q1 (r2.wF.mp z)⟩) (λz=>?_) (by rw[<- r1.length,<- r2.length];exact hz)
 refine⟨.ref s.heap.objs.size,_,I.laid (t':=s.toks) (o:=.tup (xs++ys)) (λb ob q=>Heap.get?_push_of_some _ q) (Nat.le_refl _) ?_,rfl,q2 (λw=>z (r2.wF.mpr w)) _ (I.aH.fresh (Nat.le_refl _))⟩
 exact⟨by rw[List.length_append];exact hz,_,r1.append r2,IsTup.new _ _⟩
end
end L2
namespace L2
open PySem PySem.Spec PyProof.Rows
noncomputable def fg (n:Nat) (i:Int):Option Nat:=if 0<=i then (if i<n then some i.toNat else none) else if -(n:Int)<=i then some (i+n).toNat else none
noncomputable def dA {α:Type} (xs:List α) (i:Int):Option α:=(fg xs.length i).bind λj=>xs[j]?
theorem Dc {n:Nat} {i:Int} {j:Nat} (h:fg n i=some j):seqIndex? i n=some j/\j<n/\-(n:Int)<=i/\i<n:=by
 unfold fg at h
 by_cases h0:0<=i
 ·rw[if_pos h0] at h
  by_cases h1:i<n
  ·rw[if_pos h1] at h
   have e:i.toNat=j:=Option.some.inj h
   exact⟨by rw[seqIndex_of h0 h1,e],by omega,by omega,h1⟩
  ·rw[if_neg h1] at h;cases h
 ·rw[if_neg h0] at h
  by_cases h1:-(n:Int)<=i
  ·rw[if_pos h1] at h
   have e:(i+n).toNat=j:=Option.some.inj h
   exact⟨by rw[seqIndex_neg (by omega) h1,e],by omega,h1,by omega⟩
  ·rw[if_neg h1] at h;cases h
theorem wG {α:Type} {xs:List α} {i:Int} {v:α} (h:dA xs i=some v):∃j,seqIndex? i xs.length=some j/\xs[j]?=some v/\j<xs.length/\-(xs.length:Int)<=i/\i<xs.length:=by
 unfold dA at h
 cases e:fg xs.length i with
 |none=>rw[e] at h;cases h
 |some j =>
  rw[e] at h
  obtain⟨h1,h2,h3,h4⟩:=Dc e
  exact⟨j,h1,h,h2,h3,h4⟩
def Dd (b:Expr):Prop:=∀o i,subscripted b false o i=operate [o,i] (getItem o i)
def qZ (X:Cx) (r:R2):Prop :=
 ∀(value slice:Expr) (pins:List (Addr×Obj)) (s:Shared) (σ:St) (H:Hp) (x y:V) (v u:Value) (Q:VK),Inv X pins σ H s->RelV x v->RelV y u->r x y H Q ->
  subscripted slice false v u=operate [v,u] (getItem v u)->wpAny (model X.prog X.w) X.A (subscriptTail value slice v u) (EP X pins σ Q) X.xe s
def QS (X:Cx) (id:String) (r:V->List V->Hp->VK->Prop):Prop :=
 ∀(pins:List (Addr×Obj)) (s:Shared) (σ:St) (H:Hp) (x:V) (xs:List V) (v:Value) (us:List Value) (Q:VK),Inv X pins σ H s->RelV x v->Vals xs us->r x xs H Q ->
  wpAny (model X.prog X.w) X.A (call (.builtin id) (v::us)) (EP X pins σ Q) X.xe s
section
variable {X:Cx} {a b:Expr} {ta tb:TE} {pos:Pos}
theorem OO {r:R2} (hr:qZ X r) (ha:PE X a ta) (hb:PE X b tb) (hs:Dd b):PE X (.Subscript a b pos) (qU r ta tb):=by
 intro pins s σ H Q I h
 exact Subscript_ (yj ha hb I h λv u s2 x y H2 I2 rx ry q=>hr a b pins s2 σ H2 x y v u Q I2 rx ry q (hs _ _))
noncomputable def P8 (K:Frag):R2:=λx y H Q=>∃p xs i v,x=.ref p/\y=.int i/\bG K H p xs/\dA xs i=some v/\Q v H
noncomputable def P9 (K:Frag):R2:=λx y H Q=>∃p xs i v,x=.ref p/\y=.int i/\aR K H p xs/\dA xs i=some v/\Q v H
noncomputable def Qa:R2:=λx y H Q=>∃z i c,x=.str z/\y=.int i/\z.length<=sizeLine/\dA z.cps.toList i=some c/\Q (.str ⟨#[c]⟩) H
theorem De:qZ X (P8 X.K):=by
 intro value slice pins s σ H x y v u Q I rx ry h hs
 obtain⟨p,xs,i,z,rfl,rfl,hq,he,q⟩:=h
 cases rx
 obtain⟨t,rfl⟩:=ry
 obtain⟨its,r,pl,hz⟩:=I.list hq
 obtain⟨j,h1,h2,h3,h4,h5⟩:=wG he
 obtain⟨w,ew,mS⟩:=r.get h2
 have hl:=r.length
 have hn:=lU
 have fin:EP X pins σ Q w s:=⟨z,H,I,mS,q⟩
 by_cases h0:0<=i
 ·have hj:i.toNat=j:=by
   rw[seqIndex_of h0 h5] at h1
   exact Option.some.inj h1
  exact item_listR pl.isList h0 (by omega) (by rw[hj];simpa using ew) fin hs
 ·have hj:(i+(its.toArray.size:Int)).toNat=j:=by
   rw[seqIndex_neg (by omega) h4] at h1
   rw[List.size_toArray,<- hl]
   exact Option.some.inj h1
  exact subscriptTail_builtinR (x:=w) pl.isList.typeIs slot_list_getitem.lookup
   (wpAny_getItem_list_neg (Q:=λr s'=>r=w/\EP X pins σ Q r s') pl.isList (by omega) (by rw[List.size_toArray]<;>omega) (by omega) (by rw[hj];simpa using ew) ⟨rfl,fin⟩) hs
theorem Nn:qZ X (P9 X.K):=by
 intro value slice pins s σ H x y v u Q I rx ry h hs
 obtain⟨p,xs,i,z,rfl,rfl,hq,he,q⟩:=h
 cases rx
 obtain⟨t,rfl⟩:=ry
 obtain⟨its,r,pl,hz⟩:=I.tuple hq
 obtain⟨j,h1,h2,h3,h4,h5⟩:=wG he
 obtain⟨w,ew,mS⟩:=r.get h2
 have hl:=r.length
 have hn:=lU
 have fin:EP X pins σ Q w s:=⟨z,H,I,mS,q⟩
 exact subscriptTail_builtinR (x:=w) pl.typeIs slot_tuple_getitem.lookup
  (getItem_tuple (j:=j) (Q:=λr s'=>r=w/\EP X pins σ Q r s') pl (by omega) (by omega) (by rw[List.size_toArray,<- hl];exact h1) (by simpa using ew) ⟨rfl,fin⟩) hs
theorem Np:qZ X Qa:=by
 intro value slice pins s σ H x y v u Q I rx ry h hs
 obtain⟨z,i,c,rfl,rfl,hz,he,q⟩:=h
 obtain⟨t,rfl⟩:=rx
 obtain⟨t',rfl⟩:=ry
 obtain⟨j,h1,h2,h3,h4,h5⟩:=wG he
 have hl:z.cps.toList.length=z.length:=by simp[Str.length]
 rw[hl] at h1 h4 h5
 have hn:=lU
 exact tail_any (typeIs_str s z t) slot_str_getitem.lookup (getItem_str (c:=c) (by
  have e1:decide (i < -(2 ^ 63:Int))=false:=decide_eq_false (by omega)
  have e2:decide (i ≥ 2 ^ 63)=false:=decide_eq_false (by omega)
  rw[e1,e2,Bool.or_false]) (by rw[h1];simpa using h2) ⟨.str ⟨#[c]⟩,H,I.tok _,⟨_,rfl⟩,q⟩) hs
theorem Iv (its:List Value) (n j:Nat) (u:Value):Obj.mapSeq (·.setIfInBounds j u) { cls:=.type "list",data:=.seq its.toArray n }={ cls:=.type "list",data:=.seq (its.set j u).toArray n }:=by
 simp[Obj.mapSeq]
theorem Inv.lst {pins:List (Addr×Obj)} {σ:St} {H:Hp} {s:Shared} {p:Addr} {xs:List V} (I:Inv X pins σ H s) (h:H p=some (.lst xs)) :
  ∃(its:List Value) (n:Nat),Vals xs its/\s.heap.get? p=some { cls:=.type "list",data:=.seq its.toArray n }/\xs.length<=sizeLine:=by
 obtain⟨z,its,n,r,e⟩:=I.aH p _ h
 exact⟨its,n,r,e,z⟩
theorem Inv.Nq {pins:List (Addr×Obj)} {σ:St} {H:Hp} {s:Shared} {p:Addr} {xs ys:List V} {its its':List Value} {n n':Nat} {f:Obj->Obj} (I:Inv X pins σ H s) (h:H p=some (.lst xs))
  (ho:s.heap.get? p=some { cls:=.type "list",data:=.seq its.toArray n }) (hf:f { cls:=.type "list",data:=.seq its.toArray n }={ cls:=.type "list",data:=.seq its'.toArray n' }) (r:Vals ys its') (hz:ys.length<=sizeLine) (t:Nat) :
  Inv X pins σ (upd H p (.lst ys)) { s with heap:=s.heap.update p f,toks:=t }:=by
 have e:(s.heap.update p f).get? p=some { cls:=.type "list",data:=.seq its'.toArray n' }:=by
  rw[Heap.get?_update_self f ho (by rw[hf]<;>rfl),hf]
 refine I.write (x:=p) (e:=p) (by rw[h];trivial) (.inl rfl) (λb u hb q=>(Heap.get?_update_other _ _ (Ne.symm hb)).trans q) ⟨_,e⟩ ?_
 exact⟨hz,its',n',r,e⟩
noncomputable def OP:V->V->V->Hp->(Hp->Prop)->Prop:=λo i v H Q=>∃p xs k j,o=.ref p/\i=.int k/\H p=some (.lst xs)/\fg xs.length k=some j/\Q (upd H p (.lst (xs.set j v)))
theorem set_list:yg X OP:=by
 intro pins s σ H o i v ov iv u Q I ro ri rv h
 obtain⟨p,xs,k,j,rfl,rfl,hp,hj,q⟩:=h
 cases ro
 obtain⟨t,rfl⟩:=ri
 obtain⟨its,n,r,ho,hz⟩:=I.lst hp
 obtain⟨h1,h2,h3,h4⟩:=Dc hj
 have hl:=r.length
 have hn:=lU
 have I':Inv X pins σ (upd H p (.lst (xs.set j v))) { s with heap:=s.heap.update p (Obj.mapSeq (·.setIfInBounds j u)) } :=
  I.Nq hp ho (Iv its n j u) (r.set rv j) (by rw[List.length_set];exact hz) s.toks
 by_cases h0:0<=k
 ·have hk:k.toNat=j:=by
   rw[seqIndex_of h0 h4] at h1
   exact Option.some.inj h1
  exact PySem.W.ki_setAt ho h0 (by omega) (by rw[List.size_toArray,<- hl];exact h4) (by rw[hk];exact⟨_,I',q⟩)
 ·have hk:(k+(its.toArray.size:Int)).toNat=j:=by
   rw[seqIndex_neg (by omega) h3] at h1
   rw[List.size_toArray,<- hl]
   exact Option.some.inj h1
  exact PySem.W.ki_setBack ho (by omega) (by rw[List.size_toArray,<- hl];exact h3) (by omega) (by rw[hk];exact⟨_,I',q⟩)
theorem Hs (lo hi:Option Int) (n:Nat):(sliceBounds lo hi none n).1=((HT.aP n 0 lo:Nat):Int)/\(sliceBounds lo hi none n).2.1=((HT.aP n n hi:Nat):Int)/\(sliceBounds lo hi none n).2.2=1:=by
 refine⟨?_,?_,rfl⟩
 ·cases lo with
  |none=>simp[sliceBounds,HT.aP]
  |some i =>
   simp only[sliceBounds,HT.aP,Option.getD_none,show (1:Int) > 0 by decide,if_true]
   by_cases h:i<0
   ·simp only[h,if_true]<;>omega
   ·simp only[h,if_false]<;>omega
 ·cases hi with
  |none=>simp[sliceBounds,HT.aP]
  |some i =>
   simp only[sliceBounds,HT.aP,Option.getD_none,show (1:Int) > 0 by decide,if_true]
   by_cases h:i<0
   ·simp only[h,if_true]<;>omega
   ·simp only[h,if_false]<;>omega
theorem Hh (its:List Value) (lo hi:Option Int):slicePick its.toArray lo hi none=((its.drop (HT.aP its.length 0 lo)).take (HT.aP its.length its.length hi-HT.aP its.length 0 lo)).toArray:=by
 obtain⟨h1,h2,h3⟩:=Hs lo hi its.toArray.size
 unfold slicePick
 rw[h1,h2,h3]
 simp only[sliceRange_one,pick_run,List.size_toArray]<;>rfl
noncomputable def Qb (K:Frag):V->Option Int->Option Int->Hp->VK->Prop:=λx lo hi H Q=>∃a xs,x=.ref a/\bG K H a xs/\∀p,H p=none->Q (.ref p) (upd H p (.lst (iX xs lo hi)))
theorem LQ:qY X (Qb X.K):=by
 intro pins s σ H x v vl vu lo hi sl Q I rx hs pl pu h
 obtain⟨a,xs,rfl,hx,q⟩:=h
 cases rx
 obtain⟨its,r,ht,hz⟩:=I.list hx
 have hlen:=r.length
 refine⟨"list",_,slot_list_getitem.lookup,ht.isList.typeIs,?_⟩
 refine wpAny_getItem_list_slice ht.isList hs pl pu .none (by simp) ?_ (by rw[List.size_toArray]<;>omega)
 rw[Hh,<- hlen]
 refine⟨.ref s.heap.objs.size,_,I.laid (t':=s.toks) (o:=.lst (iX xs lo hi)) (λb ob q=>Heap.get?_push_of_some _ q) (Nat.le_refl _) ?_,rfl,q _ (I.aH.fresh (Nat.le_refl _))⟩
 exact⟨Nat.le_trans (A6 xs lo hi) hz,_,0,(r.drop (HT.aP xs.length 0 lo)).take (HT.aP xs.length xs.length hi-HT.aP xs.length 0 lo),Heap.get?_push_size _ rfl⟩
theorem vz:bV X (.builtin "len") (λxs H Q=>∃p ys,xs=[.ref p]/\(bG X.K H p ys\/aR X.K H p ys)/\Q (.int ys.length) H):=by
 intro pins s σ H xs us Q I r h
 obtain⟨p,ys,rfl,hq,q⟩:=h
 obtain⟨u,rfl,rx⟩:=vals1 r
 cases rx
 have hn:=lU
 rcases hq with hq|hq
 ·obtain⟨its,r',pl,hz⟩:=I.list hq
  have hlen:=r'.length
  exact Calls.call_len_list pl.isList (by simp only[List.size_toArray]<;>omega) ⟨.int ys.length,H,I.tok _,⟨s.toks+1,by rw[List.size_toArray,hlen]⟩,q⟩
 ·obtain⟨its,r',pl,hz⟩:=I.tuple hq
  have hlen:=r'.length
  exact len_tuple pl (by simp only[List.size_toArray]<;>omega) ⟨.int ys.length,H,I.tok _,⟨s.toks+1,by rw[List.size_toArray,hlen]⟩,q⟩
theorem Ht:bV X (.builtin "len") (λxs H Q=>∃z,xs=[.str z]/\z.length<=sizeLine/\Q (.int z.length) H):=by
 intro pins s σ H xs us Q I r h
 obtain⟨z,rfl,hz,q⟩:=h
 obtain⟨u,rfl,t,rfl⟩:=vals1 r
 have hn:=lU
 exact len_str (by omega) ⟨.int z.length,H,I.tok _,⟨_,rfl⟩,q⟩
theorem AM:bV X (.type "tuple") (λxs H Q=>∃p ys,xs=[.ref p]/\((bG X.K H p ys/\∀l,H l=none->Q (.ref l) (upd H l (.tup ys)))\/(aR X.K H p ys/\Q (.ref p) H))):=by
 intro pins s σ H xs us Q I r h
 obtain⟨p,ys,rfl,h⟩:=h
 obtain⟨u,rfl,rx⟩:=vals1 r
 cases rx
 rcases h with ⟨hq,q⟩ | ⟨hq,q⟩
 ·obtain⟨its,r',pl,hz⟩:=I.list hq
  have hlen:=r'.length
  refine call_tuple_list pl.isList (λh' kp=>?_) (by simp only[List.size_toArray]<;>omega)
  have I1:Inv X pins σ H { s with heap:=h' }:=I.kept (t':=s.toks) kp
  have I2:Inv X pins σ (upd H h'.objs.size (.tup ys)) { s with heap:=h'.push { cls:=.type "tuple",data:=.seq its.toArray } } :=
   I1.laid (t':=s.toks) (λb o e=>Heap.get?_push_of_some _ e) (Nat.le_refl _) (show cQ X.prog X.w _ _ _ (.tup ys) from ⟨hz,its,r',IsTup.new _ _⟩)
  exact⟨.ref h'.objs.size,_,I2,rfl,q _ (I1.aH.fresh (Nat.le_refl _))⟩
 ·obtain⟨its,r',pl,hz⟩:=I.tuple hq
  exact call_tuple_same pl ⟨.ref p,H,I,rfl,q⟩
def Gg (K:Frag) (T:String) (x:V) (H:Hp):Prop:=match x with
 | .str _=>T="str"
 | .int _=>T="int"
 | .ref p=>(T="list"/\∃xs,bG K H p xs)\/(T="tuple"/\∃o,K.lookup p=some o/\o.cls=.type "tuple"/\o.dict=none) \/
   (T="dict"/\((∃ak,H p=some (.dK ak))\/∃ak,H p=some (.dT ak)))\/(T="set"/\∃S n,H p=some (.set S n))
 |_=>False
theorem Nr {pins:List (Addr×Obj)} {σ:St} {H:Hp} {s:Shared} {T:String} {x:V} {v:Value} (I:Inv X pins σ H s) (r:RelV x v) (ty:Gg X.K T x H) :
  s.TypeIs v T/\∀a,v=.ref a->∃ob,s.heap.get? a=some ob/\ob.dict=none:=by
 cases x with
 |str z =>
  obtain⟨t,rfl⟩:=r
  cases (show T="str" from ty)
  exact⟨typeIs_str s z t,λ_ e=>nomatch e⟩
 |int i =>
  obtain⟨t,rfl⟩:=r
  cases (show T="int" from ty)
  exact⟨typeIs_int s i t,λ_ e=>nomatch e⟩
 |ref p =>
  cases r
  rcases ty with ⟨rfl,xs,hq⟩ | ⟨rfl,o,hk,hc,hd⟩ | ⟨rfl,hk⟩ | ⟨rfl,S,n,hk⟩
  ·obtain⟨its,_,pl,_⟩:=I.list hq
   refine⟨pl.isList.typeIs,λa e=>?_⟩
   cases e
   obtain⟨o,n,e,c,hd,_⟩:=pl
   exact⟨o,e,hd⟩
  ·refine⟨⟨o,I.oS p o hk,hc⟩,λa e=>?_⟩
   cases e
   exact⟨o,I.oS _ o hk,hd⟩
  ·have z:∃o,s.heap.get? p=some o/\o.ExactDict:=by
    rcases hk with ⟨ak,hk⟩ | ⟨ak,hk⟩
    ·obtain⟨_,_,_,_,o,_,_,e,ex,_⟩:=I.aH p _ hk
     exact⟨o,e,ex⟩
    ·obtain⟨_,_,_,_,o,_,_,e,ex,_⟩:=I.aH p _ hk
     exact⟨o,e,ex⟩
   obtain⟨o,e,ex⟩:=z
   refine⟨⟨o,e,ex.1⟩,λa e2=>?_⟩
   cases e2
   exact⟨o,e,ex.2.1⟩
  ·obtain⟨o,_,_,_,e,ex,_⟩:=I.aH p _ hk
   refine⟨⟨o,e,ex.1⟩,λa e2=>?_⟩
   cases e2
   exact⟨o,e,ex.2.1⟩
 |_=>exact False.elim ty
noncomputable def QT (K:Frag) (T:String) (r:V->List V->Hp->VK->Prop) (to:TE) (t:TA):TE:=fun σ H Q=>to σ H λx H1=>Gg K T x H1/\t σ H1 λxs H2=>r x xs H2 Q
variable {o e:Expr} {es:List Expr} {to:TE} {t:TA} {name:Str} {apos cY:Pos} {T id:String} {r:V->List V->Hp->VK->Prop}
theorem OQ (pa:PlainAttrs T) (slot:Slot T name id) (QU:typeOf (.builtin id)=pure (.type "method_descriptor")) (hm:QS X id r) (ho:PE X o to) (ha:PA X (e::es) t)
  (xK:attributeBase o name X.env (eval o X.env)=eval o X.env:=by rfl)
  (yn:((backTo cY (starEach (e::es) X.env)).all (λx=>!x.1)&&(backToKw cY (keywordEach [] X.env)).all (λx=>x.1.isSome)
   && decide ((e::es).length+([]:List Keyword).length+(if ([]:List Keyword).isEmpty then 0 else 1)<30))=true:=by rfl)
  (xM:(apos.endLine==cY.line)=true:=by rfl) (hs:starEach (e::es) X.env=(false,eval e X.env)::starEach es X.env:=by rfl) (xi:(backTo cY (starEach es X.env)).any (·.1)=false:=by rfl) :
  PE X (.Call (.Attribute o name apos) (e::es) [] cY) (QT X.K T r to t):=by
 intro pins s σ H Q I h
 refine wpAny_Call_method_late xK yn xM rfl (aJ (ho pins s σ H _ I h) λv s1 ⟨x,H1,I1,r1,ty,q1⟩=>?_)
 obtain⟨h1,h2⟩:=Nr I1 r1 ty
 refine⟨T,id,pa,slot,QU,h1,h2,?_⟩
 have hA:=ha cY pins s1 σ H1 _ I1 q1
 rw[hs] at hA |-
 refine Calls.callWith_builtin (by show (false||(backTo cY (starEach es X.env)).any (·.1))=false;rw[xi]<;>rfl) (Calls.evalArgs_plain ?_)
 exact aJ hA λus s2 ⟨vs,H2,I2,r2,q2⟩=>hm pins s2 σ H2 x vs v us Q I2 r1 r2 q2
end
end L2
namespace L2
open PySem PySem.Spec PyProof.Rows
def QV (X:Cx) (id:String) (r:V->List V->Hp->VK->Prop):Prop :=
 ∀(pins:List (Addr×Obj)) (s:Shared) (σ:St) (H:Hp) (x:V) (xs:List V) (v:Value) (us:List Value) (Q:VK),Inv X pins σ H s->RelV x v->Vals xs us->r x xs H Q ->
  wpAny (model X.prog X.w) X.A (call (.builtin id) (v::us)) (EP X pins σ Q) X.xe s
theorem Vals.one:∀{x:V} {us:List Value},Vals [x] us->∃u,us=[u]/\RelV x u
 |_,_,.cons r .nil=>⟨_,rfl,r⟩
theorem Vals.rep {xs:List V} {us:List Value} (h:Vals xs us):∀k:Nat,Vals (List.replicate k xs).flatten (List.replicate k us).flatten
 |0=>.nil
 |k+1=>by
  rw[List.replicate_succ,List.replicate_succ,List.flatten_cons,List.flatten_cons]
  exact Vals.append h (Vals.rep h k)
theorem foldl_rep (its:List Value):∀(k:Nat) (acc:List Value),
  List.foldl (λx1 x2=>x1++x2) acc.toArray (List.replicate k its.toArray)=(acc++(List.replicate k its).flatten).toArray
 |0,acc=>by simp
 |k+1,acc=>by
  have e:acc.toArray++its.toArray=(acc++its).toArray:=by simp
  have e2:(acc++its)++(List.replicate k its).flatten=acc++(List.replicate (k+1) its).flatten:=by
   rw[List.replicate_succ,List.flatten_cons,List.append_assoc]
  rw[<- e2,<- foldl_rep its k (acc++its),<- e,List.replicate_succ,List.foldl_cons]
section
variable {X:Cx} {pins:List (Addr×Obj)} {σ:St} {H:Hp} {s:Shared} {l b:Addr} {xs ys zs:List V}
theorem Inv.Qc {its its':List Value} {n:Nat} {f:Array Value->Array Value} {t':Nat} (I:Inv X pins σ H s) (hH:H l=some (.lst xs))
  (e:s.heap.get? l=some { cls:=.type "list",data:=.seq its.toArray n }) (hf:f its.toArray=its'.toArray) (hv:Vals ys its') (hz:ys.length<=sizeLine) :
  Inv X pins σ (upd H l (.lst ys)) { s with heap:=s.heap.update l (Obj.mapSeq f),toks:=t' }:=by
 have q:=PySem.IsL.update e f
 rw[hf] at q
 refine I.write (x:=l) (e:=l) (by rw[hH];exact trivial) (.inl rfl) (λb' u hb hu=>(Heap.get?_update_other s.heap (Obj.mapSeq f) (Ne.symm hb)).trans hu) ⟨_,q⟩ ?_
 exact⟨hz,its',_,hv,q⟩
theorem Inv.FH {its:List Value} {t':Nat} (I:Inv X pins σ H s) (hv:Vals ys its) (hz:ys.length<=sizeLine) :
  Inv X pins σ (upd H s.heap.objs.size (.lst ys)) { s with heap:=s.heap.push { cls:=.type "list",data:=.seq its.toArray },toks:=t' } :=
 I.laid (λ_ _ q=>Heap.get?_push_of_some _ q) (Nat.le_refl _) ⟨hz,its,0,hv,Heap.get?_push_size _ rfl⟩
theorem Inv.fresh (I:Inv X pins σ H s):H s.heap.objs.size=none:=I.aH.fresh (Nat.le_refl _)
theorem Inv.uE (I:Inv X pins σ H s) (hH:H l=some (.lst xs)):xs.length<=sizeLine/\∃(its:List Value) (n:Nat),Vals xs its/\xs.length=its.length/\s.heap.get? l=some { cls:=.type "list",data:=.seq its.toArray n }:=by
 obtain⟨z,its,n,r,e⟩:=I.aH l _ hH
 exact⟨z,its,n,r,r.length,e⟩
theorem Kl {n:Nat} (h:n<=sizeLine):Builtin.List.listTooLong n=false:=by
 unfold Builtin.List.listTooLong
 exact decide_eq_false (by omega)
end
section
variable {X:Cx}
noncomputable def LR:V->List V->Hp->VK->Prop:=λx vs H Q=>∃l xs y,x=.ref l/\vs=[y]/\H l=some (.lst xs)/\xs.length<sizeLine/\Q .aA (upd H l (.lst (xs++[y])))
theorem Jm:QV X "list.append" LR:=by
 intro pins s σ H x vs v us Q I rx rv h
 obtain⟨l,xs,y,rfl,rfl,hH,hz,q⟩:=h
 cases rx
 obtain⟨u,rfl,ru⟩:=rv.one
 obtain⟨z,its,n,r,hl,e⟩:=I.uE hH
 refine call_meets F.slot_list_append ⟨_,e,rfl⟩ F.entry_list_append (F.args_list_append_2 _ _) (PySem.list_append l its.toArray n u (by rw[List.size_toArray];omega)) ⟨e,?_⟩
 refine⟨.aA,_,I.Qc (its':=its++[u]) hH e (by simp) (r.append (.cons ru .nil)) ?_,rfl,q⟩
 rw[List.length_append,List.length_singleton]
 omega
noncomputable def Qd:R2:=λx y H Q=>∃l b xs zs,x=.ref l/\y=.ref b/\H l=some (.lst xs)/\H b=some (.lst zs)/\xs.length+zs.length<=sizeLine/\∀p,H p=none->Q (.ref p) (upd H p (.lst (xs++zs)))
theorem Nt:bh X (binaryOp .Add) Qd:=by
 intro pins s σ H x y v u Q I rx ry h
 obtain⟨l,b,xs,zs,rfl,rfl,hH,hB,hz,q⟩:=h
 cases rx
 cases ry
 obtain⟨z,its,n,r,hl,e⟩:=I.uE hH
 obtain⟨z2,mG,n2,r2,yY,e2⟩:=I.uE hB
 refine PySem.P.add_list e e2 ?_ (by rw[List.size_toArray,List.size_toArray];omega)
 have ea:its.toArray++mG.toArray=(its++mG).toArray:=by simp
 rw[ea]
 exact⟨.ref _,_,I.FH (t':=s.toks) (r.append r2) (by rw[List.length_append];omega),rfl,q _ I.fresh⟩
noncomputable def Qe:R2:=λx y H Q=>∃l k xs,x=.ref l/\y=.int k/\H l=some (.lst xs)/\-(2 ^ 63)<=k/\k<2 ^ 63/\xs.length*k.toNat<=sizeLine /\
 ∀p,H p=none->Q (.ref p) (upd H p (.lst (List.replicate k.toNat xs).flatten))
theorem len_rep {α:Type} (xs:List α) (k:Nat):(List.replicate k xs).flatten.length=k*xs.length:=by
 induction k with
 |zero=>simp
 |succ k ih=>rw[List.replicate_succ,List.flatten_cons,List.length_append,ih,Nat.succ_mul,Nat.add_comm]
theorem Nu:bh X (binaryOp .Mult) Qe:=by
 intro pins s σ H x y v u Q I rx ry h
 obtain⟨l,k,xs,rfl,rfl,hH,h1,h2,hz,q⟩:=h
 cases rx
 obtain⟨t,rfl⟩:=ry
 obtain⟨z,its,n,r,hl,e⟩:=I.uE hH
 have hlen:its.toArray.size*k.toNat<=sizeLine:=by rw[List.size_toArray,<- hl];exact hz
 have Qf:¬ its.toArray.size*k.toNat > (2 ^ 63-1) / 8:=by
  have:(sizeLine:Nat)<=(2 ^ 63-1) / 8:=by decide
  omega
 have Qg:¬ (!Builtin.List.listFitsIndex k)=true:=by
  rw[fitsIndex_both h1 h2]
  exact Bool.false_ne_true
 have OR:¬ Builtin.List.listTooLong (its.toArray.size*k.toNat)=true:=by
  rw[Kl hlen]
  exact Bool.false_ne_true
 have Qh:List.foldl (λx1 x2=>x1++x2) #[] (List.replicate (if its.toArray.isEmpty=true then 0 else k.toNat) its.toArray)=(List.replicate k.toNat its).flatten.toArray:=by
  have f0:∀m:Nat,List.foldl (λx1 x2=>x1++x2) #[] (List.replicate m its.toArray)=(List.replicate m its).flatten.toArray:=λm=>by
   have:=foldl_rep its m []
   rw[List.nil_append] at this
   exact this
  rw[f0]
  cases its with
  |nil=>simp
  |cons a r'=>rw[if_neg (by simp)]
 refine wpAny_binaryOp_repeat_ref (T:="list") (U:="int") (by decide) ⟨_,e,rfl⟩ (λs'=>typeIs_int s' k t) noFill_list_mul F.fills_int_mul F.slot_int_rmul repeat_list F.slot_int_index.lookup
  (call_meets F.slot_int_rmul (typeIs_int s k t) F.entry_int_rmul (F.args_int_rmul_2 _ _) (int___rmul___int_list k t l its.toArray n)
   ⟨e,rfl,⟨_,e,rfl⟩,call_meets F.slot_list_mul ⟨_,e,rfl⟩ F.entry_list_mul (F.args_list_mul_2 _ _) (AutoListH.list___mul___list_int_3 l its.toArray n k t Qg Qf OR) ⟨e,?_⟩⟩)
 rw[Qh]
 exact⟨.ref _,_,I.FH (t':=s.toks) (r.rep k.toNat) (by rw[len_rep,Nat.mul_comm];exact hz),rfl,q _ I.fresh⟩
end
section
variable {prog:Program} {w:World} {A:Around} {E:Value->Shared->Prop} {s:Shared}
set_option maxRecDepth 100000 in
end
section
variable {X:Cx}
end
end L2
namespace Gh
open PySem PySem.W PySem.Calls PyProof.Rows
theorem G5 {P:Params} {h:Heap}:∀(ns:List Int) (vs:List Value),WellAll P h vs (ns.map WData.int)->IntsAre vs ns:=by
 intro ns
 induction ns with
 |nil =>
  intro vs w
  rw[List.map_nil] at w
  cases w
  exact .nil
 |cons n ns ih =>
  intro vs w
  rw[List.map_cons] at w
  cases w with
  |cons a b =>
   cases a
   exact .cons _ _ (ih _ b)
theorem Jn {l:OpenLaw} {n:Nat} (hn:l.most=some n) {P:Params} {h:Heap} {args:List WData} {vals:List Value}
  (uF:l.row.toRowW.claim.pre args=true) (yZ:WellAll P h vals args) :
  ∃a vs ns,vals=[Value.ref a]/\args=[WData.list (ns.map WData.int)]/\h.get? a=some { cls:=.type "list",data:=.seq vs.toArray }/\IntsAre vs ns/\ns.length<=n:=by
 have QW:WShape.hasAll [] args [.list .int]=true:=(pre_splitW uF).1
 have hc:l.pre.holds [] { args:=args }=true:=(pre_splitW uF).2
 obtain⟨d,r,rfl,h1,h2⟩:=hasAllW_cons QW
 obtain rfl:=hasAllW_nil h2
 obtain⟨xs,rfl,h3⟩:=hasW_list h1
 obtain⟨ns,rfl⟩:=items_int h3
 have hlen:ns.length<=n:=by
  unfold OpenLaw.pre at hc
  have h4:(WTm.not (.lt (.lit (.int (n:Int))) (.len (.arg 0)))).holds [] { args:=[.list (ns.map .int)] }=true:=by
   have h4:=(holds_andW hc).1
   rw[hn] at h4
   exact h4
  have h5:=condW_of h4 (w_not (w_lt w_lit (w_len_list (w_arg rfl))))
  rw[List.length_map] at h5
  refine Nat.le_of_not_lt λq=>?_
  have q':(n:Int)<((ns.length:Nat):Int):=by omega
  first
   |(rw[decide_eq_true q'] at h5;exact absurd h5 (by decide))
   |(simp at h5;omega)
 cases yZ with
 |cons w1 w2 =>
  cases w2
  cases w1 with
  |list ho cZ=>exact⟨_,_,ns,rfl,rfl,ho,G5 ns _ cZ,hlen⟩
theorem Jo (l:OpenLaw) (args:List WData):l.row.toRowW.claim.post args (.bool true) args=true :=
 postW_of (r:=l.row.toRowW) (X:=(true==true))
  (show WShape.has [] (.bool true) .bool=true by first|rfl|decide|simp[WShape.has,WShape.arms,WShape.armsAll])
  (show (WTm.eq .res (.lit (.bool true))).value [] { args:=args,res:=some (.bool true),after:=args }=some (.bool (true==true)) from w_eq_bool (w_res rfl) w_lit) rfl
theorem HQ {l:OpenLaw} {n:Nat} {q:Program} {loose:List Str} {XP:(Str->Option Value)->Heap->Prop} {YP:World->Heap->Prop} {d:DefRec}
  (hn:l.most=some n) (q0:d.params.defaults=[])
  (call:∀(w:World) (cM bu:Shared) (mg mb:Str->Option Value) (fa:Addr) (o:Obj) (pm cd doc:Value) (a:Addr) (vs:List Value) (ns:List Int),
   Ground q loose [] XP w cM mg mb bu.heap->YP w bu.heap ->
   bu.heap.get? fa=some o->o.data=.func (docDef d.name d.params d.body d.scope pm cd doc)->bu.heap.CodeRec cd d.name->mg d.name=some (.ref fa) ->
   bu.heap.get? a=some { cls:=.type "list",data:=.seq vs.toArray }->IntsAre vs ns->ns.length<=n->bu.gens=#[] ->
   codeAny (model l.prog w) callerA (.call (.ref fa) ⟨[.ref a],[]⟩) (λr s'=>r=.ok (.ret (.bool true))/\OldK bu.heap s'.heap/\s'.os=bu.os/\AllBare s'.gens) bu) :
  WalkO q loose XP YP l.row.toRowW d [] (λf vs=>PySem.call f vs):=by
 intro w cM bu mg mb G Y fa o pm cd doc dV kV ho hd i7 hD ra hg args vals as uF S8 Ti yZ Gi
 obtain rfl:dV=.none:=Dflts.none hD q0
 obtain rfl:kV=.none:=Dflts.noKw hD
 obtain⟨a,vs,ns,rfl,rfl,yo,hints,hlen⟩:=Jn hn uF yZ
 refine enter_call (codeAny_mono (call w cM bu mg mb fa o pm cd doc a vs ns G Y ho (fd_plain hd) i7 ra yo hints hlen hg) λr s' hq=>?_)
 obtain⟨rfl,h2,h3,h4⟩:=hq
 exact⟨.inl ⟨.bool true,.bool true,[],rfl,λ_=>rfl,.bool true,Jo l _,λ_=>⟨List.Pairwise.nil,λ_ hm=>(nomatch hm)⟩⟩,h2,h3,h4⟩
section
variable {prog:Program} {w:World} {A:Around} {E:Value->Shared->Prop} {s:Shared} {K:Frag}
noncomputable def ledger (h:Heap) (L d:Addr):List (Addr×Obj):=(List.range h.objs.size).filterMap λa=>if a=L\/a=d then none else (h.get? a).map λo=>(a,o)
end
end Gh
namespace L2
open PySem PySem.Spec PyProof.Rows
theorem BK:∀{vs:List Value} {ns:List Int},IntsAre vs ns->Vals (ns.map V.int) vs
 |_,_,.nil=>.nil
 |_,_,.cons n t h=>.cons ⟨t,rfl⟩ (BK h)
def yp (H:Hp):Prop:=∀b,H b=none\/∃o xs,H b=some (.cF o (.lst xs))
theorem Km {P:Program} {w:World} {K:Frag} {mg mb:Str->Option Value} {CX:iI} {k:Nat} {fa a:Addr} {fd:FuncData} {x:Str} {sp:Sp} {bu:Shared} {vs:List Value} {ns:List Int}
  (KX:K.In bu.heap) (oT:bu.heap.Ns mainGlobals mg) (hb:bu.heap.Ns builtinsNs mb) (QX:∀x:Str,x≠"__name__"->mb x=bootBuiltins x) (Qi:bu.heap.NoLimit) (hg:bu.gens=#[])
  (ha:bu.heap.get? a=some { cls:=.type "list",data:=.seq vs.toArray }) (hi:IntsAre vs ns) (hl:ns.length<=sizeLine) (hr:cq k callerA)
  (F:∀base:Heap,K.In base->base.Ns mainGlobals mg->aU P w K mg base CX k fa fd [x] sp) (OS:∀(s:Shared) (u:Value),BindsTo s fd ⟨[u],[]⟩ [(x,u)])
  (lh:∀H:Hp,yp H->bG K H a (ns.map V.int)->sp [.ref a] H (λv _=>v=.bl true) λ_ _ _=>False)
  (y0:∀H e s',CX [] H bu (λ_ _ _=>False) e s'->False) :
  codeAny (model P w) callerA (.call (.ref fa) ⟨[.ref a],[]⟩) (λr s'=>r=.ok (.ret (.bool true))/\OldK bu.heap s'.heap/\s'.os=bu.os/\AllBare s'.gens) bu:=by
 have rv:=BK hi
 have Qj:=hi.length
 have core:∀H:Hp,yp H->bG K H a (ns.map V.int)->bX P w H bu.heap->(∀b,H b≠none->b=a)->(H a≠none->K.lookup a=none) ->
   codeAny (model P w) callerA (.call (.ref fa) ⟨[.ref a],[]⟩) (λr s'=>r=.ok (.ret (.bool true))/\OldK bu.heap s'.heap/\s'.os=bu.os/\AllBare s'.gens) bu:=by
  intro H hO hS aH hA hK
  have Dg:∀{b:Addr} {o:Obj},bu.heap.get? b=some o->H b=none->(kg bu.heap H).get? b=some o:=λe n=>Ke e n
  have qW:∀{b:Addr} {o:Obj} {es:Array DictEntry} {ep:Nat},bu.heap.get? b=some o->o.data=.dict es ep->H b=none:=λ{b o es ep} e d=>by
   cases q:H b with
   |none=>rfl
   |some u =>
    have e':b=a:=hA b (by rw[q];simp)
    subst e'
    rw[ha] at e;cases e
    have d':Data.seq vs.toArray _=Data.dict es ep:=d
    cases d'
  have uZ:∀{b:Addr} {m:Str->Option Value},bu.heap.Ns b m->(kg bu.heap H).Ns b m:=λ{b m} ⟨o,es,ep,e,d,r⟩=>⟨o,es,ep,Dg e (qW e d),d,r⟩
  have Gj:K.In (kg bu.heap H):=λb o e=>Dg (KX b o e) (by
   cases q:H b with
   |none=>rfl
   |some u =>
    have e':b=a:=hA b (by rw[q];simp)
    subst e'
    rw[hK (by rw[q];simp)] at e;cases e)
  have hM:Mod K mg (kg bu.heap H):=⟨Gj,uZ oT,⟨mb,uZ hb,QX⟩,let ⟨mc,h1,h2⟩:=Qi;⟨mc,uZ h1,h2⟩⟩
  have e0:uD P w K mg (kg bu.heap H) callerA [] bu H:=⟨rfl,hM,λb o e=>Lx e,Nat.le_of_eq (Je _ _),trivial,λb hb=>absurd (show b∈([]:List Addr) from hb) (by simp),aH,.of_eq hg⟩
  refine codeAny_mono ((F _ Gj (uZ oT)).run callerA [] bu H ⟨[.ref a],[]⟩ [.ref a] [.ref a] _ _ hr e0 (OS bu (.ref a)) (.cons rfl .nil) (lh H hO hS)) λr s' h=>?_
  cases r with
  |error e=>exact(y0 H e s' h).elim
  |ok fl =>
   cases fl with
   |next=>exact False.elim h
   |brk=>exact False.elim h
   |cont=>exact False.elim h
   |ret u =>
    obtain⟨v,H',os,bare,un,Qk,r',q⟩:=h
    have q':v=.bl true:=q
    subst q'
    obtain rfl:u=Value.bool true:=r'
    refine⟨rfl,OldK.of_keep λb o e=>?_,os,bare⟩
    cases q:H b with
    |none=>exact un.keep b o e q (by intro z;exact absurd (show b∈([]:List Addr) from z) (by simp)) (by simp)
    |some u =>
     rcases hO b with z | ⟨ob,xs,z⟩
     ·rw[q] at z;cases z
     ·have z2:=un.gY b ob _ z
      obtain⟨e1,_⟩:=aH b _ z
      obtain⟨e2,_⟩:=Qk b _ z2
      rw[e] at e1;cases e1
      exact e2
 cases hk:K.lookup a with
 |some o =>
  have e:=KX a o hk
  rw[ha] at e
  cases e
  refine core (λ_=>none) (λ_=>.inl rfl) (.inr ⟨_,vs.toArray,_,hk,rfl,rfl,rfl,by rw[List.size_toArray,Qj];exact hl,by simpa using rv⟩) (λb u z=>by have z':(none:Option HO)=some u:=z;cases z') (λb z=>absurd rfl z) λz=>absurd rfl z
 |none =>
  refine core (λb=>if b=a then some (.cF { cls:=.type "list",data:=.seq vs.toArray } (.lst (ns.map V.int))) else none) (λb=>?_) (.inl (.inr ⟨{ cls:=.type "list",data:=.seq vs.toArray },if_pos rfl⟩)) (λb u z=>?_) (λb z=>?_) λ_=>hk
  ·by_cases hb:b=a
   ·exact .inr ⟨_,_,if_pos hb⟩
   ·exact .inl (if_neg hb)
  ·by_cases hb:b=a
   ·have z':=(if_pos hb).symm.trans z
    cases z'
    subst hb
    exact⟨ha,by rw[List.length_map];exact hl,vs,_,rv,ha⟩
   ·have z':=(if_neg hb).symm.trans z
    cases z'
  ·by_cases hb:b=a
   ·exact hb
   ·exact absurd (if_neg hb) z
end L2
namespace L2
open PySem PySem.Spec PyProof.Rows
noncomputable abbrev Tj {K:Frag} {h:Heap} (_:K.In h):Frag:=K
theorem LS {l:PySem.W.OpenLaw} {n k:Nat} {q:Program} {loose:List Str} {XP:(Str->Option Value)->Heap->Prop} {YP:World->Heap->Prop} {d:DefRec} {K:Params->Frag} {CX:World->iI} {sp:World->Sp} {x:Str}
  (hn:l.most=some n) (QY:n<=sizeLine) (q0:d.params.defaults=[]) (hr:cq k callerA)
  (hY:∀(w:World) (h:Heap),YP w h->(K w.params).In h)
  (F:∀(w:World) (mg:Str->Option Value) (fa:Addr) (h:Heap),(K w.params).In h->h.Ns mainGlobals mg->mg d.name=some (.ref fa) ->
   ∃fd:FuncData,(∀(s:Shared) (u:Value),BindsTo s fd ⟨[u],[]⟩ [(x,u)]) /\
    ∀base:Heap,(K w.params).In base->base.Ns mainGlobals mg->aU l.prog w (K w.params) mg base (CX w) k fa fd [x] (sp w))
  (lh:∀(w:World) (H:Hp) (a:Addr) (ns:List Int),ns.length<=n->yp H->bG (K w.params) H a (ns.map V.int)->sp w [.ref a] H (λv _=>v=.bl true) λ_ _ _=>False)
  (y0:∀(w:World) (H:Hp) (s:Shared) (e:Value) (s':Shared),CX w [] H s (λ_ _ _=>False) e s'->False) :
  PySem.W.WalkO q loose XP YP l.row.toRowW d [] (λf vs=>PySem.call f vs):=by
 refine Gh.HQ hn q0 λw cM bu mg mb fa o pm cd doc a vs ns G Y ho hd i7 ra yo hints hlen hg=>?_
 have KX:=hY w _ Y
 obtain⟨fd,hb,hF⟩:=F w mg fa _ KX G.T.g ra
 exact Km KX G.T.g G.T.b G.T.builtins G.T.nolimit hg yo hints (Nat.le_trans hlen QY) hr hF hb (λH hO hS=>lh w H a ns hlen hO hS) λH e s'=>y0 w H bu e s'
end L2
namespace L2
open PySem PySem.Spec PyProof.Rows
noncomputable def lR (s:Stmt):Arguments:=match s with
 | .FunctionDef _ a _ _ _ _ _ _ _ _=>a
 |_=>{ posonlyargs:=[],args:=[],vararg:=none,kwonlyargs:=[],kw_defaults:=[],kwarg:=none,defaults:=[] }
noncomputable def j4 (s:Stmt):List Stmt:=match s with
 | .FunctionDef _ _ b _ _ _ _ _ _ _=>b
 |_=>[]
noncomputable def aY (s:Stmt):Scope:=match s with
 | .FunctionDef _ _ _ _ _ _ sc _ _ _=>sc
 |_=>{ kind:=.function,names:=[],isGenerator:=false,isCoroutine:=false }
noncomputable abbrev aZ:iI:=λ_ _ _ _ _ _=>False
noncomputable abbrev E0:XK:=λ_ _ _=>False
theorem OT {X:Cx}:Passes aZ X E0:=λ_ _ _ _ _ _ _ h=>h.elim
structure mV (K:Frag) (x qual:Str) (st:Stmt) (f:Addr) (fd:FuncData):Prop where
 ex:∃(oc:Value) (od:Option Addr) (kV doc pm:Value) (an:Option Addr) (aX ct:Value) (lg:Array (Option Value)),
  fd=PySem.W.fnOf x qual (lR st) (j4 st) (aY st) .none kV doc pm an aX ct/\K.lookup f=some ⟨oc,od,.func fd,lg⟩/\PySem.W.codeIn K aX qual=true
 kp:PySem.W.keepIn K (.ref f)=true
section
variable {P:Program} {w:World} {K:Frag} {mg:Str->Option Value} {base:Heap}
theorem mV.ok {x qual:Str} {st:Stmt} {f:Addr} {fd:FuncData} {N ps:List Str} {k:Nat} {sp:Sp} (F:mV K x qual st f fd) (S:bB N ps (aY st)) (len:∀vs H Q E,sp vs H Q E->vs.length=ps.length)
  (xJ:∀(aX:Value) (A:Around) (outer:List Env) (s:Shared) (H:Hp) (vs:List V) (Q:VK) (E:XK),cq k (A.deeper (envOfC qual (aY st) s.heap.objs.size f aX))->sp vs H Q E ->
   ∃t,dq (mF aZ P w K mg base N qual (aY st) f aX A outer s H E).qN (j4 st) t/\t { nx:=λ_ H'=>Q .aA H',rt:=Q } (start N vs) H):aU P w K mg base aZ (k+1) f fd ps sp:=by
 obtain⟨oc,od,kV,doc,pm,an,aX,ct,lg,rfl,lk,i7⟩:=F.ex
 refine OK lk i7 S len λA outer s H vs Q E hr lh=>?_
 obtain⟨t,h,q⟩:=xJ aX A outer s H vs Q E hr lh
 exact⟨t,h.qN,q⟩
theorem mV.binds {x qual:Str} {st:Stmt} {f:Addr} {fd:FuncData} {ps:List Str} (F:mV K x qual st f fd)
  (h:∀(kV doc pm:Value) (an:Option Addr) (aX ct:Value) (us:List Value),us.length=ps.length->bindArgs (PySem.W.fnOf x qual (lR st) (j4 st) (aY st) .none kV doc pm an aX ct) ⟨us,[]⟩=pure (ps.zip us)):Binds K fd ps []:=by
 obtain⟨oc,od,kV,doc,pm,an,aX,ct,lg,rfl,lk,i7⟩:=F.ex
 exact .all (h kV doc pm an aX ct)
theorem D7 {x qual:Str} {st:Stmt} {f:Addr} {oc:Value} {od an:Option Addr} {lg:Array (Option Value)} {kV doc pm aX ct:Value} (l:K.lookup f=some ⟨oc,od,.func (PySem.W.fnOf x qual (lR st) (j4 st) (aY st) .none kV doc pm an aX ct),lg⟩)
  (c:PySem.W.codeIn K aX qual=true) (k:PySem.W.keepIn K (.ref f)=true):mV K x qual st f (PySem.W.fnOf x qual (lR st) (j4 st) (aY st) .none kV doc pm an aX ct):=⟨⟨oc,od,kV,doc,pm,an,aX,ct,lg,rfl,l,c⟩,k⟩
end
section
variable {X:Cx}
end
def iY (H H':Hp):Prop:=∀b o,H b=some o->H' b=some o
theorem iY.refl (H:Hp):iY H H:=λ_ _ h=>h
end L2
namespace L2
open PySem PySem.Spec PyProof.Rows
theorem Iw {P:Program} {w:World} {A:Around} {R:Result->Shared->Prop} {s:Shared} {el tg src:Expr} {tests:List Expr} {sc:Scope} {ps:Pos} {gr av:Value} {ce:Env} (J:Nat->Shared->Prop)
  (turn:∀n s,J n s->wpAny (model P w) A (pyNext gr) (λr s1=>match r with
   |none=>R (.ok .next) s1
   |some v=>wpAny (model P w) A (letOwnedTupleGo tg gr v) (λ_ s2=>wpAny (model P w) A (assign tg ce v) (λ_ s3 =>
     wpAny (model P w) A (forIn tests true λc r=>if r=true then do let ok <- isTrue c ce (eval c ce);pure (ForInStep.yield ok) else pure (ForInStep.yield r)) (λok s4 =>
      if ok=true then wpAny (model P w) A (eval el ce) (λy s5=>wpAny (model P w) A (call (.builtin "list.append") [av,y]) (λ_ s6=>∃m,m<n/\J m s6) (λ_ _=>False) s5) (λ_ _=>False) s4
      else ∃m,m<n/\J m s4) (λ_ _=>False) s3) (λ_ _=>False) s2) (λ_ _=>False) s1) (λ_ _=>False) s)
  (n:Nat) (h:J n s):codeAny (model P w) A (.compLoop (.ListComp el [⟨tg,src,tests,0⟩] sc ps) 0 gr av ce) R s:=by
 refine codeAny_loop rfl J (λn s hJ=>?_) n h
 show wpAny _ A ((compTurn (.ListComp el [⟨tg,src,tests,0⟩] sc ps) 0 gr av ce).onRaise (λx=>do noteFrame x ce;theTreesLotGoes x)) _ _ s
 refine wpAny_noted ?_
 rw[compTurn_list]
 refine wpAny_bind (wpAny_standAt (wpAny_bind (wpAny_mono (turn n s hJ) (λr s1 h1=>?_) λ_ _ z=>z.elim)))
 cases r with
 |none=>exact wpAny_pure h1
 |some v =>
  refine wpAny_bind (wpAny_mono h1 (λ_ s2 h2=>?_) λ_ _ z=>z.elim)
  refine wpAny_bind (wpAny_mono h2 (λ_ s3 h3=>wpAny_bind (wpAny_mono h3 (λok s4 h4=>?_) λ_ _ z=>z.elim)) λ_ _ z=>z.elim)
  cases ok with
  |false=>exact wpAny_pure ⟨rfl,h4⟩
  |true =>
   exact wpAny_bind (wpAny_bind (wpAny_mono h4 (λy s5 h5=>wpAny_bind (wpAny_mono h5 (λ_ s6 h6=>wpAny_pure (wpAny_pure ⟨rfl,h6⟩)) λ_ _ z=>z.elim)) λ_ _ z=>z.elim))
theorem vY (env:Env):∀(l:List (Str×NameKind)) (acc:List (Str×Addr)),(∀n,(n,NameKind.free)∈l->∃c,env.cells.lookup n=some c) ->
  ∃cl,(forIn l acc (λ(p:Str×NameKind) (cs:List (Str×Addr))=>(do
   if (p.2==NameKind.free)=true then do let c <- cellOf env p.1;pure (ForInStep.yield ((p.1,c)::cs)) else pure (ForInStep.yield cs):Sem (ForInStep (List (Str×Addr))))))=pure cl /\
   ∀n c,cl.lookup n=some c↔(((n,NameKind.free)∈l/\env.cells.lookup n=some c)\/((n,NameKind.free)∉l/\acc.lookup n=some c))
 | [],acc,_=>⟨acc,rfl,λn c=>by simp⟩
 |(x,k)::r,acc,h=>by
  rw[List.forIn_cons]
  cases hk:(k==NameKind.free) with
  |false =>
   have gv:k≠.free:=by intro e;rw[e] at hk;cases hk
   obtain⟨cl,e,q⟩:=vY env r acc λn hn=>h n (List.mem_cons_of_mem _ hn)
   refine⟨cl,?_,λn c=>?_⟩
   ·simp only[Bool.false_eq_true,if_false]
    exact e
   ·rw[q n c]
    have:(n,NameKind.free)∈(x,k)::r↔(n,NameKind.free)∈r:=by
     constructor
     ·intro hm
      rcases List.mem_cons.mp hm with z|z
      ·injection z with _ z2
       exact absurd z2.symm gv
      ·exact z
     ·exact List.mem_cons_of_mem _
    rw[this]
  |true =>
   have he:k=.free:=by cases k<;>first|rfl|cases hk
   subst he
   obtain⟨c0,za⟩:=h x List.mem_cons_self
   obtain⟨cl,e,q⟩:=vY env r ((x,c0)::acc) λn hn=>h n (List.mem_cons_of_mem _ hn)
   refine⟨cl,?_,λn c=>?_⟩
   ·simp only[if_true,cellOf,za]
    exact e
   ·rw[q n c]
    by_cases hx:n=x
    ·subst hx
     constructor
     ·rintro (⟨_,z⟩ | ⟨_,z⟩)
      ·exact .inl ⟨List.mem_cons_self,z⟩
      ·rw[List.lookup_cons,beq_self_eq_true] at z
       exact .inl ⟨List.mem_cons_self,za.trans z⟩
     ·rintro (⟨_,z⟩ | ⟨z,_⟩)
      ·by_cases hm:(n,NameKind.free)∈r
       ·exact .inl ⟨hm,z⟩
       ·refine .inr ⟨hm,?_⟩
        rw[List.lookup_cons,beq_self_eq_true]
        exact za.symm.trans z
      ·exact absurd List.mem_cons_self z
    ·have:(n,NameKind.free)∈(x,NameKind.free)::r↔(n,NameKind.free)∈r:=by
      constructor
      ·intro hm
       rcases List.mem_cons.mp hm with z|z
       ·injection z with z1 _
        exact absurd z1 hx
       ·exact z
      ·exact List.mem_cons_of_mem _
     rw[this,List.lookup_cons,beq_false_of_ne hx]
theorem D8 {env:Env} {sc:Scope} (h:∀n,(n,NameKind.free)∈sc.names->∃c,env.cells.lookup n=some c) :
  ∃cl,closureFor sc env=pure cl/\∀n c,cl.lookup n=some c↔((n,NameKind.free)∈sc.names/\env.cells.lookup n=some c):=by
 obtain⟨cl,e,q⟩:=vY env sc.names [] h
 refine⟨cl,?_,λn c=>?_⟩
 ·unfold closureFor
  exact(congrArg (λz:Sem (List (Str×Addr))=>z >>= λr=>pure r) e)
 ·rw[q n c]
  simp
theorem Ct (f:Str->NameKind->NameKind) (x:Str):∀l:List (Str×NameKind),(l.map λp=>(p.1,f p.1 p.2)).lookup x=(l.lookup x).map (f x)
 | []=>rfl
 |(n,k)::r=>by
  rw[List.map_cons,List.lookup_cons,List.lookup_cons]
  cases h:x==n with
  |true =>
   have e:x=n:=by simpa using h
   subst e
   rfl
  |false=>exact Ct f x r
theorem r6 (sc:Scope) (env:Env) (x:Str):(relabel sc env).names.lookup x=(sc.names.lookup x).map λk=>if (k==NameKind.free&&env.scope.kind==.function&&env.kindOf x==some .cell)=true then NameKind.cell else k:=by
 rw[<- Ct (λx k=>if (k==NameKind.free&&env.scope.kind==.function&&env.kindOf x==some .cell)=true then NameKind.cell else k)]
 show List.lookup x (sc.names.map _)=_
 congr 1
 apply List.map_congr_left
 rintro ⟨n,k⟩ _
 dsimp only
 split<;>rfl
noncomputable abbrev dh (X:Cx) (N:List Str) (sc:Scope) (cl:List (Str×Addr)) (C:Addr) (s:Shared) (H:Hp) (ex:List Addr) (pn:List (Addr×Obj)):Cx where
 prog:=X.prog
 w:=X.w
 K:=X.K
 mg:=X.mg
 base:=X.base
 A:=X.A
 N:=N
 cM:=s
 qu:=H
 env:=compEnvC sc cl C X.env
 outer:=X.stack
 stack:=X.stack
 ex:=ex
 fn:=λ_=>false
 calm:=X.calm
 pn:=pn
 xe:=λ_ _=>False
structure pT (X:Cx) (sc:Scope) (N:List Str) (nt:Nat) (cap:List Nat):Prop where
 kind:sc.kind=.function
 D9:∀x∈sc.names,x.2≠.cell
 names:∀x∈sc.names,x.2=.local->sc.names.lookup x.1=some .local
 frees:∀x∈sc.names,x.2=.free->sc.names.lookup x.1=some .free/\(X.env.scope.names.lookup x.1=some .cell\/X.env.scope.names.lookup x.1=some .free)
 len:N.length=nt+cap.length
 yq:∀(k:Nat) j,cap[k]?=some j->∃x,X.N[j]?=some x/\N[nt+k]?=some x/\(x,NameKind.free)∈sc.names
noncomputable def jo (nt:Nat) (cap:List Nat) (σ:St):St:=List.replicate nt none++cap.map λj=>(σ[j]?).getD none
def PF (X:Cx) (tests:List Expr) (t:TT):Prop :=
 ∀(pins:List (Addr×Obj)) (s:Shared) (σ:St) (H:Hp) (Q:Bool->Hp->Prop),Inv X pins σ H s->t σ H Q ->
  wpAny (model X.prog X.w) X.A (forIn tests true λc r=>if r=true then do let ok <- isTrue c X.env (eval c X.env);pure (ForInStep.yield ok) else pure (ForInStep.yield r)) (TP X pins σ Q) X.xe s
noncomputable def Ql:TT:=λ_ H Q=>Q true H
theorem Nv {X:Cx}:PF X [] Ql:=λ_ _ _ H _ I h=>wpAny_tests_nil ⟨H,I,h⟩
theorem Nw {X:Cx} {c:Expr} {t:TT} (h:PT X c t):PF X [c] t:=λpins s σ H Q I hw=>wpAny_tests_one (h pins s σ H Q I hw)
def kn (g:TG) (nt:Nat):Prop:=∀(x:V) (o caps:St) (H:Hp) (R:St->Hp->Prop),o.length=nt->g x (o++caps) H R->g x (o++caps) H fun τ H2=>(∃o2:St,o2.length=nt/\τ=o2++caps)/\R τ H2
noncomputable def kR (cap:List Nat) (σ:St):St:=cap.map λj=>(σ[j]?).getD none
def CW (J:It) (nt:Nat) (caps:St) (g:TG) (tf:TT) (te:TE) (H:Hp) (Q:VK):Prop:=∃W:Nat->Nat->List V->Hp->Prop,(∃m,W 0 m [] H) /\
 ∀i m acc H2,W i m acc H2->(J.stop i H2/\acc.length<=sizeLine/\∀D,H2 D=none->Q (.ref D) (upd H2 D (.lst acc))) \/
  (J.go i H2/\acc.length<=sizeLine/\∃N:List V->Hp->Prop,(∀eJ H',N eJ H'->∃m',m' < m/\W (i+1) m' eJ H') /\
   ∀o x H3,o.length=nt->J.qP i H2 x H3->g x (o++caps) H3 fun mW H4=>tf mW H4 λb H5=>if b=true then te mW H5 λv H6=>N (acc++[v]) H6 else N acc H5)
noncomputable def kc (wi:TI) (nt:Nat) (cap:List Nat) (g:TG) (tf:TT) (te:TE):TE:=fun σ H Q=>wi σ H λJ H1=>CW J nt (kR cap σ) g tf te H1 Q
section
variable {fs ex:List Addr} {H H':Hp} {h h1 h2:Heap} {P:Program} {w:World}
theorem Un.adopt {D:Addr} {o:HO} (u:Un fs ex H H' h h1) (hp:h.objs.size<=D) (hn:H' D=none):Un fs ex H (upd H' D o) h h1 where
 keep:=u.keep
 slot:=u.slot
 free:=λb ob q n hx=>by rw[bt (Nat.ne_of_lt (Nat.lt_of_lt_of_le (Heap.lt_size q) hp))];exact u.free b ob q n hx
 there:=u.there
 iC:=λb xs q=>by rw[bt (dD (u.iC b xs q) hn)];exact u.iC b xs q
 gY:=λb ob xs q=>by rw[bt (dD (u.gY b ob xs q) hn)];exact u.gY b ob xs q
 iU:=λb ps q=>by
  obtain⟨more,e⟩:=u.iU b ps q
  exact⟨more,by rw[bt (dD e hn)];exact e⟩
theorem Un.but {C:Addr} (u:Un fs ex H H' h h1) (hp:h.objs.size<=C) (sb:Heap.SameBut C h1 h2):Un fs ex H H' h h2:=by
 have ne:∀b ob,h.get? b=some ob->b≠C:=λb ob q=>Nat.ne_of_lt (Nat.lt_of_lt_of_le (Heap.lt_size q) hp)
 refine⟨λb ob q n hb hx=>(sb.2 b (ne b ob q)).trans (u.keep b ob q n hb hx),λb ob q n hb hx=>?_,u.free,λb ob q hx=>?_,u.iC,u.gY,u.iU⟩
 ·obtain⟨sl,e⟩:=u.slot b ob q n hb hx
  exact⟨sl,(sb.2 b (ne b ob q)).trans e⟩
 ·obtain⟨o',e⟩:=u.there b ob q hx
  exact⟨o',(sb.2 b (ne b ob q)).trans e⟩
theorem bX.but {C:Addr} (x:bX P w H h1) (hn:H C=none) (sb:Heap.SameBut C h1 h2):bX P w H h2:=λa o e =>
 (x a o e).fR (λb u hb q=>(sb.2 b (by
  rintro rfl
  rcases hb with z|z
  ·subst z;rw[hn] at e;cases e
  ·rw[hn] at z;cases z)).trans q) (λ_ q=>q) λ_ _ q=>q
theorem bX.adopt {D:Addr} {o:HO} (x:bX P w H h) (hn:H D=none) (new:cQ P w (upd H D o) h D o):bX P w (upd H D o) h:=λb u e=>by
 by_cases hb:b=D
 ·subst hb;rw[dE] at e;cases e;exact new
 ·rw[bt hb] at e
  exact(x b u e).fR (λc v _ q=>q) (λc q=>by rw[bt (dD q hn)];exact q) λc xs q=>by rw[bt (dD q hn)];exact q
end
section
variable {X:Cx} {sc:Scope} {N:List Str} {nt:Nat} {cap:List Nat} {cl:List (Str×Addr)} {s:Shared} {h1:Heap} {H:Hp} {σ:St} {pins:List (Addr×Obj)} {fp:List Addr} {C:Addr} {t':Nat}
theorem Inv.block (I:Inv X pins σ H s) (S:pT X sc N nt cap) (cU:∀n c,cl.lookup n=some c↔((n,NameKind.free)∈sc.names/\X.env.cells.lookup n=some c)) (hf:∀b∈fp,fC X pins H b) (ig:∀b∈fp,b<s.heap.objs.size)
  (hk:∀b o,s.heap.get? b=some o->h1.get? b=some o) (hC:s.heap.objs.size<=C) (oT:∃m,h1.Ns C m):Inv (dh X N sc cl C s H fp (X.pn++pins)) [] (jo nt cap σ) H { s with heap:=h1,toks:=t' }:=by
 have qd:∀b∈fV X.stack,b∈X.env.locals::X.fs:=I.j5
 have Gk:C∉fV X.stack:=λz=>by
  rcases List.mem_cons.mp (I.j5 C z) with e|e
  ·exact absurd (Nat.lt_of_lt_of_le I.lt hC) (by rw[e];exact Nat.lt_irrefl _)
  ·exact I.qv hC e
 have xN:∀x,(relabel sc X.env).names.lookup x=some .cell\/(relabel sc X.env).names.lookup x=some .free->(x,NameKind.free)∈sc.names:=λx hx=>by
  rw[r6] at hx
  cases e:sc.names.lookup x with
  |none=>rw[e] at hx;rcases hx with z|z<;>cases z
  |some k =>
   have hm:(x,k)∈sc.names:=by
    obtain⟨l1,l2,e1,_⟩:=List.lookup_eq_some_iff.mp e
    rw[e1]
    simp
   rw[e] at hx
   cases k with
   |free=>exact hm
   |cell=>exact absurd rfl (S.D9 _ hm)
   |_=>exfalso;revert hx;simp
 have wH:∀x,(x,NameKind.free)∈sc.names->∃c,X.env.cells.lookup x=some c:=λx hx=>I.ok.has x (S.frees _ hx rfl).2
 have ok:Cx.Ok (dh X N sc cl C s H fp (X.pn++pins)):=by
  refine⟨I.ok.mod,?_,I.ok.glob,I.ok.blt,hC,?_,?_,?_,I.ok.hd,I.ok.frames,.inl rfl,?_,I.bs,Nat.le_trans I.ok.i6 I.sz,?_,?_,I.stack,I.wB⟩
  ·exact S.kind
  ·intro x y c hx hy
   exact I.ok.inj x y c ((cU x c).mp hx).2 ((cU y c).mp hy).2
  ·intro x hx
   have hm:=xN x hx
   obtain⟨c,e⟩:=wH x hm
   exact⟨c,(cU x c).mpr ⟨hm,e⟩⟩
  ·intro x c hx
   cases hx
  ·intro b hb
   refine⟨Nat.ne_of_lt (Nat.lt_of_lt_of_le (ig b hb) hC),λx c e=>?_⟩
   exact(hf b hb).2.2.2.2.1 x c ((cU x c).mp e).2
  ·intro b o e hb
   rcases(hf b hb).2.2.2.1 with z|z
   ·exact I.ok.mC b o e z
   ·exact absurd (Nat.lt_of_lt_of_le (Heap.lt_size e) (Nat.le_trans I.ok.i6 z)) (Nat.lt_irrefl _)
  ·intro b hb z
   rcases List.mem_cons.mp (qd b z) with e|e
   ·exact(hf b hb).2.1 e
   ·exact(hf b hb).2.2.1 e
 obtain⟨m,hm⟩:=oT
 obtain⟨mX,QZ,zb⟩:=I.loc
 refine⟨ok,rfl,I.bare,Un.kept hk,⟨m,hm,λi x v e1 e2 e3=>?_⟩,λx c e=>?_,I.aH.fresh hC,λx c e=>I.dZ x c ((cU x c).mp e).2,λp hp=>?_,I.aH.kept hk,?_⟩
 ·
  have hi:nt<=i:=by
   apply Nat.le_of_not_lt
   intro bg
   have:(jo nt cap σ)[i]?=some none:=by
    unfold jo
    rw[List.getElem?_append_left (by simpa using bg),List.getElem?_replicate,if_pos bg]
   rw[this] at e2
   cases e2
  have jb:(cap.map λj=>(σ[j]?).getD none)[i-nt]?=some (some v):=by
   have e:=e2
   unfold jo at e
   rw[List.getElem?_append_right (by simpa using hi)] at e
   simpa using e
  rw[List.getElem?_map] at jb
  cases ej:cap[i-nt]? with
  |none=>rw[ej] at jb;cases jb
  |some j =>
   rw[ej] at jb
   have ev:(σ[j]?).getD none=some v:=Option.some.inj jb
   have rb:σ[j]?=some (some v):=by
    cases q:σ[j]? with
    |none=>rw[q] at ev;cases ev
    |some z=>rw[q] at ev;exact congrArg some ev
   obtain⟨y,f1,f2,f3⟩:=S.yq _ _ ej
   rw[Nat.add_sub_cancel' hi] at f2
   have zc:y=x:=Option.some.inj (f2.symm.trans e1)
   subst zc
   obtain⟨g1,g2⟩:=S.frees _ f3 rfl
   have zd:qI X.env.scope y:=.inr g2
   obtain⟨u,r,l⟩:=zb j y v f1 rb zd
   refine⟨u,r,.inr ⟨?_,?_⟩⟩
   ·show (relabel sc X.env).names.lookup y=some .cell\/(relabel sc X.env).names.lookup y=some .free
    rw[r6,g1]
    simp only[Option.map_some]
    split
    ·exact .inl rfl
    ·exact .inr rfl
   ·rcases l with ⟨k,_⟩ | ⟨_,c,hc,kQ⟩
    ·exfalso
     have k':X.env.scope.names.lookup y=some .local:=k
     dsimp only at g2
     rw[k'] at g2
     rcases g2 with z|z<;>cases z
    ·obtain⟨oc,ho,hd⟩:=kQ
     exact⟨c,(cU y c).mpr ⟨f3,hc⟩,oc,hk _ _ ho,hd⟩
 ·obtain⟨v,oc,ho,hd⟩:=I.cell x c ((cU x c).mp e).2
  exact⟨v,oc,hk _ _ ho,hd⟩
 ·have ze:p∈X.pn++pins:=by simpa using hp
  obtain⟨e,n,ne,nf,d⟩:=I.pin p ze
  refine⟨hk _ _ e,n,Nat.ne_of_lt (Nat.lt_of_lt_of_le (Heap.lt_size e) hC),λz=>?_,d⟩
  rcases List.mem_cons.mp (qd p.1 z) with q|q
  ·exact ne q
  ·exact nf q
 ·unfold jo
  rw[List.length_append,List.length_replicate,List.length_map]
  exact S.len.symm
end
section
variable {X:Cx}
end
end L2
namespace L2
open PySem PySem.Spec PyProof.Rows
inductive Kn where
 |aA|bl|int|str|tup|lst|bp
 deriving DecidableEq
noncomputable def lq (K:Frag) (H:Hp):V->Kn->Prop
 | .aA,.aA=>True
 | .bl _,.bl=>True
 | .int _,.int=>True
 | .str _,.str=>True
 | .ref a,.tup=>∃xs,aR K H a xs
 | .ref a,.lst=>∃xs,bG K H a xs
 | .ref a,.bp=>∃ak,H a=some (.dK ak)
 |_,_=>False
noncomputable def oA:Kn->String->Bool
 | .int,"int"=>true
 | .bl,"int"=>true
 | .bl,"bool"=>true
 | .str,"str"=>true
 | .tup,"tuple"=>true
 | .lst,"list"=>true
 |_,_=>false
section
variable {X:Cx}
theorem Inv.nV {pins:List (Addr×Obj)} {σ:St} {H:Hp} {s:Shared} {a:Addr} {xs:List V} (I:Inv X pins σ H s) (h:aR X.K H a xs):∃o,s.heap.get? a=some o/\o.cls=.type "tuple":=by
 obtain⟨its,r,⟨o,e,c,_⟩,_⟩:=I.tuple h
 exact⟨o,e,c⟩
theorem Inv.nW {pins:List (Addr×Obj)} {σ:St} {H:Hp} {s:Shared} {a:Addr} {xs:List V} (I:Inv X pins σ H s) (h:bG X.K H a xs):∃o,s.heap.get? a=some o/\o.cls=.type "list":=by
 obtain⟨its,r,⟨o,n,e,c,_⟩,_⟩:=I.list h
 exact⟨o,e,c⟩
theorem Inv.nX {pins:List (Addr×Obj)} {σ:St} {H:Hp} {s:Shared} {a:Addr} {ak:List (Key×V)} (I:Inv X pins σ H s) (h:H a=some (.dK ak)):∃o,s.heap.get? a=some o/\o.cls=.type "dict":=by
 obtain⟨_,_,vs,_,p⟩:=(show cQ X.prog X.w H s.heap a (.dK ak) from I.aH a _ h)
 obtain⟨o,es,ep,h1,h2,_⟩:=p
 exact⟨o,h1,h2.1⟩
theorem Hu:bV X (.builtin "isinstance") (λxs H Q=>∃x k,xs=[x,.ty "int"]/\lq X.K H x k/\Q (.bl (oA k "int")) H):=by
 intro pins s σ H xs us Q I r h
 obtain⟨x,k,rfl,hk,q⟩:=h
 obtain⟨u,c,rfl,ru,rc⟩:=vals2 r
 cases rc
 cases k with
 |aA =>
  cases x with
  |aA =>
   cases ru
   exact IsiPair.NoneType_int ⟨.bl false,H,I.tok _,rfl,q⟩
  |_=>exact hk.elim
 |bl =>
  cases x with
  |bl b =>
   cases ru
   exact IsiPair.bool_int ⟨.bl true,H,I,rfl,q⟩
  |_=>exact hk.elim
 |int =>
  cases x with
  |int i =>
   obtain⟨t,rfl⟩:=ru
   exact IsiPair.int_int ⟨.bl true,H,I,rfl,q⟩
  |_=>exact hk.elim
 |str =>
  cases x with
  |str y =>
   obtain⟨t,rfl⟩:=ru
   exact IsiPair.str_int ⟨.bl false,H,I.tok _,rfl,q⟩
  |_=>exact hk.elim
 |tup =>
  cases x with
  |ref a =>
   cases ru
   obtain⟨z,hz⟩:=hk
   obtain⟨o,ho,hc⟩:=I.nV hz
   exact IsiPair.tuple_int ho hc ⟨.bl false,H,I.tok _,rfl,q⟩
  |_=>exact hk.elim
 |lst =>
  cases x with
  |ref a =>
   cases ru
   obtain⟨z,hz⟩:=hk
   obtain⟨o,ho,hc⟩:=I.nW hz
   exact IsiPair.list_int ho hc ⟨.bl false,H,I.tok _,rfl,q⟩
  |_=>exact hk.elim
 |bp =>
  cases x with
  |ref a =>
   cases ru
   obtain⟨z,hz⟩:=hk
   obtain⟨o,ho,hc⟩:=I.nX hz
   exact IsiPair.dict_int ho hc ⟨.bl false,H,I.tok _,rfl,q⟩
  |_=>exact hk.elim
theorem Hi:bV X (.builtin "isinstance") (λxs H Q=>∃x k,xs=[x,.ty "bool"]/\lq X.K H x k/\Q (.bl (oA k "bool")) H):=by
 intro pins s σ H xs us Q I r h
 obtain⟨x,k,rfl,hk,q⟩:=h
 obtain⟨u,c,rfl,ru,rc⟩:=vals2 r
 cases rc
 cases k with
 |aA =>
  cases x with
  |aA =>
   cases ru
   exact IsiPair.NoneType_bool ⟨.bl false,H,I.tok _,rfl,q⟩
  |_=>exact hk.elim
 |bl =>
  cases x with
  |bl b =>
   cases ru
   exact IsiPair.bool_bool ⟨.bl true,H,I,rfl,q⟩
  |_=>exact hk.elim
 |int =>
  cases x with
  |int i =>
   obtain⟨t,rfl⟩:=ru
   exact IsiPair.int_bool ⟨.bl false,H,I.tok _,rfl,q⟩
  |_=>exact hk.elim
 |str =>
  cases x with
  |str y =>
   obtain⟨t,rfl⟩:=ru
   exact IsiPair.str_bool ⟨.bl false,H,I.tok _,rfl,q⟩
  |_=>exact hk.elim
 |tup =>
  cases x with
  |ref a =>
   cases ru
   obtain⟨z,hz⟩:=hk
   obtain⟨o,ho,hc⟩:=I.nV hz
   exact IsiPair.tuple_bool ho hc ⟨.bl false,H,I.tok _,rfl,q⟩
  |_=>exact hk.elim
 |lst =>
  cases x with
  |ref a =>
   cases ru
   obtain⟨z,hz⟩:=hk
   obtain⟨o,ho,hc⟩:=I.nW hz
   exact IsiPair.list_bool ho hc ⟨.bl false,H,I.tok _,rfl,q⟩
  |_=>exact hk.elim
 |bp =>
  cases x with
  |ref a =>
   cases ru
   obtain⟨z,hz⟩:=hk
   obtain⟨o,ho,hc⟩:=I.nX hz
   exact IsiPair.dict_bool ho hc ⟨.bl false,H,I.tok _,rfl,q⟩
  |_=>exact hk.elim
theorem Hv:bV X (.builtin "isinstance") (λxs H Q=>∃x k,xs=[x,.ty "str"]/\lq X.K H x k/\Q (.bl (oA k "str")) H):=by
 intro pins s σ H xs us Q I r h
 obtain⟨x,k,rfl,hk,q⟩:=h
 obtain⟨u,c,rfl,ru,rc⟩:=vals2 r
 cases rc
 cases k with
 |aA =>
  cases x with
  |aA =>
   cases ru
   exact IsiPair.NoneType_str ⟨.bl false,H,I.tok _,rfl,q⟩
  |_=>exact hk.elim
 |bl =>
  cases x with
  |bl b =>
   cases ru
   exact IsiPair.bool_str ⟨.bl false,H,I.tok _,rfl,q⟩
  |_=>exact hk.elim
 |int =>
  cases x with
  |int i =>
   obtain⟨t,rfl⟩:=ru
   exact IsiPair.int_str ⟨.bl false,H,I.tok _,rfl,q⟩
  |_=>exact hk.elim
 |str =>
  cases x with
  |str y =>
   obtain⟨t,rfl⟩:=ru
   exact IsiPair.str_str ⟨.bl true,H,I,rfl,q⟩
  |_=>exact hk.elim
 |tup =>
  cases x with
  |ref a =>
   cases ru
   obtain⟨z,hz⟩:=hk
   obtain⟨o,ho,hc⟩:=I.nV hz
   exact IsiPair.tuple_str ho hc ⟨.bl false,H,I.tok _,rfl,q⟩
  |_=>exact hk.elim
 |lst =>
  cases x with
  |ref a =>
   cases ru
   obtain⟨z,hz⟩:=hk
   obtain⟨o,ho,hc⟩:=I.nW hz
   exact IsiPair.list_str ho hc ⟨.bl false,H,I.tok _,rfl,q⟩
  |_=>exact hk.elim
 |bp =>
  cases x with
  |ref a =>
   cases ru
   obtain⟨z,hz⟩:=hk
   obtain⟨o,ho,hc⟩:=I.nX hz
   exact IsiPair.dict_str ho hc ⟨.bl false,H,I.tok _,rfl,q⟩
  |_=>exact hk.elim
theorem G8:bV X (.builtin "isinstance") (λxs H Q=>∃x k,xs=[x,.ty "tuple"]/\lq X.K H x k/\Q (.bl (oA k "tuple")) H):=by
 intro pins s σ H xs us Q I r h
 obtain⟨x,k,rfl,hk,q⟩:=h
 obtain⟨u,c,rfl,ru,rc⟩:=vals2 r
 cases rc
 cases k with
 |aA =>
  cases x with
  |aA =>
   cases ru
   exact IsiPair.NoneType_tuple ⟨.bl false,H,I.tok _,rfl,q⟩
  |_=>exact hk.elim
 |bl =>
  cases x with
  |bl b =>
   cases ru
   exact IsiPair.bool_tuple ⟨.bl false,H,I.tok _,rfl,q⟩
  |_=>exact hk.elim
 |int =>
  cases x with
  |int i =>
   obtain⟨t,rfl⟩:=ru
   exact IsiPair.int_tuple ⟨.bl false,H,I.tok _,rfl,q⟩
  |_=>exact hk.elim
 |str =>
  cases x with
  |str y =>
   obtain⟨t,rfl⟩:=ru
   exact IsiPair.str_tuple ⟨.bl false,H,I.tok _,rfl,q⟩
  |_=>exact hk.elim
 |tup =>
  cases x with
  |ref a =>
   cases ru
   obtain⟨z,hz⟩:=hk
   obtain⟨o,ho,hc⟩:=I.nV hz
   exact IsiPair.tuple_tuple ho hc ⟨.bl true,H,I,rfl,q⟩
  |_=>exact hk.elim
 |lst =>
  cases x with
  |ref a =>
   cases ru
   obtain⟨z,hz⟩:=hk
   obtain⟨o,ho,hc⟩:=I.nW hz
   exact IsiPair.list_tuple ho hc ⟨.bl false,H,I.tok _,rfl,q⟩
  |_=>exact hk.elim
 |bp =>
  cases x with
  |ref a =>
   cases ru
   obtain⟨z,hz⟩:=hk
   obtain⟨o,ho,hc⟩:=I.nX hz
   exact IsiPair.dict_tuple ho hc ⟨.bl false,H,I.tok _,rfl,q⟩
  |_=>exact hk.elim
theorem Hj:bV X (.builtin "isinstance") (λxs H Q=>∃x k,xs=[x,.ty "list"]/\lq X.K H x k/\Q (.bl (oA k "list")) H):=by
 intro pins s σ H xs us Q I r h
 obtain⟨x,k,rfl,hk,q⟩:=h
 obtain⟨u,c,rfl,ru,rc⟩:=vals2 r
 cases rc
 cases k with
 |aA =>
  cases x with
  |aA =>
   cases ru
   exact IsiPair.NoneType_list ⟨.bl false,H,I.tok _,rfl,q⟩
  |_=>exact hk.elim
 |bl =>
  cases x with
  |bl b =>
   cases ru
   exact IsiPair.bool_list ⟨.bl false,H,I.tok _,rfl,q⟩
  |_=>exact hk.elim
 |int =>
  cases x with
  |int i =>
   obtain⟨t,rfl⟩:=ru
   exact IsiPair.int_list ⟨.bl false,H,I.tok _,rfl,q⟩
  |_=>exact hk.elim
 |str =>
  cases x with
  |str y =>
   obtain⟨t,rfl⟩:=ru
   exact IsiPair.str_list ⟨.bl false,H,I.tok _,rfl,q⟩
  |_=>exact hk.elim
 |tup =>
  cases x with
  |ref a =>
   cases ru
   obtain⟨z,hz⟩:=hk
   obtain⟨o,ho,hc⟩:=I.nV hz
   exact IsiPair.tuple_list ho hc ⟨.bl false,H,I.tok _,rfl,q⟩
  |_=>exact hk.elim
 |lst =>
  cases x with
  |ref a =>
   cases ru
   obtain⟨z,hz⟩:=hk
   obtain⟨o,ho,hc⟩:=I.nW hz
   exact IsiPair.list_list ho hc ⟨.bl true,H,I,rfl,q⟩
  |_=>exact hk.elim
 |bp =>
  cases x with
  |ref a =>
   cases ru
   obtain⟨z,hz⟩:=hk
   obtain⟨o,ho,hc⟩:=I.nX hz
   exact IsiPair.dict_list ho hc ⟨.bl false,H,I.tok _,rfl,q⟩
  |_=>exact hk.elim
end
end L2
namespace L2
open PySem PySem.Spec PyProof.Rows
noncomputable def oh (p:Addr) (Ts:List String):Heap->Prop:=λh=>h.get? p=some { cls:=.type "tuple",data:=.seq (Ts.map Value.type).toArray }
theorem Dh:∀{Ts:List String} {us:List Value},Vals (Ts.map V.ty) us->us=Ts.map Value.type
 | [],_,.nil=>rfl
 |_::r,_,.cons h t=>by
  cases h
  rw[Dh t]
  rfl
noncomputable def Nx (t:TA):TE:=fun σ H Q=>t σ H λxs H1=>∃Ts:List String,xs=Ts.map V.ty/\xs.length<=sizeLine/\∀p,H1 p=none->Q (.ref p) (upd H1 p (.ext (oh p Ts)))
section
variable {X:Cx} {es:List Expr} {t:TA} {pos:Pos}
theorem Ko {x1} (h:PA X es t):PE X (.Tuple es x1 pos) (Nx t):=by
 intro pins s σ H Q I hq
 refine wpAny_Tuple_spliced (aJ (h pos pins s σ H _ I hq) λus s1 ⟨xs,H1,I1,r,Ts,e,z,q⟩=>⟨by rw[<- r.length];exact z,?_⟩)
 subst e
 have eu:=Dh r
 subst eu
 have hf:H1 s1.heap.objs.size=none:=I1.aH.fresh (Nat.le_refl _)
 refine⟨.ref s1.heap.objs.size,upd H1 s1.heap.objs.size (.ext (oh s1.heap.objs.size Ts)),I1.laid (t':=s1.toks) (λb u e=>Heap.get?_push_of_some _ e) (Nat.le_refl _) ?_,rfl,q _ hf⟩
 refine⟨Heap.get?_push_size _ rfl,⟨_,Heap.get?_push_size _ rfl⟩,λh1 h2 e k=>k _ e⟩
theorem Ny {K:Frag} {pins:List (Addr×Obj)} {σ:St} {H:Hp} {s:Shared} {x:V} {u:Value} {k:Kn} (I:Inv X pins σ H s) (hk:lq X.K H x k) (r:RelV x u) :
  ∃Tx vs,AnswersAll (λs=>s.TypeIs u Tx) u [.type "tuple",.type "list"] vs/\s.TypeIs u Tx/\vs.any id=(decide (k=.tup)||decide (k=.lst)):=by
 cases k with
 |aA =>
  cases x with
  |aA=>cases r;exact⟨"NoneType",[false,false],.cons (.of_false_none (by decide +kernel) F.isi_meta_tuple F.sub_NoneType_tuple) (.cons (.of_false_none (by decide +kernel) F.isi_meta_list F.sub_NoneType_list) .nil),rfl,rfl⟩
  |_=>exact hk.elim
 |bl =>
  cases x with
  |bl b=>cases r;exact⟨"bool",[false,false],.cons (.of_false_bool (by decide +kernel) F.isi_meta_tuple F.sub_bool_tuple) (.cons (.of_false_bool (by decide +kernel) F.isi_meta_list F.sub_bool_list) .nil),rfl,rfl⟩
  |_=>exact hk.elim
 |int =>
  cases x with
  |int b=>obtain⟨t,rfl⟩:=r;exact⟨"int",[false,false],.cons (.of_false_int (by decide +kernel) F.isi_meta_tuple F.sub_int_tuple) (.cons (.of_false_int (by decide +kernel) F.isi_meta_list F.sub_int_list) .nil),rfl,rfl⟩
  |_=>exact hk.elim
 |str =>
  cases x with
  |str b=>obtain⟨t,rfl⟩:=r;exact⟨"str",[false,false],.cons (.of_false_str (by decide +kernel) F.isi_meta_tuple F.sub_str_tuple) (.cons (.of_false_str (by decide +kernel) F.isi_meta_list F.sub_str_list) .nil),rfl,rfl⟩
  |_=>exact hk.elim
 |tup =>
  cases x with
  |ref a =>
   cases r
   obtain⟨z,hz⟩:=hk
   exact⟨"tuple",[true,false],.cons (.of_true F.isi_meta_tuple F.sub_tuple_tuple) (.cons (.of_false_tuple (by decide +kernel) F.isi_meta_list F.sub_tuple_list) .nil),I.nV hz,rfl⟩
  |_=>exact hk.elim
 |lst =>
  cases x with
  |ref a =>
   cases r
   obtain⟨z,hz⟩:=hk
   exact⟨"list",[false,true],.cons (.of_false_list (by decide +kernel) F.isi_meta_tuple F.sub_list_tuple) (.cons (.of_true F.isi_meta_list F.sub_list_list) .nil),I.nW hz,rfl⟩
  |_=>exact hk.elim
 |bp =>
  cases x with
  |ref a =>
   cases r
   obtain⟨z,hz⟩:=hk
   exact⟨"dict",[false,false],.cons (.of_false_dict (by decide +kernel) F.isi_meta_tuple F.sub_dict_tuple) (.cons (.of_false_dict (by decide +kernel) F.isi_meta_list F.sub_dict_list) .nil),I.nX hz,rfl⟩
  |_=>exact hk.elim
theorem HR:bV X (.builtin "isinstance") (λxs H Q=>∃x k p,xs=[x,.ref p]/\lq X.K H x k/\H p=some (.ext (oh p ["tuple","list"]))/\Q (.bl (decide (k=.tup)||decide (k=.lst))) H):=by
 intro pins s σ H xs us Q I r h
 obtain⟨x,k,p,rfl,hk,hp,q⟩:=h
 obtain⟨u,c,rfl,ru,rc⟩:=vals2 r
 cases rc
 obtain⟨Tx,vs,ha,ht,hv⟩:=Ny (K:=X.K) I hk ru
 have ho:cQ X.prog X.w H s.heap p (.ext (oh p ["tuple","list"])):=I.aH p _ hp
 exact IsiPair.tupleOfB ha ht ho.1 hv λtk=>⟨.bl _,H,I.tok _,rfl,q⟩
theorem Cu {A:Around} {bs:List Bool} {its:List Value} (r:Vals (bs.map V.bl) its):TruthOf X.prog X.w A (λi v=>its.toArray[i]?=some v) (λi=>bs.getD i false):=by
 intro i v s Q E hv hQ
 have Gm:its[i]?=some v:=by simpa using hv
 have hi:i<its.length:=(List.getElem?_eq_some_iff.mp Gm).1
 have hb:i<bs.length:=by
  have e:=r.length
  rw[List.length_map] at e
  omega
 have hx:(bs.map V.bl)[i]?=some (.bl (bs[i])):=by rw[List.getElem?_map,List.getElem?_eq_getElem hb];rfl
 obtain⟨u,hu,ru⟩:=Vals.get r hx
 rw[Gm] at hu
 cases hu
 cases ru
 have e:bs.getD i false=bs[i]:=by simp[List.getD,List.getElem?_eq_getElem hb]
 have lr:Q (bs.getD i false) s:=hQ
 rw[e] at lr
 exact wpAny_truthy_bool lr
theorem range_all (bs:List Bool):(List.range bs.length).all (λi=>bs.getD i false)=bs.all id:=by
 rw[Bool.eq_iff_iff,List.all_eq_true,List.all_eq_true]
 constructor
 ·intro h b hb
  obtain⟨i,hi,e⟩:=List.getElem_of_mem hb
  have:=h i (List.mem_range.mpr hi)
  simpa [List.getD,List.getElem?_eq_getElem hi,e] using this
 ·intro h i hi
  have hi:=List.mem_range.mp hi
  have:=h _ (List.getElem_mem hi)
  simpa [List.getD,List.getElem?_eq_getElem hi] using this
theorem range_any (bs:List Bool):(List.range bs.length).any (λi=>bs.getD i false)=bs.any id:=by
 rw[Bool.eq_iff_iff,List.any_eq_true,List.any_eq_true]
 constructor
 ·rintro ⟨i,hi,h⟩
  have hi:=List.mem_range.mp hi
  exact⟨bs[i],List.getElem_mem hi,by simpa [List.getD,List.getElem?_eq_getElem hi] using h⟩
 ·rintro ⟨b,hb,h⟩
  obtain⟨i,hi,e⟩:=List.getElem_of_mem hb
  exact⟨i,List.mem_range.mpr hi,by simpa [List.getD,List.getElem?_eq_getElem hi,e] using h⟩
theorem Kp (hc:X.calm=true):bV X (.builtin "all") (λxs H Q=>∃(p:Addr) (bs:List Bool),xs=[.ref p]/\bG X.K H p (bs.map V.bl)/\Q (.bl (bs.all id)) H):=by
 intro pins s σ H xs us Q I r h
 obtain⟨p,bs,rfl,hp,q⟩:=h
 obtain⟨u,rfl,ru⟩:=vals1 r
 cases ru
 obtain⟨its,rv,pl,hz⟩:=I.list hp
 have hn:its.toArray.size=bs.length:=by
  have e:=rv.length
  rw[List.length_map] at e
  simpa using e.symm
 have hh:X.A.in1.handled=none:=I.ok.hd hc
 refine call_all_walk (wpAny_pyIter_list pl.isList ?_)
 have old:p≠s.heap.objs.size:=Nat.ne_of_lt (by obtain⟨o,n,e,_⟩:=pl;exact Heap.lt_size e)
 refine⟨s.heap.objs.size,[s.heap.objs.size,p],[s.heap.objs.size],its.toArray.size,_,_,λi=>bs.getD i false,rfl,Walks.list hh s.heap.objs.size p old its.toArray,⟨⟨_,Heap.get?_push_size _ rfl,rfl,rfl⟩,pl.isList.at λo e=>Heap.get?_push_of_some _ e⟩,Cu rv,λh' tk hk=>?_⟩
 rw[hn,range_all]
 exact⟨.bl _,H,I.kept (t':=tk) λb o e=>hk b o (by simpa using Nat.ne_of_lt (Heap.lt_size e)) (Heap.get?_push_of_some _ e),rfl,q⟩
theorem Kq (hc:X.calm=true):bV X (.builtin "any") (λxs H Q=>∃(p:Addr) (bs:List Bool),xs=[.ref p]/\bG X.K H p (bs.map V.bl)/\Q (.bl (bs.any id)) H):=by
 intro pins s σ H xs us Q I r h
 obtain⟨p,bs,rfl,hp,q⟩:=h
 obtain⟨u,rfl,ru⟩:=vals1 r
 cases ru
 obtain⟨its,rv,pl,hz⟩:=I.list hp
 have hn:its.toArray.size=bs.length:=by
  have e:=rv.length
  rw[List.length_map] at e
  simpa using e.symm
 have hh:X.A.in1.handled=none:=I.ok.hd hc
 refine call_any_walk (wpAny_pyIter_list pl.isList ?_)
 have old:p≠s.heap.objs.size:=Nat.ne_of_lt (by obtain⟨o,n,e,_⟩:=pl;exact Heap.lt_size e)
 refine⟨s.heap.objs.size,[s.heap.objs.size,p],[s.heap.objs.size],its.toArray.size,_,_,λi=>bs.getD i false,rfl,Walks.list hh s.heap.objs.size p old its.toArray,⟨⟨_,Heap.get?_push_size _ rfl,rfl,rfl⟩,pl.isList.at λo e=>Heap.get?_push_of_some _ e⟩,Cu rv,λh' tk hk=>?_⟩
 rw[hn,range_any]
 exact⟨.bl _,H,I.kept (t':=tk) λb o e=>hk b o (by simpa using Nat.ne_of_lt (Heap.lt_size e)) (Heap.get?_push_of_some _ e),rfl,q⟩
end
end L2
namespace L2
open PySem PySem.Spec PyProof.Rows
noncomputable def oB:Key->PyData
 | .inl i=>.int i
 | .inr x=>.str x
mutual
noncomputable def DV (K:Frag) (Z:Addr->Prop) (H:Hp):PyData->V->Prop
 | .none,v=>v=.aA
 | .bool b,v=>v=.bl b
 | .int i,v=>v=.int i
 | .str x,v=>v=.str x
 | .tuple ds,v=>∃a xs,v=.ref a/\aR K H a xs/\aq K Z H ds xs
 | .list ds,v=>∃a xs,v=.ref a/\¬ Z a/\H a=some (.lst xs)/\aq K Z H ds xs
 | .dict ak,v=>∃a es,v=.ref a/\¬ Z a/\H a=some (.dK es)/\∃l:List (Key×Int),es=l.map (λp=>(p.1,V.int p.2))/\ak=l.map λp=>(oB p.1,PyData.int p.2)
noncomputable def aq (K:Frag) (Z:Addr->Prop) (H:Hp):List PyData->List V->Prop
 | [],vs=>vs=[]
 |d::ds,vs=>∃v r,vs=v::r/\DV K Z H d v/\aq K Z H ds r
end
structure FI (K:Frag) (Z:Addr->Prop) (H H':Hp):Prop where
 tup:∀b xs,aR K H b xs->aR K H' b xs
 lst:∀b xs,¬ Z b->H b=some (.lst xs)->H' b=some (.lst xs)
 bp:∀b es,¬ Z b->H b=some (.dK es)->H' b=some (.dK es)
mutual
theorem DV.fR {K:Frag} {Z:Addr->Prop} {H H':Hp} (S:FI K Z H H'):∀{d:PyData} {v:V},DV K Z H d v->DV K Z H' d v
 | .none,_,h=>h
 | .bool _,_,h=>h
 | .int _,_,h=>h
 | .str _,_,h=>h
 | .tuple ds,v,h=>by
  simp only[DV] at h |-
  obtain⟨a,xs,e,hq,r⟩:=h
  exact⟨a,xs,e,S.tup a xs hq,aq.fR S r⟩
 | .list ds,v,h=>by
  simp only[DV] at h |-
  obtain⟨a,xs,e,hz,hq,r⟩:=h
  exact⟨a,xs,e,hz,S.lst a xs hz hq,aq.fR S r⟩
 | .dict ak,v,h=>by
  simp only[DV] at h |-
  obtain⟨a,es,e,hz,hq,r⟩:=h
  exact⟨a,es,e,hz,S.bp a es hz hq,r⟩
theorem aq.fR {K:Frag} {Z:Addr->Prop} {H H':Hp} (S:FI K Z H H'):∀{ds:List PyData} {vs:List V},aq K Z H ds vs->aq K Z H' ds vs
 | [],_,h=>h
 |d::ds,vs,h=>by
  simp only[aq] at h |-
  obtain⟨v,r,e,h1,h2⟩:=h
  exact⟨v,r,e,DV.fR S h1,aq.fR S h2⟩
end
mutual
theorem DV.more {K:Frag} {Z:Addr->Prop} {H:Hp} {p:Addr} (hp:H p=none):∀{d:PyData} {v:V},DV K Z H d v->DV K (λa=>Z a\/a=p) H d v
 | .none,_,h=>h
 | .bool _,_,h=>h
 | .int _,_,h=>h
 | .str _,_,h=>h
 | .tuple ds,v,h=>by
  simp only[DV] at h |-
  obtain⟨a,xs,e,hq,r⟩:=h
  exact⟨a,xs,e,hq,aq.more hp r⟩
 | .list ds,v,h=>by
  simp only[DV] at h |-
  obtain⟨a,xs,e,hz,hq,r⟩:=h
  exact⟨a,xs,e,(λz=>z.elim hz λe=>by subst e;rw[hp] at hq;cases hq),hq,aq.more hp r⟩
 | .dict ak,v,h=>by
  simp only[DV] at h |-
  obtain⟨a,es,e,hz,hq,r⟩:=h
  exact⟨a,es,e,(λz=>z.elim hz λe=>by subst e;rw[hp] at hq;cases hq),hq,r⟩
theorem aq.more {K:Frag} {Z:Addr->Prop} {H:Hp} {p:Addr} (hp:H p=none):∀{ds:List PyData} {vs:List V},aq K Z H ds vs->aq K (λa=>Z a\/a=p) H ds vs
 | [],_,h=>h
 |d::ds,vs,h=>by
  simp only[aq] at h |-
  obtain⟨v,r,e,h1,h2⟩:=h
  exact⟨v,r,e,DV.more hp h1,aq.more hp h2⟩
end
mutual
theorem DV.less {K:Frag} {Z Z':Addr->Prop} {H:Hp} (jG:∀a,Z' a->Z a):∀{d:PyData} {v:V},DV K Z H d v->DV K Z' H d v
 | .none,_,h=>h
 | .bool _,_,h=>h
 | .int _,_,h=>h
 | .str _,_,h=>h
 | .tuple ds,v,h=>by
  simp only[DV] at h |-
  obtain⟨a,xs,e,hq,r⟩:=h
  exact⟨a,xs,e,hq,aq.less jG r⟩
 | .list ds,v,h=>by
  simp only[DV] at h |-
  obtain⟨a,xs,e,hz,hq,r⟩:=h
  exact⟨a,xs,e,λz=>hz (jG _ z),hq,aq.less jG r⟩
 | .dict ak,v,h=>by
  simp only[DV] at h |-
  obtain⟨a,es,e,hz,hq,r⟩:=h
  exact⟨a,es,e,λz=>hz (jG _ z),hq,r⟩
theorem aq.less {K:Frag} {Z Z':Addr->Prop} {H:Hp} (jG:∀a,Z' a->Z a):∀{ds:List PyData} {vs:List V},aq K Z H ds vs->aq K Z' H ds vs
 | [],_,h=>h
 |d::ds,vs,h=>by
  simp only[aq] at h |-
  obtain⟨v,r,e,h1,h2⟩:=h
  exact⟨v,r,e,DV.less jG h1,aq.less jG h2⟩
end
noncomputable def Q0:PyData->Kn
 | .none=>.aA
 | .bool _=>.bl
 | .int _=>.int
 | .str _=>.str
 | .tuple _=>.tup
 | .list _=>.lst
 | .dict _=>.bp
section
variable {X:Cx} {pins:List (Addr×Obj)} {σ:St} {H:Hp} {s:Shared} {Z:Addr->Prop}
theorem sg {h:Heap} {P:Program} {w:World}:∀{l:List (Key×Int)} {vs:List (Key×Value)} {es:List DictEntry},KV (l.map λp=>(p.1,V.int p.2)) vs->Pairs (sY P w) es vs ->
  ReadsAll h (es.map (·.key)) ((l.map λp=>(oB p.1,PyData.int p.2)).map (·.1)) []/\ReadsAll h (es.map (·.val)) ((l.map λp=>(oB p.1,PyData.int p.2)).map (·.2)) []
 | [],_,_,.nil,.nil=>⟨.nil,.nil⟩
 |(k,i)::l,_,_,.cons (b:=q) r t,.cons (e:=e) h1 h2 h3=>by
  obtain⟨a1,a2⟩:=sg (h:=h) t h3
  obtain⟨r1,t',r2⟩:=r
  have r1:k=q.1:=r1
  have r2:q.2=Value.int i t':=r2
  refine⟨?_,?_⟩
  ·have hk:xG q.1 e.key=true:=h1
   rw[<- r1] at hk
   have:Reads h e.key (oB k) []:=by
    rcases jk hk with ⟨j,u,e1,e2⟩ | ⟨x,u,e1,e2⟩
    ·rw[e1,e2];exact .int j u
    ·rw[e1,e2];exact .str x u
   exact ReadsAll.cons (as:=[]) (bs:=[]) this a1
  ·have:Reads h e.val (.int i) []:=by rw[h2,r2];exact .int i t'
   exact ReadsAll.cons (as:=[]) (bs:=[]) this a2
mutual
theorem DV.reads (I:Inv X pins σ H s):∀{d:PyData} {v:V} {u:Value},DV X.K Z H d v->RelV v u->∃as,Reads s.heap u d as
 | .none,v,u,h,r=>by
  have e:v=.aA:=h
  subst e;cases r
  exact⟨[],.none⟩
 | .bool b,v,u,h,r=>by
  have e:v=.bl b:=h
  subst e;cases r
  exact⟨[],.bool b⟩
 | .int i,v,u,h,r=>by
  have e:v=.int i:=h
  subst e;obtain⟨t,rfl⟩:=r
  exact⟨[],.int i t⟩
 | .str x,v,u,h,r=>by
  have e:v=.str x:=h
  subst e;obtain⟨t,rfl⟩:=r
  exact⟨[],.str x t⟩
 | .tuple ds,v,u,h,r=>by
  simp only[DV] at h
  obtain⟨a,xs,e,hq,hr⟩:=h
  subst e;cases r
  obtain⟨its,rv,⟨o,e,c,n,hd⟩,_⟩:=I.tuple hq
  obtain⟨as,rs⟩:=aq.reads I hr rv
  exact⟨as,.tuple e c hd (by simpa using rs)⟩
 | .list ds,v,u,h,r=>by
  simp only[DV] at h
  obtain⟨a,xs,e,_,hq,hr⟩:=h
  subst e;cases r
  obtain⟨its,rv,⟨o,n,e,c,_,hd⟩,_⟩:=I.list (bG.of hq)
  obtain⟨as,rs⟩:=aq.reads I hr rv
  exact⟨a::as,.list e c hd (by simpa using rs)⟩
 | .dict ak,v,u,h,r=>by
  simp only[DV] at h
  obtain⟨a,es,e,_,hq,l,e1,e2⟩:=h
  subst e e1 e2;cases r
  obtain⟨_,_,vs,kv,o,ff,ep,g1,g2,g3,_,g5,_⟩:=(show cQ X.prog X.w H s.heap a (.dK _) from I.aH a _ hq)
  obtain⟨r1,r2⟩:=sg (h:=s.heap) kv g5
  exact⟨a::[]++[],.dict g1 g2.1 g3 r1 r2⟩
theorem aq.reads (I:Inv X pins σ H s):∀{ds:List PyData} {vs:List V} {us:List Value},aq X.K Z H ds vs->Vals vs us->∃as,ReadsAll s.heap us ds as
 | [],vs,us,h,r=>by
  have e:vs=[]:=h
  subst e;cases r
  exact⟨[],.nil⟩
 |d::ds,vs,us,h,r=>by
  obtain⟨v,rr,e,h1,h2⟩:=h
  subst e
  cases r with
  |cons ru rt =>
   obtain⟨as,a1⟩:=DV.reads I h1 ru
   obtain⟨bs,a2⟩:=aq.reads I h2 rt
   exact⟨as++bs,.cons a1 a2⟩
end
theorem BL {k:Nat} (hr:cq k X.A):bV X (.builtin "repr") (λxs H Q=>∃(x:V) (d:PyData) (Z:Addr->Prop),xs=[x]/\DV X.K Z H d x/\d.showable=true/\(d.hasDict=false\/Q0 d=.bp)/\d.depth<=100/\d.shown.length<=sizeLine/\Q (.str d.shown) H):=by
 intro pins s σ H xs us Q I r h
 obtain⟨x,d,Z,rfl,hd,hs,oU,rf,hz,q⟩:=h
 obtain⟨u,rfl,ru⟩:=vals1 r
 have u0:X.A.units+(d.depth+1)<cLine:=by have:=hr.un;omega
 obtain⟨as,rd⟩:=hd.reads I ru
 have go:∀a,u=.ref a->(d.hasDict=true->sysModules∉as)->wpAny (model X.prog X.w) X.A (call (.builtin "repr") [u]) (EP X pins σ Q) X.xe s:=λa e zf=>by
  subst e
  exact repr_of_reads' rd hs zf hr.gd u0 (λ_ _ e=>e) (λh' t tk hk=>⟨.str d.shown,H,I.kept (t':=tk) hk,⟨t,rfl⟩,q⟩) hz
 cases d with
 |none =>
  cases rd
  exact P.repr_of_none ⟨.str _,H,I.tok _,⟨_,rfl⟩,q⟩
 |bool b =>
  cases rd
  exact P.repr_of_bool ⟨.str _,H,I.tok _,⟨_,rfl⟩,q⟩
 |int i =>
  cases rd
  exact P.repr_of_int (by simpa [PyData.showable] using hs) ⟨.str _,H,I.tok _,⟨_,rfl⟩,q⟩
 |str y =>
  cases rd
  exact P.repr_of_str ⟨.str _,H,I.tok _,⟨_,rfl⟩,q⟩ hz
 |list ds =>
  cases rd with
  |list h1 h2 h3 h4 =>
   refine go _ rfl λz=>?_
   rcases oU with e|e
   ·rw[e] at z;cases z
   ·cases e
 |tuple ds =>
  cases rd with
  |tuple h1 h2 h3 h4 =>
   refine go _ rfl λz=>?_
   rcases oU with e|e
   ·rw[e] at z;cases z
   ·cases e
 |dict ak =>
  simp only[DV] at hd
  obtain⟨a,es,e,_,hq,l,e1,e2⟩:=hd
  subst e e1 e2;cases ru
  obtain⟨_,yr,vs,kv,o,ff,ep,g1,g2,g3,_,g5,_⟩:=(show cQ X.prog X.w H s.heap a (.dK _) from I.aH a _ hq)
  obtain⟨r1,r2⟩:=sg (h:=s.heap) kv g5
  have Q2:Reads s.heap (.ref a) (.dict (l.map λp=>(oB p.1,PyData.int p.2))) (a::[]++[]):=.dict g1 g2.1 g3 r1 r2
  refine repr_of_reads' Q2 hs (λ_ hm=>?_) hr.gd u0 (λ_ _ e=>e) (λh' t tk hk=>⟨.str _,H,I.kept (t':=tk) hk,⟨t,rfl⟩,q⟩) hz
  have e:sysModules=a:=by simpa using hm
  subst e
  simp at yr
noncomputable def FJ (K:Frag) (neg:Bool):R2:=λx y H Q=>∃(d e:PyData) (Z:Addr->Prop),DV K Z H d x/\DV K Z H e y/\d.canLay0=true/\e.canLay0=true/\min d.depth e.depth<=100/\Q (.bl (if neg then !PyData.eqv d e else PyData.eqv d e)) H
theorem Nz {k:Nat} (hr:cq k X.A):bh X (compareOp .Eq) (FJ X.K false):=by
 intro pins s σ H x y v u Q I rx ry h
 obtain⟨d,e,Z,h1,h2,l1,l2,hd,q⟩:=h
 obtain⟨as,r1⟩:=h1.reads I rx
 obtain⟨bs,r2⟩:=h2.reads I ry
 exact SeqAt.eqOverData _ _ _ _ _ _ _ _ _ _ _ _ r1 r2 l1 l2 (by have:=hr.un;omega) ⟨.bl _,H,I,rfl,q⟩
theorem NA {k:Nat} (hr:cq k X.A):bh X (compareOp .NotEq) (FJ X.K true):=by
 intro pins s σ H x y v u Q I rx ry h
 obtain⟨d,e,Z,h1,h2,l1,l2,hd,q⟩:=h
 obtain⟨as,r1⟩:=h1.reads I rx
 obtain⟨bs,r2⟩:=h2.reads I ry
 exact SeqAt.neOverData _ _ _ _ _ _ _ _ _ _ _ _ r1 r2 l1 l2 (by have:=hr.un;omega) ⟨.bl _,H,I,rfl,q⟩
end
end L2
namespace HT
open PySem PySem.Spec PyProof.Rows
section
variable {prog:Program} {w:World} {A:Around} {E:Value->Shared->Prop} {s:Shared}
theorem BM {t:Addr} {items:Array Value} {Q:Bool->Shared->Prop} (ht:IsTup s.heap t items) (h:Q true s):wpAny (model prog w) A (Builtin.Tuple.tupleIsExact (.ref t)) Q E s:=by
 unfold Builtin.Tuple.tupleIsExact
 exact wpAny_bind (wpAny_typeOf ht.typeIs (wpAny_pure h))
theorem G9 {t sl:Addr} {items:Array Value} {vl vu:Value} {lo hi:Option Int} {Q:Value->Shared->Prop} (ht:IsTup s.heap t items) (hs:s.heap.IsSliceOf sl vl vu .none) (pl:IsPart vl lo) (pu:IsPart vu hi)
  (hw:aP items.size 0 lo=0/\aP items.size items.size hi=items.size) (h:Q (.ref t) s):wpAny (model prog w) A (getItem (.ref t) (.ref sl)) Q E s:=by
 obtain⟨os,iK,gu,km⟩:=id hs
 have qX:s.TypeIs (.ref sl) "slice":=⟨os,iK,gu⟩
 unfold getItem
 try with_reducible refine wpAny_holding ?_
 first|refine wpAny_bind (wpAny_pure ?_)|skip
 refine wpAny_bind (wpAny_sequenceKey ht.typeIs (by decide) ?_)
 refine wpAny_bind (wpAny_callSpecial?_slot (name:=Str.ofString "__getitem__") ht.typeIs PyProof.Rows.slot_tuple_getitem
  (wpAny_call_entry PyProof.Rows.slot_tuple_getitem ht.typeIs entry_tuple_getitem ?_ (args_tuple_getitem _ _)))
 show wpAny _ _ (Builtin.Tuple.tupleItemsOf (.ref t) >>= _) _ _ s
 refine wpAny_bind (tupleItemsOf_ ht ?_)
 refine wpAny_bind (wpAny_typeOf qX ?_)
 rw[if_pos (by decide)]
 refine wpAny_bind (AG hs pl pu ?_)
 obtain⟨w1,w2⟩:=hw
 show wpAny _ _ (if (((aP items.size 0 lo:Nat):Int)==0&&(1:Int)==1&&(aP items.size items.size hi-aP items.size 0 lo)==items.size)=true then _ else _) _ _ s
 rw[w1,w2,if_pos (by simp)]
 first
  |exact wpAny_bind (BM ht (by simp only[if_true];exact wpAny_bind (wpAny_rule (wpAny_pure ⟨_,rfl,wpAny_pure h⟩))))
  |exact wpAny_bind (BM ht (by simp only[if_true];exact wpAny_bind (wpAny_rule (wpAny_bind (wpAny_pure (wpAny_pure ⟨_,rfl,wpAny_pure h⟩))))))
end
end HT
namespace L2
open PySem PySem.Spec PyProof.Rows
theorem iY.Q3 {K:Frag} {H H':Hp} {a:Addr} {xs:List V} (e:iY H H') (h:aR K H a xs):aR K H' a xs:=by
 rcases h with (h | ⟨o,h⟩)|h
 ·exact .inl (.inl (e _ _ h))
 ·exact .inl (.inr ⟨o,e _ _ h⟩)
 ·exact .inr h
theorem iY.upd {H:Hp} {p:Addr} {o:HO} (hn:H p=none):iY H (upd H p o):=λb u e=>by rw[bt (dD e hn)];exact e
def kh (K:Frag) (H:Hp) (ys:List V) (Q:VK):Prop:=∀a H',iY H H'->aR K H' a ys->Q (.ref a) H'
theorem kh.here {K:Frag} {H:Hp} {ys:List V} {Q:VK} {a:Addr} (h:kh K H ys Q) (hs:aR K H a ys):Q (.ref a) H:=h a H (iY.refl H) hs
theorem kh.new {K:Frag} {H:Hp} {ys:List V} {Q:VK} {p:Addr} (h:kh K H ys Q) (hn:H p=none):Q (.ref p) (L2.upd H p (.tup ys)):=h p _ (iY.upd hn) (aR.of dE)
section
variable {X:Cx} {e:Expr} {te:TE} {pos p2 p3 p4:Pos}
theorem Kr {xs:List V} {lo hi:Option Int} (h:HT.aP xs.length 0 lo=0/\HT.aP xs.length xs.length hi=xs.length):iX xs lo hi=xs:=by
 unfold iX
 rw[h.1,h.2]
 simp
noncomputable def Qm (K:Frag):V->Option Int->Option Int->Hp->VK->Prop:=λx lo hi H Q=>∃a xs,x=.ref a/\aR K H a xs/\kh K H (iX xs lo hi) Q
theorem LU:qY X (Qm X.K):=by
 intro pins s σ H x v vl vu lo hi sl Q I rx hs pl pu h
 obtain⟨a,xs,rfl,hx,q⟩:=h
 by_cases hw:HT.aP xs.length 0 lo=0/\HT.aP xs.length xs.length hi=xs.length
 ·cases rx
  obtain⟨its,r,ht,hz⟩:=I.tuple hx
  have hlen:its.toArray.size=xs.length:=by rw[List.size_toArray];exact r.length.symm
  rw[Kr hw] at q
  exact⟨"tuple",_,PyProof.Rows.slot_tuple_getitem.lookup,ht.typeIs,HT.G9 ht hs pl pu (by rw[hlen];exact hw) ⟨.ref a,H,I,rfl,q.here hx⟩⟩
 ·exact xh pins s σ H _ v vl vu lo hi sl Q I rx hs pl pu ⟨a,xs,rfl,hx,hw,λp hp=>q.new hp⟩
noncomputable def OU (K:Frag):R2:=λx y H Q=>∃a b xs ys,x=.ref a/\y=.ref b/\aR K H a xs/\aR K H b ys/\xs.length+ys.length<=sizeLine/\kh K H (xs++ys) Q
theorem LV:bh X (binaryOp .Add) (OU X.K):=by
 intro pins s σ H x y v u Q I rx ry h
 obtain⟨a,b,xs,ys,rfl,rfl,ha,hb,hz,q⟩:=h
 by_cases hx:xs=[]
 ·subst hx
  cases rx
  cases ry
  obtain⟨its,r1,p1,_⟩:=I.tuple ha
  obtain⟨mG,r2,p2,_⟩:=I.tuple hb
  cases r1
  obtain⟨⟨cls,dd,data,sl⟩,ho,hc,n,hd⟩:=id p1
  obtain⟨⟨FG,lj,data2,cG⟩,iJ,lp,n2,hd2⟩:=id p2
  simp only at hc hd lp hd2
  subst hc hd lp hd2
  exact concat_meets ⟨_,ho,rfl⟩ ⟨_,iJ,rfl⟩ noFill_tuple_add seq_tuple_add PySem.F.slot_tuple_add PySem.F.entry_tuple_add (PySem.F.args_tuple_add_2 _ _)
   (tuple_addW0 a b _ mG.toArray n n2 dd lj sl cG (by simp)) ⟨ho,iJ,⟨.ref b,H,I,rfl,q.here hb⟩⟩
 ·refine LP pins s σ H _ _ v u Q I rx ry ⟨a,b,xs,ys,rfl,rfl,ha,hb,hx,hz,λe=>?_,λ_ p hp=>q.new hp⟩
  subst e
  rw[List.append_nil] at q
  exact q.here ha
end
end L2
namespace HZ
open PySem PySem.Spec PyProof.Rows
structure ko (P:Program) (w:World) (A:Around) (i l:Addr) (tn:Nat->Heap->Prop) (val:Nat->Option Value):Prop where
 keep:∀k h h',tn k h->(∀o,h.get? i=some o->h'.get? i=some o)->(∀o,h.get? l=some o->h'.get? l=some o)->tn k h'
 item:∀k (s:Shared) (Q:Value->Shared->Prop) (E:Value->Shared->Prop) x,tn k s.heap->val k=some x->(∀h',tn (k+1) h'->Heap.SameBut i s.heap h'->Q x { s with heap:=h' })->wpAny (model P w) A (Builtin.SmallTypes.nextOf (.ref i)) Q E s
 stop:∀k (s:Shared) (Q:Value->Shared->Prop) (E:Value->Shared->Prop),tn k s.heap->val k=none->(∀h' e,Heap.ExtBut i s.heap h'->(∃o,h'.get? e=some o/\o.cls=.type "StopIteration")->E (.ref e) { s with heap:=h' })->wpAny (model P w) A (Builtin.SmallTypes.nextOf (.ref i)) Q E s
 obj:∀k h,tn k h->∃o,h.get? i=some o/\∀v,o.data≠.cell v
section
variable {P:Program} {w:World} {A:Around} {E:Value->Shared->Prop} {s:Shared}
theorem Iy {it t:Addr} {k:Nat} {its:Array Value} {x:Value} {Q:Value->Shared->Prop} (g:s.heap.IsTupleIter it t k) (gt:s.heap.IsTuple t its) (gx:its[k]?=some x)
  (q:∀h',h'.IsTupleIter it t (k+1)->Heap.SameBut it s.heap h'->Q x { s with heap:=h' }):wpAny (model P w) A (Builtin.SmallTypes.nextOf (.ref it)) Q E s:=by
 obtain⟨o,go,gc,gd⟩:=id g
 obtain⟨ol,zg,_,nl,zh⟩:=gt
 unfold Builtin.SmallTypes.nextOf
 refine wpAny_bind (wpAny_callSpecial?_slot (name:=Str.ofString "__next__") g.typeIs F.slot_tuple_iterator_next
  (wpAny_call_entry F.slot_tuple_iterator_next g.typeIs F.entry_tuple_iterator_next ?_ (F.args_tuple_iterator_next_1 _)))
 show wpAny _ _ (field (.ref it) 0 >>= _) _ _ _
 refine wpAny_bind (wpAny_field go gd (x:=.ref t) rfl ?_)
 show wpAny _ _ (if (Value.ref t==Value.none)=true then _ else _) _ _ _
 rw[if_neg (λz:(Value.ref t==Value.none)=true=>Bool.false_ne_true z)]
 show wpAny _ _ (field (.ref it) 1 >>= _) _ _ _
 refine wpAny_bind (wpAny_field go gd (x:=.int k 0) rfl ?_)
 show wpAny _ _ (seqItems? (.ref t) >>= _) _ _ _
 refine wpAny_bind (wpAny_seqItems zg zh ?_)
 simp only[Int.toNat_natCast,gx]
 refine wpAny_bind (wpAny_setField go gd (by simp) (wpAny_pure ⟨x,rfl,wpAny_pure (q _ ?_ (Heap.SameBut.update ..))⟩))
 exact⟨_,Heap.get?_update_self _ go (Obj.isFreed_of_fields (Obj.data_mapFields gd _)),(Obj.cls_mapFields ..).trans gc,by rw[Obj.data_mapFields gd];simp[rawInt]⟩
theorem Ha {it t:Addr} {k:Nat} {its:Array Value} {Q:Value->Shared->Prop} (gh:A.handled=none) (g:s.heap.IsTupleIter it t k) (gt:s.heap.IsTuple t its) (gx:its[k]?=none)
  (q:∀h' e,Heap.ExtBut it s.heap h'->(∃o,h'.get? e=some o/\o.cls=.type "StopIteration")->E (.ref e) { s with heap:=h' }):wpAny (model P w) A (Builtin.SmallTypes.nextOf (.ref it)) Q E s:=by
 obtain⟨o,go,gc,gd⟩:=id g
 obtain⟨ol,zg,_,nl,zh⟩:=gt
 unfold Builtin.SmallTypes.nextOf
 refine wpAny_bind (wpAny_callSpecial?_slot (name:=Str.ofString "__next__") g.typeIs F.slot_tuple_iterator_next
  (wpAny_call_entry F.slot_tuple_iterator_next g.typeIs F.entry_tuple_iterator_next ?_ (F.args_tuple_iterator_next_1 _)))
 show wpAny _ _ (field (.ref it) 0 >>= _) _ _ _
 refine wpAny_bind (wpAny_field go gd (x:=.ref t) rfl ?_)
 show wpAny _ _ (if (Value.ref t==Value.none)=true then _ else _) _ _ _
 rw[if_neg (λz:(Value.ref t==Value.none)=true=>Bool.false_ne_true z)]
 show wpAny _ _ (field (.ref it) 1 >>= _) _ _ _
 refine wpAny_bind (wpAny_field go gd (x:=.int k 0) rfl ?_)
 show wpAny _ _ (seqItems? (.ref t) >>= _) _ _ _
 refine wpAny_bind (wpAny_seqItems zg zh ?_)
 simp only[Int.toNat_natCast,gx]
 refine wpAny_bind (wpAny_rule (wpAny_bind (wpAny_setField go gd (by simp) ?_)))
 show wpAny _ _ (newExc (.type "StopIteration") [] >>= _) _ _ (_:Shared)
 refine wpAny_bind ?_
 simp only[newExc,newTuple]
 refine wpAny_bind (wpAny_newObj_type ?_ (by size_fits))
 refine wpAny_bind (m:=firstArgMember _ _) (wpAny_of_eq (a:=Value.none) (by first|rfl | (unfold firstArgMember;rfl)) ?_)
 refine wpAny_newObj_type ?_ (by size_fits)
 simp only[raiseNew]
 refine wpAny_bind (wpAny_handled ?_)
 first|rw[gh]|rw[show A.in1.handled=none from gh]
 refine wpAny_bind (wpAny_pure (wpAny_throw ?_))
 exact q _ _ (((Heap.SameBut.update ..).extBut.push _).push _) ⟨_,Heap.get?_push_size _ rfl,rfl⟩
theorem s9 (gh:A.handled=none) (i l:Addr) (its:Array Value):ko P w A i l (λk h=>h.IsTupleIter i l k/\h.IsTuple l its) (λk=>its[k]?) where
 keep:=λk h h' st k1 k2=>⟨st.1.at k1,by obtain⟨o,e,r⟩:=st.2;exact⟨o,k2 o e,r⟩⟩
 item:=λk s Q E x st e q=>Iy st.1 st.2 e λh' g sb=>by
  by_cases hl:l=i
  ·exfalso
   subst hl
   obtain⟨o,e1,c1,_⟩:=st.1
   obtain⟨o',e2,c2,_⟩:=st.2
   rw[e1] at e2;cases e2;rw[c1] at c2;simp at c2
  ·obtain⟨o,e2,r⟩:=st.2
   exact q h' ⟨g,o,(sb.2 l hl).trans e2,r⟩ sb
 stop:=λk s Q E st e q=>Ha gh st.1 st.2 e q
 obj:=λk h st=>by
  obtain⟨o,e,_,d⟩:=st.1
  exact⟨o,e,λv z=>by rw[d] at z;cases z⟩
structure Apart (z ti to j1 j2 m1 m2:Addr):Prop where
 a1:ti≠z
 a2:to≠z
 a3:j1≠z
 a4:j2≠z
 a5:ti≠to
 a6:ti≠j1
 a7:ti≠j2
 a8:to≠j1
 a9:to≠j2
 b0:j1≠j2
 b1:m1≠z
 b2:m1≠to
 b3:m1≠j1
 b4:m1≠j2
 b5:m2≠z
 b6:m2≠to
 b7:m2≠j1
 b8:m2≠j2
theorem Ks {z ti to j1 j2 m1 m2:Addr} {t1 t2:Nat->Heap->Prop} {v1 v2:Nat->Option Value} {k:Nat} {x y a b:Value} {Q:Value->Shared->Prop} (D:Apart z ti to j1 j2 m1 m2) (S1:ko P w A j1 m1 t1 v1) (S2:ko P w A j2 m2 t2 v2)
  (gz:IsZip s.heap z ti to .none) (gi:IsPair s.heap ti (.ref j1) (.ref j2)) (go:IsPair s.heap to a b) (h1:t1 k s.heap) (h2:t2 k s.heap) (hx:v1 k=some x) (hy:v2 k=some y)
  (q:∀h',IsZip h' z ti to (rawInt s.heap.objs.size)->IsPair h' to x y->t1 (k+1) h'->t2 (k+1) h'->IsPair h' s.heap.objs.size x y->h'.objs.size=s.heap.objs.size+1 ->
   (∀c o,c≠z->c≠to->c≠j1->c≠j2->s.heap.get? c=some o->h'.get? c=some o)->Q (.ref s.heap.objs.size) { s with heap:=h' }) :
  wpAny (model P w) A (Builtin.«zip.__next__» ⟨[.ref z],[]⟩) (λfin s'=>∃v,fin=.done (.ret v)/\Q v s') E s:=by
 show wpAny _ _ (field (.ref z) 2 >>= _) _ _ (_:Shared)
 refine wpAny_bind (wpAny_field gz rfl (x:=.bool false) rfl ?_)
 show wpAny _ _ (field (.ref z) 3 >>= _) _ _ (_:Shared)
 refine wpAny_bind (wpAny_field gz rfl (x:=.ref ti) rfl ?_)
 refine wpAny_bind (wpAny_seqItems gi rfl ?_)
 show wpAny _ _ (Builtin.SmallTypes.ownedTupleIsFree (.ref z) >>= _) _ _ (_:Shared)
 refine wpAny_bind ?_
 unfold Builtin.SmallTypes.ownedTupleIsFree
 refine wpAny_bind (wpAny_field gz rfl (x:=.none) rfl (wpAny_pure ?_))
 simp only[if_true]
 refine wpAny_bind (wpAny_rule ?_)
 refine wpAny_bind (wpAny_field gz rfl (x:=.ref to) rfl ?_)
 refine wpAny_bind (wpAny_setField_rec gz (by simp) λp1 z1 s1=>?_)
 replace z1:IsZip p1 z ti to .ellipsis:=z1
 refine wpAny_bind ?_
 simp only[List.zipIdx_cons,List.zipIdx_nil,List.forIn_cons,List.forIn_nil]
 refine wpAny_bind (wpAny_bind (wpAny_onRaise ?_))
 show wpAny _ _ (Builtin.SmallTypes.nextOf (.ref j1) >>= _) _ _ (_:Shared)
 refine wpAny_bind (S1.item k _ _ _ x (S1.keep k _ _ h1 (λo e=>s1.extBut _ _ D.a3 e) (λo e=>s1.extBut _ _ D.b1 e)) hx λp2 oV s2=>wpAny_pure ?_)
 have o2:IsPair p2 to a b:=s2.extBut _ _ D.a8 (s1.extBut _ _ D.a2 go)
 refine wpAny_bind (wpAny_seqItems o2 rfl ?_)
 refine wpAny_bind (wpAny_updateSeq_pair o2 λp3 o3 s3=>?_)
 replace o3:IsPair p3 to x b:=o3
 refine wpAny_bind (wpAny_letGo (wpAny_pure ?_))
 refine wpAny_bind (wpAny_bind (wpAny_onRaise ?_))
 show wpAny _ _ (Builtin.SmallTypes.nextOf (.ref j2) >>= _) _ _ (_:Shared)
 refine wpAny_bind (S2.item k _ _ _ y (S2.keep k _ _ h2 (λo e=>s3.extBut _ _ D.a9.symm (s2.extBut _ _ D.b0.symm (s1.extBut _ _ D.a4 e))) (λo e=>s3.extBut _ _ D.b6 (s2.extBut _ _ D.b7 (s1.extBut _ _ D.b5 e)))) hy λp4 Q4 s4=>wpAny_pure ?_)
 have o4:IsPair p4 to x b:=s4.extBut _ _ D.a9 o3
 refine wpAny_bind (wpAny_seqItems o4 rfl ?_)
 refine wpAny_bind (wpAny_updateSeq_pair o4 λp5 o5 s5=>?_)
 replace o5:IsPair p5 to x y:=o5
 refine wpAny_bind (wpAny_letGo (wpAny_pure (wpAny_pure ?_)))
 refine wpAny_bind (wpAny_seqItems o5 rfl ?_)
 refine wpAny_bind (wpAny_newTuple ?_)
 have gs:p5.objs.size=s.heap.objs.size:=by rw[s5.1,s4.1,s3.1,s2.1,s1.1]
 have z5:IsZip p5 z ti to .ellipsis:=s5.extBut _ _ D.a2.symm (s4.extBut _ _ D.a4.symm (s3.extBut _ _ D.a2.symm (s2.extBut _ _ D.a3.symm z1)))
 have k5:∀c o,c≠z->c≠to->c≠j1->c≠j2->s.heap.get? c=some o->p5.get? c=some o:=λc o c1 c2 c3 c4 e=>s5.extBut _ _ c2 (s4.extBut _ _ c4 (s3.extBut _ _ c2 (s2.extBut _ _ c3 (s1.extBut _ _ c1 e))))
 have Q5:t1 (k+1) p5:=S1.keep _ _ _ oV (λo e=>s5.extBut _ _ D.a8.symm (s4.extBut _ _ D.b0 (s3.extBut _ _ D.a8.symm e))) (λo e=>s5.extBut _ _ D.b2 (s4.extBut _ _ D.b4 (s3.extBut _ _ D.b2 e)))
 have Q6:t2 (k+1) p5:=S2.keep _ _ _ Q4 (λo e=>s5.extBut _ _ D.a9.symm e) (λo e=>s5.extBut _ _ D.b6 e)
 have lz:z<p5.objs.size:=Heap.lt_size z5
 show wpAny _ _ (Builtin.SmallTypes.ownedTupleHandOut (.ref z) (.ref p5.objs.size) >>= _) _ _ (_:Shared)
 refine wpAny_bind ?_
 unfold Builtin.SmallTypes.ownedTupleHandOut
 have z6:IsZip (p5.push { cls:=.type "tuple",data:=.seq #[x,y] }) z ti to .ellipsis:=Heap.get?_push_of_some _ z5
 refine wpAny_bind (wpAny_setField_rec z6 (by simp) λp7 z7 s7=>?_)
 replace z7:IsZip p7 z ti to (rawInt p5.objs.size):=z7
 refine wpAny_setField_rec z7 (by simp) λp8 z8 s8=>?_
 replace z8:IsZip p8 z ti to (rawInt p5.objs.size):=z8
 have up:∀c o,c≠z->p5.get? c=some o->p8.get? c=some o:=λc o c1 e=>s8.extBut _ _ c1 (s7.extBut _ _ c1 (Heap.get?_push_of_some _ e))
 have w8:IsPair p8 p5.objs.size x y:=s8.extBut _ _ (Nat.ne_of_gt lz) (s7.extBut _ _ (Nat.ne_of_gt lz) (Heap.get?_push_size _ rfl))
 have n8:p8.objs.size=p5.objs.size+1:=by rw[s8.1,s7.1,Heap.size_push]
 rw[gs] at z8 w8 n8
 refine wpAny_pure ⟨_,rfl,?_⟩
 show Q (.ref p5.objs.size) _
 rw[gs]
 exact q p8 z8 (up _ _ D.a2 o5) (S1.keep _ _ _ Q5 (λo e=>up _ o D.a3 e) (λo e=>up _ o D.b1 e)) (S2.keep _ _ _ Q6 (λo e=>up _ o D.a4 e) (λo e=>up _ o D.b5 e)) w8 n8 λc o c1 c2 c3 c4 e=>up c o c1 (k5 c o c1 c2 c3 c4 e)
theorem LW {z ti to j1 j2 m1 m2:Addr} {t1 t2:Nat->Heap->Prop} {v1 v2:Nat->Option Value} {k:Nat} {a b:Value} {Q:Fin->Shared->Prop} (D:Apart z ti to j1 j2 m1 m2) (S1:ko P w A j1 m1 t1 v1) (S2:ko P w A j2 m2 t2 v2)
  (gz:IsZip s.heap z ti to .none) (gi:IsPair s.heap ti (.ref j1) (.ref j2)) (go:IsPair s.heap to a b) (h1:t1 k s.heap) (h2:t2 k s.heap) (yt:v1 k=none\/v2 k=none)
  (q:∀h' e,(∀c o,c≠z->c≠to->c≠j1->c≠j2->s.heap.get? c=some o->h'.get? c=some o)->(∃o,h'.get? e=some o/\o.cls=.type "StopIteration")->E (.ref e) { s with heap:=h' }) :
  wpAny (model P w) A (Builtin.«zip.__next__» ⟨[.ref z],[]⟩) Q E s:=by
 show wpAny _ _ (field (.ref z) 2 >>= _) _ _ (_:Shared)
 refine wpAny_bind (wpAny_field gz rfl (x:=.bool false) rfl ?_)
 show wpAny _ _ (field (.ref z) 3 >>= _) _ _ (_:Shared)
 refine wpAny_bind (wpAny_field gz rfl (x:=.ref ti) rfl ?_)
 refine wpAny_bind (wpAny_seqItems gi rfl ?_)
 show wpAny _ _ (Builtin.SmallTypes.ownedTupleIsFree (.ref z) >>= _) _ _ (_:Shared)
 refine wpAny_bind ?_
 unfold Builtin.SmallTypes.ownedTupleIsFree
 refine wpAny_bind (wpAny_field gz rfl (x:=.none) rfl (wpAny_pure ?_))
 simp only[if_true]
 refine wpAny_bind (wpAny_rule ?_)
 refine wpAny_bind (wpAny_field gz rfl (x:=.ref to) rfl ?_)
 refine wpAny_bind (wpAny_setField_rec gz (by simp) λp1 z1 s1=>?_)
 replace z1:IsZip p1 z ti to .ellipsis:=z1
 refine wpAny_bind ?_
 simp only[List.zipIdx_cons,List.zipIdx_nil,List.forIn_cons,List.forIn_nil]
 refine wpAny_bind (wpAny_bind (wpAny_onRaise ?_))
 show wpAny _ _ (Builtin.SmallTypes.nextOf (.ref j1) >>= _) _ _ (_:Shared)
 have oW:t1 k p1:=S1.keep k _ _ h1 (λo e=>s1.extBut _ _ D.a3 e) (λo e=>s1.extBut _ _ D.b1 e)
 cases hx:v1 k with
 |none =>
  refine wpAny_bind (S1.stop k _ _ _ oW hx λp2 e s2 he=>?_)
  obtain⟨oe,g1,g2⟩:=he
  have z2:IsZip p2 z ti to .ellipsis:=s2 _ _ D.a3.symm z1
  have ne:e≠z:=λu=>by subst u;rw[z2] at g1;cases g1;simp at g2
  refine wpAny_setField_rec z2 (by simp) λp3 _ s3=>q p3 e (λc o c1 _ c3 _ u=>s3.extBut _ _ c1 (s2 _ _ c3 (s1.extBut _ _ c1 u))) ⟨oe,s3.extBut _ _ ne g1,g2⟩
 |some x =>
  have hy:v2 k=none:=by
   rcases yt with h|h
   ·rw[hx] at h;cases h
   ·exact h
  refine wpAny_bind (S1.item k _ _ _ x oW hx λp2 oV s2=>wpAny_pure ?_)
  have o2:IsPair p2 to a b:=s2.extBut _ _ D.a8 (s1.extBut _ _ D.a2 go)
  refine wpAny_bind (wpAny_seqItems o2 rfl ?_)
  refine wpAny_bind (wpAny_updateSeq_pair o2 λp3 o3 s3=>?_)
  refine wpAny_bind (wpAny_letGo (wpAny_pure ?_))
  refine wpAny_bind (wpAny_bind (wpAny_onRaise ?_))
  show wpAny _ _ (Builtin.SmallTypes.nextOf (.ref j2) >>= _) _ _ (_:Shared)
  refine wpAny_bind (S2.stop k _ _ _ (S2.keep k _ _ h2 (λo e=>s3.extBut _ _ D.a9.symm (s2.extBut _ _ D.b0.symm (s1.extBut _ _ D.a4 e))) (λo e=>s3.extBut _ _ D.b6 (s2.extBut _ _ D.b7 (s1.extBut _ _ D.b5 e)))) hy λp4 e s4 he=>?_)
  obtain⟨oe,g1,g2⟩:=he
  have z4:IsZip p4 z ti to .ellipsis:=s4 _ _ D.a4.symm (s3.extBut _ _ D.a2.symm (s2.extBut _ _ D.a3.symm z1))
  have ne:e≠z:=λu=>by subst u;rw[z4] at g1;cases g1;simp at g2
  refine wpAny_setField_rec z4 (by simp) λp5 _ s5=>q p5 e (λc o c1 c2 c3 c4 u=>s5.extBut _ _ c1 (s4 _ _ c4 (s3.extBut _ _ c2 (s2.extBut _ _ c3 (s1.extBut _ _ c1 u))))) ⟨oe,s5.extBut _ _ ne g1,g2⟩
theorem next_item {z ti to j1 j2 m1 m2:Addr} {t1 t2:Nat->Heap->Prop} {v1 v2:Nat->Option Value} {k:Nat} {x y a b:Value} {Q:Option Value->Shared->Prop} (D:Apart z ti to j1 j2 m1 m2) (S1:ko P w A.in1 j1 m1 t1 v1) (S2:ko P w A.in1 j2 m2 t2 v2)
  (gz:IsZip s.heap z ti to .none) (gi:IsPair s.heap ti (.ref j1) (.ref j2)) (go:IsPair s.heap to a b) (h1:t1 k s.heap) (h2:t2 k s.heap) (hx:v1 k=some x) (hy:v2 k=some y)
  (q:∀h',IsZip h' z ti to (rawInt s.heap.objs.size)->IsPair h' to x y->t1 (k+1) h'->t2 (k+1) h'->IsPair h' s.heap.objs.size x y->h'.objs.size=s.heap.objs.size+1 ->
   (∀c o,c≠z->c≠to->c≠j1->c≠j2->s.heap.get? c=some o->h'.get? c=some o)->Q (some (.ref s.heap.objs.size)) { s with heap:=h' }):wpAny (model P w) A (pyNext (.ref z)) Q E s:=by
 have hT:s.TypeIs (.ref z) "zip":=⟨_,gz,rfl⟩
 unfold pyNext
 exact wpAny_bind (wpAny_attempt (wpAny_callSpecial?_slot (name:=Str.ofString "__next__") hT F.slot_zip_next
  (wpAny_call_entry F.slot_zip_next hT F.entry_zip_next (Ks D S1 S2 gz gi go h1 h2 hx hy λh' a1 a2 a3 a4 a5 a6 a7=>wpAny_pure (q h' a1 a2 a3 a4 a5 a6 a7)) (F.args_zip_next_1 _))))
theorem next_end {z ti to j1 j2 m1 m2:Addr} {t1 t2:Nat->Heap->Prop} {v1 v2:Nat->Option Value} {k:Nat} {a b:Value} {Q:Option Value->Shared->Prop} (D:Apart z ti to j1 j2 m1 m2) (S1:ko P w A.in1 j1 m1 t1 v1) (S2:ko P w A.in1 j2 m2 t2 v2)
  (gz:IsZip s.heap z ti to .none) (gi:IsPair s.heap ti (.ref j1) (.ref j2)) (go:IsPair s.heap to a b) (h1:t1 k s.heap) (h2:t2 k s.heap) (yt:v1 k=none\/v2 k=none)
  (q:∀h',(∀c o,c≠z->c≠to->c≠j1->c≠j2->s.heap.get? c=some o->h'.get? c=some o)->Q none { s with heap:=h' }):wpAny (model P w) A (pyNext (.ref z)) Q E s:=by
 have hT:s.TypeIs (.ref z) "zip":=⟨_,gz,rfl⟩
 unfold pyNext
 refine wpAny_bind (wpAny_attempt (wpAny_callSpecial?_slot (name:=Str.ofString "__next__") hT F.slot_zip_next
  (wpAny_call_entry F.slot_zip_next hT F.entry_zip_next (LW D S1 S2 gz gi go h1 h2 yt λh' e hk he=>?_) (F.args_zip_next_1 _))))
 obtain⟨o,ho,hc⟩:=he
 exact wpAny_bind (wpAny_isInstance (T:="StopIteration") (b:=true) ⟨o,ho,hc⟩ isSubtype_stop (wpAny_pure (q _ hk)))
end
end HZ
namespace L2
open PySem PySem.Spec PyProof.Rows
theorem tU {X:Cx} {pins:List (Addr×Obj)} {σ:St} {H:Hp} {s:Shared} {a b:Addr} {xs:List V} (I:Inv X pins σ H s) (h:aR X.K H a xs) (f:fC X pins H b):a≠b:=by
 rintro rfl
 obtain⟨f0,_,_,f3,_⟩:=f
 rcases h with (h | ⟨o,h⟩) | ⟨o,its,n,hk,_⟩
 ·rw[f0] at h;cases h
 ·rw[f0] at h;cases h
 ·have hb:=I.mod.uU a o hk
  rcases f3 with z|z
  ·exact I.ok.mC a o hb z
  ·exact absurd (Nat.lt_of_lt_of_le (Heap.lt_size hb) (Nat.le_trans I.ok.i6 z)) (Nat.lt_irrefl _)
theorem Inv.BN {X:Cx} {pins:List (Addr×Obj)} {σ:St} {H:Hp} {s:Shared} {h':Heap} {t':Nat} {ch:List Addr} (I:Inv X pins σ H s) (k:∀b o,b∉ch->s.heap.get? b=some o->h'.get? b=some o) (hf:∀b∈ch,fC X pins H b) :
  Inv X pins σ H { s with heap:=h',toks:=t' }:=by
 have Gn:∀b u,H b=some u->b∉ch:=λb u e z=>by rw[(hf b z).1] at e;cases e
 refine I.step (g':=s.gens) (d':=s.drawn) (ch:=ch) (λb hb=>?_) (λb o _ _ hc e _=>k b o hc e) (λb o _ _ hc e _=>⟨o.slots,k b o hc e⟩) (λ_ _ _ _ n=>n) (λb o hc e=>⟨o,k b o hc e⟩) (λ_ _ e=>e) (λ_ _ _ e=>e)
  (λb ps e=>⟨#[],by rw[e];simp⟩) (λm hm=>?_) (λb u e=>?_) I.bare
 ·obtain⟨_,f1,_,f3,f4,f5⟩:=hf b hb
  exact⟨f3,f1,f4,f5⟩
 ·obtain⟨o,es,ep,ho,r⟩:=hm
  exact⟨o,es,ep,k _ o (λz=>(hf _ z).2.1 rfl) ho,r⟩
 ·refine(I.aH b u e).fR (λc v hc q=>k c v ?_ q) (λ_ q=>q) λ_ _ q=>q
  rcases hc with z|z
  ·rw[z];exact Gn b u e
  ·exact Gn c _ z
theorem Inv.Jp {X:Cx} {pins:List (Addr×Obj)} {σ:St} {H:Hp} {s:Shared} {h':Heap} {t':Nat} {ch:List Addr} {p:Addr} {u:HO} (I:Inv X pins σ H s) (k:∀b o,b∉ch->s.heap.get? b=some o->h'.get? b=some o) (hf:∀b∈ch,fC X pins H b)
  (hp:s.heap.objs.size<=p) (new:cQ X.prog X.w (upd H p u) h' p u):Inv X pins σ (upd H p u) { s with heap:=h',toks:=t' }:=by
 have hn:H p=none:=I.aH.fresh hp
 have aH:bX X.prog X.w (upd H p u) h':=(I.BN (t':=t') k hf).aH.adopt hn new
 refine I.step (g':=s.gens) (d':=s.drawn) (ch:=ch) (λb hb=>?_) (λb o _ _ hc e _=>k b o hc e) (λb o _ _ hc e _=>⟨o.slots,k b o hc e⟩) (λb o _ e n=>?_) (λb o hc e=>⟨o,k b o hc e⟩) (λc xs e=>by rw[bt (dD e hn)];exact e) (λc o v e=>by rw[bt (dD e hn)];exact e)
  (λc ps e=>⟨#[],by rw[bt (dD e hn),e];simp⟩) (λm hm=>?_) aH I.bare
 ·obtain⟨_,f1,_,f3,f4,f5⟩:=hf b hb
  exact⟨f3,f1,f4,f5⟩
 ·rw[bt (Nat.ne_of_lt (Nat.lt_of_lt_of_le (Heap.lt_size e) hp))]
  exact n
 ·obtain⟨o,es,ep,ho,r⟩:=hm
  exact⟨o,es,ep,k _ o (λz=>(hf _ z).2.1 rfl) ho,r⟩
noncomputable def yu (K:Frag) (a b:Addr):It :=
 ⟨λi H=>∃xs ys x y,aR K H a xs/\aR K H b ys/\xs[i]?=some x/\ys[i]?=some y,λi H v H'=>∃p x y,H p=none/\v=.ref p/\H'=upd H p (.tup [x,y])/\∀xs ys,aR K H a xs->aR K H b ys->xs[i]?=some x/\ys[i]?=some y,
  λi H=>∃xs ys,aR K H a xs/\aR K H b ys/\(xs.length<=i\/ys.length<=i)⟩
structure OV (it:Nat->Heap->Prop) (ij:Nat->Heap->Prop) (z ti to j1 j2:Addr) (i:Nat) (h:Heap):Prop where
 z:IsZip h z ti to .none
 ti:IsPair h ti (.ref j1) (.ref j2)
 to:∃u v,IsPair h to u v
 h1:it i h
 h2:ij i h
structure FK (z ti to j1 j2:Addr):Prop where
 a1:ti≠z
 a2:to≠z
 a3:j1≠z
 a4:j2≠z
 a5:ti≠to
 a6:ti≠j1
 a7:ti≠j2
 a8:to≠j1
 a9:to≠j2
 b0:j1≠j2
theorem Jq {P:Program} {w:World} {K:Frag} {elts:List Expr} {kk:Nat} {pos:Pos} (a b z ti to j1 j2:Addr) (F:FK z ti to j1 j2) :
  Turn P w K (.Tuple elts kk pos) (yu K a b) [z,ti,to,j1,j2] z (OV (λi h=>h.IsTupleIter j1 a i) (λi h=>h.IsTupleIter j2 b i) z ti to j1 j2) where
 mem:=by simp
 obj:=λi h st c hc=>by
  have jD:c=z\/c=ti\/c=to\/c=j1\/c=j2:=by simpa using hc
  rcases jD with rfl|rfl|rfl|rfl|rfl
  ·exact⟨_,st.z,λv q=>nomatch q⟩
  ·exact⟨_,st.ti,λv q=>nomatch q⟩
  ·obtain⟨u,v,q⟩:=st.to;exact⟨_,q,λv q=>nomatch q⟩
  ·obtain⟨o,e,_,d⟩:=st.h1;exact⟨o,e,λv q=>by rw[d] at q;cases q⟩
  ·obtain⟨o,e,_,d⟩:=st.h2;exact⟨o,e,λv q=>by rw[d] at q;cases q⟩
 keep:=λi h h' st k=>⟨k z (by simp) _ st.z,k ti (by simp) _ st.ti,by obtain⟨u,v,q⟩:=st.to;exact⟨u,v,k to (by simp) _ q⟩,st.h1.at λo e=>k j1 (by simp) o e,st.h2.at λo e=>k j2 (by simp) o e⟩
 item:=by
  intro X hP hw hK hc i pins s σ H E I hf st hg
  subst hP hw hK
  obtain⟨xs,ys,x,y,hx,hy,ex,ey⟩:=hg
  obtain⟨i1,r1,p1,z1⟩:=I.tuple hx
  obtain⟨i2,r2,p2,z2⟩:=I.tuple hy
  obtain⟨u,eu,ru⟩:=r1.get ex
  obtain⟨v,ev,rv⟩:=r2.get ey
  have ne:∀c∈[z,ti,to,j1,j2],a≠c/\b≠c:=λc lu=>⟨tU I hx (hf c lu),tU I hy (hf c lu)⟩
  have D:HZ.Apart z ti to j1 j2 a b:=⟨F.a1,F.a2,F.a3,F.a4,F.a5,F.a6,F.a7,F.a8,F.a9,F.b0,(ne z (by simp)).1,(ne to (by simp)).1,(ne j1 (by simp)).1,(ne j2 (by simp)).1,(ne z (by simp)).2,(ne to (by simp)).2,(ne j1 (by simp)).2,(ne j2 (by simp)).2⟩
  obtain⟨w1,w2,u4⟩:=st.to
  have hh:X.A.in1.handled=none:=I.ok.hd hc
  refine HZ.next_item D (HZ.s9 hh j1 a i1.toArray) (HZ.s9 hh j2 b i2.toArray) st.z st.ti u4 ⟨st.h1,p1⟩ ⟨st.h2,p2⟩ (by simpa using eu) (by simpa using ev) λh' c1 c2 c3 c4 c5 c6 c7=>⟨_,rfl,?_⟩
  refine wpAny_letOwnedTupleGo_zip c1 λh2 d1 d2=>?_
  have hn:H s.heap.objs.size=none:=I.aH.fresh (Nat.le_refl _)
  have Q7:z<s.heap.objs.size:=Heap.lt_size st.z
  have oE:IsTup h2 s.heap.objs.size #[u,v]:=⟨_,d2.extBut _ _ (Nat.ne_of_gt Q7) c5,rfl,_,rfl⟩
  have I2:Inv X pins σ (upd H s.heap.objs.size (.tup [x,y])) { s with heap:=h2,toks:=s.toks }:=I.Jp (ch:=[z,ti,to,j1,j2]) (λc o zi e=>by
   have q:c≠z/\c≠ti/\c≠to/\c≠j1/\c≠j2:=by simpa using zi
   exact d2.extBut c o q.1 (c7 c o q.1 q.2.2.1 q.2.2.2.1 q.2.2.2.2 e)) hf (Nat.le_refl _) ⟨by show 2<=sizeLine;decide,[u,v],.cons ru (.cons rv .nil),oE⟩
  refine⟨.ref s.heap.objs.size,_,I2,rfl,⟨_,x,y,hn,rfl,rfl,λTn To q1 q2=>?_⟩,?_,λc lu=>?_⟩
  ·rw[I.vK q1 hx,I.vK q2 hy];exact⟨ex,ey⟩
  ·refine⟨d1,d2.extBut _ _ F.a1 (c7 _ _ F.a1 F.a5 F.a6 F.a7 st.ti),⟨_,_,d2.extBut _ _ F.a2 c2⟩,c3.1.extBut d2.extBut F.a3,c4.1.extBut d2.extBut F.a4⟩
  ·rw[bt]
   ·exact(hf c lu).1
   ·intro e
    obtain⟨o,eo⟩:∃o,s.heap.get? c=some o:=by
     have jD:c=z\/c=ti\/c=to\/c=j1\/c=j2:=by simpa using lu
     rcases jD with q|q|q|q|q
     ·rw[q];exact⟨_,st.z⟩
     ·rw[q];exact⟨_,st.ti⟩
     ·rw[q];exact⟨_,u4⟩
     ·rw[q];obtain⟨o,e,_⟩:=st.h1;exact⟨o,e⟩
     ·rw[q];obtain⟨o,e,_⟩:=st.h2;exact⟨o,e⟩
    exact absurd (Heap.lt_size eo) (by rw[e];exact Nat.lt_irrefl _)
 done:=by
  intro X hP hw hK hc i pins s σ H E I hf st hg
  subst hP hw hK
  obtain⟨xs,ys,hx,hy,hle⟩:=hg
  obtain⟨i1,r1,p1,z1⟩:=I.tuple hx
  obtain⟨i2,r2,p2,z2⟩:=I.tuple hy
  have ne:∀c∈[z,ti,to,j1,j2],a≠c/\b≠c:=λc lu=>⟨tU I hx (hf c lu),tU I hy (hf c lu)⟩
  have D:HZ.Apart z ti to j1 j2 a b:=⟨F.a1,F.a2,F.a3,F.a4,F.a5,F.a6,F.a7,F.a8,F.a9,F.b0,(ne z (by simp)).1,(ne to (by simp)).1,(ne j1 (by simp)).1,(ne j2 (by simp)).1,(ne z (by simp)).2,(ne to (by simp)).2,(ne j1 (by simp)).2,(ne j2 (by simp)).2⟩
  obtain⟨w1,w2,u4⟩:=st.to
  have hh:X.A.in1.handled=none:=I.ok.hd hc
  have l1:=r1.length
  have l2:=r2.length
  refine HZ.next_end D (HZ.s9 hh j1 a i1.toArray) (HZ.s9 hh j2 b i2.toArray) st.z st.ti u4 ⟨st.h1,p1⟩ ⟨st.h2,p2⟩ ?_ λh' c7=>⟨rfl,I.BN (t':=s.toks) (ch:=[z,ti,to,j1,j2]) (λc o zi e=>by
   have q:c≠z/\c≠ti/\c≠to/\c≠j1/\c≠j2:=by simpa using zi
   exact c7 c o q.1 q.2.2.1 q.2.2.2.1 q.2.2.2.2 e) hf⟩
  rcases hle with q|q
  ·left;simp;omega
  ·right;simp;omega
 self:=λA i s Q E st h=>wpAny_pyIter_zip st.z h
end L2
namespace HZ
open PySem PySem.Spec PyProof.Rows
noncomputable abbrev y1 (h:Heap) (m1:Addr):Heap:=h.push { cls:=.type "tuple_iterator",data:=.fields #[.ref m1,.int 0 0] }
noncomputable abbrev y2 (h:Heap) (m1 m2:Addr):Heap:=(y1 h m1).push { cls:=.type "tuple_iterator",data:=.fields #[.ref m2,.int 0 0] }
noncomputable abbrev y3 (h:Heap) (m1 m2:Addr):Heap:=(y2 h m1 m2).push { cls:=.type "tuple",data:=.seq #[.ref h.objs.size,.ref (y1 h m1).objs.size] }
noncomputable abbrev y4 (h:Heap) (m1 m2:Addr):Heap:=(y3 h m1 m2).push { cls:=.type "tuple",data:=.seq #[.none,.none] }
noncomputable abbrev y5 (h:Heap) (m1 m2:Addr):Heap:=(y4 h m1 m2).push { cls:=.type "zip",data:=.fields #[.none,.bool false,.bool false,.ref (y2 h m1 m2).objs.size,.ref (y3 h m1 m2).objs.size] }
theorem Iz (m1 m2:Addr) (xs ys:Array Value) :
  Meets (Builtin.«zip.__new__» ⟨[.type "zip",.ref m1,.ref m2],[]⟩) (λ_ R s=>s.heap.IsTuple m1 xs/\s.heap.IsTuple m2 ys/\R (.ok (.ret (.ref (y4 s.heap m1 m2).objs.size))) { s with heap:=y5 s.heap m1 m2 }) :=
 .of_wp λprog w A R s h=>by
  obtain⟨hp,g,d,tk,os⟩:=s;obtain⟨h1,h2,h⟩:=h
  have S9:=sub_zip
  have L1:Heap.IsTuple (Shared.heap ⟨hp,g,d,tk,os⟩) m1 xs:=h1
  have L2:Heap.IsTuple (Shared.heap ⟨hp.push { cls:=.type "tuple_iterator",data:=.fields #[.ref m1,.int 0 0] },g,d,tk,os⟩) m2 ys:=Heap.IsTuple.push h2 _
  wp_walk using wpAny_pyIter_tuple L1,wpAny_pyIter_tuple L2
  exact⟨_,rfl,h⟩
section
variable {P:Program} {w:World} {A:Around} {E:Value->Shared->Prop} {s:Shared}
theorem Hk {m1 m2:Addr} {xs ys:Array Value} {Q:Value->Shared->Prop} (h1:s.heap.IsTuple m1 xs) (h2:s.heap.IsTuple m2 ys)
  (h:∀h',IsZip h' (s.heap.objs.size+4) (s.heap.objs.size+2) (s.heap.objs.size+3) .none->IsPair h' (s.heap.objs.size+2) (.ref s.heap.objs.size) (.ref (s.heap.objs.size+1)) ->
   IsPair h' (s.heap.objs.size+3) .none .none->h'.IsTupleIter s.heap.objs.size m1 0->h'.IsTupleIter (s.heap.objs.size+1) m2 0->h'.objs.size=s.heap.objs.size+5 ->
   (∀c o,s.heap.get? c=some o->h'.get? c=some o)->Q (.ref (s.heap.objs.size+4)) { s with heap:=h' }):wpAny (model P w) A (call (.type "zip") [.ref m1,.ref m2]) Q E s:=by
 refine callType_new F.called_zip (by decide) (F.typeCall_zip_2 _ _) (F.newCall_zip_2 _ _) (λobj=>F.args_object_init_3 obj _ _) F.entry_zip_new (Iz m1 m2 xs ys) ⟨h1,h2,?_⟩
 have e1:(y1 s.heap m1).objs.size=s.heap.objs.size+1:=Heap.size_push ..
 have e2:(y2 s.heap m1 m2).objs.size=s.heap.objs.size+2:=by rw[Heap.size_push,e1]
 have e3:(y3 s.heap m1 m2).objs.size=s.heap.objs.size+3:=by rw[Heap.size_push,e2]
 have e4:(y4 s.heap m1 m2).objs.size=s.heap.objs.size+4:=by rw[Heap.size_push,e3]
 have e5:(y5 s.heap m1 m2).objs.size=s.heap.objs.size+5:=by rw[Heap.size_push,e4]
 have g5:(y5 s.heap m1 m2).get? (y4 s.heap m1 m2).objs.size=some _:=Heap.get?_push_size _ rfl
 have g4:(y5 s.heap m1 m2).get? (y3 s.heap m1 m2).objs.size=some _:=Heap.get?_push_of_some _ (Heap.get?_push_size _ rfl)
 have g3:(y5 s.heap m1 m2).get? (y2 s.heap m1 m2).objs.size=some _:=Heap.get?_push_of_some _ (Heap.get?_push_of_some _ (Heap.get?_push_size _ rfl))
 have g2:(y5 s.heap m1 m2).get? (y1 s.heap m1).objs.size=some _:=Heap.get?_push_of_some _ (Heap.get?_push_of_some _ (Heap.get?_push_of_some _ (Heap.get?_push_size _ rfl)))
 have g1:(y5 s.heap m1 m2).get? s.heap.objs.size=some _:=Heap.get?_push_of_some _ (Heap.get?_push_of_some _ (Heap.get?_push_of_some _ (Heap.get?_push_of_some _ (Heap.get?_push_size _ rfl))))
 show _/\_
 rw[e2,e3,e4] at g5
 rw[e1,e2] at g3
 rw[e3] at g4
 rw[e1] at g2
 rw[e4]
 exact⟨⟨_,g5,rfl⟩,h _ g5 g3 g4 ⟨_,g1,rfl,rfl⟩ ⟨_,g2,rfl,rfl⟩ e5 λc o q=>Heap.get?_push_of_some _ (Heap.get?_push_of_some _ (Heap.get?_push_of_some _ (Heap.get?_push_of_some _ (Heap.get?_push_of_some _ q))))⟩
end
end HZ
namespace L2
open PySem PySem.Spec PyProof.Rows
theorem Kt (n:Nat):FK (n+4) (n+2) (n+3) n (n+1):=by constructor<;>(show (_:Nat)≠_)<;>omega
section
variable {X:Cx} {elts:List Expr} {kk:Nat} {tp:Pos}
noncomputable def OW (K:Frag) (ta:TA):TI:=fun σ H R=>ta σ H λvs H1=>∃a b xs ys,vs=[.ref a,.ref b]/\aR K H1 a xs/\aR K H1 b ys/\R (yu K a b) H1
theorem Jr:bootBuiltins "zip"=some (.type "zip"):=by decide +kernel
theorem NB {pins:List (Addr×Obj)} {σ:St} {H:Hp} {s:Shared} (I:Inv X pins σ H s):∀b∈[s.heap.objs.size+4,s.heap.objs.size+2,s.heap.objs.size+3,s.heap.objs.size,s.heap.objs.size+1],fC X pins H b:=λb hb=>by
 have fK:s.heap.objs.size<=b:=by
  have q:b=s.heap.objs.size+4\/b=s.heap.objs.size+2\/b=s.heap.objs.size+3\/b=s.heap.objs.size\/b=s.heap.objs.size+1:=by simpa using hb
  omega
 exact I.oz fK (I.aH.fresh fK)
theorem LX {a b:Expr} {ta:TA} {p pos:Pos} (hg:Gl X "zip") (hm:X.mg "zip"=none) (ha:PA X [a,b] ta) (hs:starEach [a,b] X.env=[(false,eval a X.env),(false,eval b X.env)]:=by rfl) (dw:starEach [b] X.env=[(false,eval b X.env)]:=by rfl) :
  PI X (.Tuple elts kk tp) (.Call (.Name "zip" p) [a,b] [] pos) (OW X.K ta):=by
 intro pins s σ H R I h
 refine Call_ (kK I hg hm Jr (PyProof.Rows.callWith_type1 (aJ (ha pos pins s σ H _ I h) λus s1 ⟨vs,H1,I1,r1,q1⟩=>?_) (by rw[hs,dw]) (by rw[dw];rfl)))
 obtain⟨a,b,xs,ys,e,hx,hy,q⟩:=q1
 subst e
 obtain⟨u,v,rfl,ru,rv⟩:=vals2 r1
 cases ru
 cases rv
 obtain⟨i1,_,p1,_⟩:=I1.tuple hx
 obtain⟨i2,_,p2,_⟩:=I1.tuple hy
 refine HZ.Hk (xs:=i1.toArray) (ys:=i2.toArray) p1 p2 λh' c1 c2 c3 c4 c5 c6 c7=>?_
 refine wpAny_pyIter_zip (s:={ s1 with heap:=h' }) c1 ?_
 exact⟨_,[s1.heap.objs.size+4,s1.heap.objs.size+2,s1.heap.objs.size+3,s1.heap.objs.size,s1.heap.objs.size+1],_,_,H1,rfl,I1.kept (t':=s1.toks) c7,Jq a b _ _ _ _ _ (Kt _),⟨c1,c2,⟨_,_,c3⟩,c4,c5⟩,NB I1,q⟩
end
end L2
namespace PySem
section
variable {P:Program} {w:World} {A:Around} {E:Value->Shared->Prop} {s:Shared}
end
end PySem
namespace L2
open PySem PySem.Spec PyProof.Rows
theorem map_getD (ns:List Int):(List.range ns.length).map (λi=>ns.getD i 0)=ns:=by
 apply List.ext_getElem?
 intro i
 rw[List.getElem?_map]
 by_cases h:i<ns.length
 ·rw[List.getElem?_range h,List.getElem?_eq_getElem h]
  simp[List.getD,List.getElem?_eq_getElem h]
 ·rw[List.getElem?_eq_none (by simpa using h),List.getElem?_eq_none (by omega)]
  rfl
section
variable {X:Cx}
end
end L2
namespace L2
open PySem PySem.Spec PyProof.Rows
section
variable {κ:Type} [DecidableEq κ]
end
section
variable {P:Program} {w:World} {H:Hp} {h:Heap} {a:Addr}
end
section
variable {X:Cx} {pins:List (Addr×Obj)} {σ:St} {H:Hp} {s:Shared} {a:Addr} {y v:V} {u r:Value} {o:Option V} {A:Around} {E:Value->Shared->Prop}
theorem Inv.big (I:Inv X pins σ H s):sysModules<s.heap.objs.size:=by
 have h:mainGlobals<s.heap.objs.size:=(I.mod.glob.keeps I.bk).lt
 exact Nat.lt_trans (by decide) h
theorem LY {h':Heap} {t':Nat} {ob:HO} (I:Inv X pins σ H s) (mu:qH (H a)) (hs:Heap.SameBut a s.heap h') (he:∃q,h'.get? a=some q) (new:cQ X.prog X.w (upd H a ob) h' a ob) :
  Inv X pins σ (upd H a ob) { s with heap:=h',toks:=t' } :=
 I.write (x:=a) (e:=a) mu (.inl rfl) (λb q hb z=>(hs.2 b hb).trans z) he new
end
section
variable {X:Cx} {pins:List (Addr×Obj)} {σ:St} {H:Hp} {s:Shared} {a:Addr} {ak:List (Key×V)} {k:Key} {u:Value} {A:Around} {E:Value->Shared->Prop}
end
section
variable {X:Cx} {o i e value:Expr} {pos pos' ym:Pos} {td ty tv:TE}
end
section
variable {X:Cx} {pos:Pos}
end
structure M1 (X:Cx) (o:Expr) (m:Str) (apos:Pos) (e:Expr) (cY:Pos):Prop where
 base:attributeBase o m X.env (eval o X.env)=eval o X.env
 lA:((backTo cY (starEach [e] X.env)).all (λx=>!x.1)&&(backToKw cY (keywordEach [] X.env)).all (λx=>x.1.isSome)
  && decide (([e]:List Expr).length+([]:List Keyword).length+(if ([]:List Keyword).isEmpty then 0 else 1)<30))=true
 line:(apos.endLine==cY.line)=true
 trees:backTo cY (starEach [e] X.env)=[(false,eval e X.env)]
structure M2 (X:Cx) (o:Expr) (m:Str) (apos:Pos) (e f:Expr) (cY:Pos):Prop where
 base:attributeBase o m X.env (eval o X.env)=eval o X.env
 lA:((backTo cY (starEach [e,f] X.env)).all (λx=>!x.1)&&(backToKw cY (keywordEach [] X.env)).all (λx=>x.1.isSome)
  && decide (([e,f]:List Expr).length+([]:List Keyword).length+(if ([]:List Keyword).isEmpty then 0 else 1)<30))=true
 line:(apos.endLine==cY.line)=true
 trees:backTo cY (starEach [e,f] X.env)=[(false,eval e X.env),(false,eval f X.env)]
section
variable {X:Cx} {pins:List (Addr×Obj)} {σ:St} {H:Hp} {s:Shared} {a:Addr} {y d:V} {u r:Value} {o:Option V} {A:Around} {E:Value->Shared->Prop}
end
section
variable {X:Cx} {o e f:Expr} {apos cY:Pos} {td ty tx:TE}
end
section
variable {X:Cx} {pins:List (Addr×Obj)} {σ:St} {H:Hp} {s:Shared} {a:Addr} {ak:List (Key×V)} {A:Around} {E:Value->Shared->Prop}
end
section
variable {X:Cx} {pins:List (Addr×Obj)} {σ:St} {H:Hp} {s:Shared} {a:Addr} {y:V} {u:Value} {A:Around} {E:Value->Shared->Prop}
end
end L2
namespace L2
open PySem PySem.Spec PyProof.Rows
section
variable {K:Frag} {caps:St} {H:Hp} {tf:TT} {te:TE} {Q:VK}
end
noncomputable def Ea (sc:Scope) (on:List (Str×NameKind)) (oN N:List Str) (nt:Nat) (cap:List Nat):Bool :=
 decide (sc.kind=.function)&&sc.names.all (λx=>decide (x.2≠.cell))&&sc.names.all (λx=>decide (x.2=.local->sc.names.lookup x.1=some .local)) &&
 sc.names.all (λx=>decide (x.2=.free->sc.names.lookup x.1=some .free/\(on.lookup x.1=some .cell\/on.lookup x.1=some .free)))&&decide (N.length=nt+cap.length) &&
 (List.range cap.length).all (λk=>match cap[k]? with
  |some j=>match oN[j]? with
   |some x=>decide (N[nt+k]?=some x)&&decide ((x,NameKind.free)∈sc.names)
   |none=>false
  |none=>true)
theorem EX {X:Cx} {sc:Scope} {N:List Str} {nt:Nat} {cap:List Nat} (h:Ea sc X.env.scope.names X.N N nt cap=true):pT X sc N nt cap:=by
 unfold Ea at h
 simp only[Bool.and_eq_true,List.all_eq_true,decide_eq_true_eq] at h
 obtain⟨⟨⟨⟨⟨h1,h2⟩,h3⟩,h4⟩,h5⟩,h6⟩:=h
 refine⟨h1,h2,h3,λx hx e=>h4 x hx e,h5,λk j e=>?_⟩
 have hk:k<cap.length:=(List.getElem?_eq_some_iff.mp e).1
 have:=h6 k (List.mem_range.mpr hk)
 rw[e] at this
 dsimp only at this
 cases ex:X.N[j]? with
 |none=>rw[ex] at this;cases this
 |some x =>
  rw[ex] at this
  simp only[Bool.and_eq_true,decide_eq_true_eq] at this
  exact⟨x,rfl,this.1,this.2⟩
end L2
namespace TS
open PySem
abbrev iZ (l:List Nat):Prop:=l.Pairwise (· < ·)
theorem Ku (xs:Array Nat) (k d:Nat):xs.getD k d=xs.toList.getD k d:=by
 cases xs with
 |mk l =>
  by_cases h:k<l.length
  ·simp[Array.getD,List.getD,h]
  ·simp[Array.getD,List.getD,h]
theorem tj {l:List Nat} (h:iZ l) {a b:Nat} (rg:a<b) (hb:b<l.length):l.getD a 0<l.getD b 0:=by
 have:=List.pairwise_iff_getElem.mp h a b (by omega) hb rg
 simpa [List.getD,List.getElem?_eq_getElem hb,List.getElem?_eq_getElem (show a<l.length by omega)] using this
theorem Kv (l:List Nat) {k:Nat} (hk:k<l.length) (d e:Nat):l.getD k d=l.getD k e:=by
 simp[List.getD,List.getElem?_eq_getElem hk]
theorem wI (xs:Array Nat) (j:Nat) (hr:iZ xs.toList):∀(fuel lo hi:Nat),hi-lo<=fuel->lo<=hi->hi<=xs.toList.length->(∀k,k<lo->xs.toList.getD k 0<j)->(∀k,hi<=k->k<xs.toList.length->j<=xs.toList.getD k 0) ->
  SetTable.below.go xs j fuel lo hi<=xs.toList.length/\(∀k,k<SetTable.below.go xs j fuel lo hi->xs.toList.getD k 0<j)/\(∀k,SetTable.below.go xs j fuel lo hi<=k->k<xs.toList.length->j<=xs.toList.getD k 0)
 |0,lo,hi,hf,hl,hh,h1,h2=>by
  have e:lo=hi:=by omega
  subst e
  exact⟨hh,h1,h2⟩
 |fuel+1,lo,hi,hf,hl,hh,h1,h2=>by
  unfold SetTable.below.go
  by_cases bg:lo<hi
  ·rw[if_pos bg]
   dsimp only
   have hm:(lo+hi) / 2<xs.toList.length:=by omega
   rw[Ku,Kv _ hm j 0]
   by_cases hc:xs.toList.getD ((lo+hi) / 2) 0<j
   ·rw[if_pos hc]
    refine wI xs j hr fuel _ _ (by omega) (by omega) hh (λk hk=>?_) h2
    by_cases lB:k=(lo+hi) / 2
    ·rw[lB];exact hc
    ·exact Nat.lt_trans (tj hr (by omega) hm) hc
   ·rw[if_neg hc]
    refine wI xs j hr fuel _ _ (by omega) (by omega) (by omega) h1 (λk hk lB=>?_)
    by_cases lC:k=(lo+hi) / 2
    ·rw[lC];omega
    ·have:=tj hr (show (lo+hi) / 2<k by omega) lB
     omega
  ·rw[if_neg bg]
   have e:lo=hi:=by omega
   subst e
   exact⟨hh,h1,h2⟩
theorem Bn (xs:Array Nat) (j:Nat) (hr:iZ xs.toList):SetTable.below xs j<=xs.toList.length/\(∀k,k<SetTable.below xs j->xs.toList.getD k 0<j)/\(∀k,SetTable.below xs j<=k->k<xs.toList.length->j<=xs.toList.getD k 0):=by
 unfold SetTable.below
 exact wI xs j hr xs.size 0 xs.size (by omega) (Nat.zero_le _) (by simp) (λk hk=>by omega) (λk hk lB=>by simp at lB;omega)
theorem HS {l:List Nat} {p j:Nat} (h:∀k,k<p->l.getD k 0<j):∀x∈l.take p,x<j:=by
 intro x hx
 obtain⟨k,hk,e⟩:=List.getElem_of_mem hx
 have rj:k<p/\k<l.length:=by rw[List.length_take] at hk;omega
 have:=h k rj.1
 rw[List.getElem_take] at e
 rw[<- e]
 simpa [List.getD,List.getElem?_eq_getElem rj.2] using this
theorem HU {l:List Nat} {p j:Nat} (h:∀k,p<=k->k<l.length->j<=l.getD k 0):∀x∈l.drop p,j<=x:=by
 intro x hx
 obtain⟨k,hk,e⟩:=List.getElem_of_mem hx
 have rj:p+k<l.length:=by rw[List.length_drop] at hk;omega
 have:=h (p+k) (by omega) rj
 rw[List.getElem_drop] at e
 rw[<- e]
 simpa [List.getD,List.getElem?_eq_getElem rj] using this
theorem Kw {xs:Array Nat} {j:Nat} (hr:iZ xs.toList) (hn:xs[SetTable.below xs j]?≠some j):iZ (SetTable.insertAt xs (SetTable.below xs j) j).toList:=by
 obtain⟨h0,h1,h2⟩:=Bn xs j hr
 rw[SetTable.toList_insertAt]
 have a1:=HS h1
 have a2:∀x∈xs.toList.drop (SetTable.below xs j),j<x:=by
  intro x hx
  have u5:=HU h2
  have hd:iZ (xs.toList.drop (SetTable.below xs j)):=List.Pairwise.sublist (List.drop_sublist _ _) hr
  cases hc:xs.toList.drop (SetTable.below xs j) with
  |nil=>rw[hc] at hx;cases hx
  |cons y r =>
   rw[hc] at hd hx u5
   have hy:j≠y:=by
    intro e
    apply hn
    have:(xs.toList.drop (SetTable.below xs j))[0]?=some y:=by rw[hc];rfl
    rw[List.getElem?_drop] at this
    have e2:xs.toList[SetTable.below xs j]?=some y:=by simpa using this
    rw[<- Array.getElem?_toList,e2,e]
   have Gp:j<y:=Nat.lt_of_le_of_ne (u5 y List.mem_cons_self) hy
   rcases List.mem_cons.mp hx with e|hx
   ·rw[e];exact Gp
   ·exact Nat.lt_trans Gp ((List.pairwise_cons.mp hd).1 x hx)
 first
  |(refine List.pairwise_append.mpr ⟨List.Pairwise.sublist (List.take_sublist _ _) hr,List.pairwise_cons.mpr ⟨a2,List.Pairwise.sublist (List.drop_sublist _ _) hr⟩,λx hx y hy=>?_⟩
    rcases List.mem_cons.mp hy with e|hy
    ·rw[e];exact a1 x hx
    ·exact Nat.lt_trans (a1 x hx) (a2 y hy))
  |trace_state
theorem wJ (t:SetTable) (h:Int):∀(fuel:Nat) (p:SetTable.Probe) (j:Nat) (dm:Option Nat),(∀d,p.dummy=some d->t.slot d=.dummy)->SetTable.probe.go t (λ_=>h+1) h fuel p=some (.empty j dm)->t.slot j=.empty/\∀d,dm=some d->t.slot d=.dummy
 |0,p,j,dm,hp,e=>by simp[SetTable.probe.go] at e
 |fuel+1,p,j,dm,hp,e=>by
  unfold SetTable.probe.go at e
  cases hs:t.slot p.j with
  |empty =>
   rw[hs] at e
   simp at e
   rw[<- e.1,<- e.2]
   exact⟨hs,hp⟩
  |dummy =>
   rw[hs] at e
   refine wJ t h fuel _ j dm (λd hd=>?_) e
   unfold SetTable.advance at hd
   split at hd
   ·simp at hd;rw[<- hd];exact hs
   ·simp at hd;rw[<- hd];exact hs
  |live i =>
   rw[hs] at e
   have gv:(h+1==h)=false:=by simp;omega
   simp only[gv,Bool.false_eq_true,if_false] at e
   refine wJ t h fuel _ j dm (λd hd=>?_) e
   unfold SetTable.advance at hd
   split at hd
   ·exact hp d hd
   ·exact hp d hd
theorem BO {t:SetTable} {j:Nat} (h:t.slot j=.empty\/t.slot j=.dummy):t.place[SetTable.below t.place j]?≠some j:=by
 intro e
 have:t.slot j=.live (SetTable.below t.place j):=by
  unfold SetTable.slot
  simp[e]
 rw[this] at h
 rcases h with h|h<;>cases h
theorem Js {t:SetTable} {h:Int} {j:Nat} {b:Bool} (e:t.freeSlot h=some (j,b)):t.place[SetTable.below t.place j]?≠some j:=by
 unfold SetTable.freeSlot SetTable.probe at e
 split at e
 ·rename_i j' dm hg
  have k:=wJ t h _ _ j' dm (λd hd=>by simp[SetTable.probeStart] at hd) hg
  simp at e
  rw[<- e.1]
  cases dm with
  |none=>exact BO (.inl k.1)
  |some d=>exact BO (.inr (k.2 d rfl))
 ·cases e
structure gF (led:Bool) (t:SetTable):Prop where
 led:t.led=led
 rise:t.plain=true->iZ t.place.toList
theorem si {led:Bool} {t:SetTable} (h:gF led t) (n:Nat):gF led (t.standIn n):=⟨h.led,λz=>by simp[SetTable.standIn] at z⟩
theorem IA {led:Bool} {t:SetTable} (h:gF led t) (es:Array (Int×Value)) (hs:Int) (x:Value):gF led (layNew t es hs x).2.1:=by
 unfold layNew
 split
 ·rename_i slot wd e
  dsimp only
  unfold SetTable.orStandIn
  have hp:gF led (t.put slot).1:=⟨h.led,λz=>Kw (h.rise z) (Js e)⟩
  split
  ·exact hp
  ·exact si hp _
 ·exact si h _
theorem Kx {mask finger moves:Nat} {led plain:Bool} {hs:Array Int} {t:SetTable} {o:Array Nat} (e:SetTable.laid mask finger moves led plain hs=some (t,o)):gF led t/\t.plain=plain:=by
 unfold SetTable.laid at e
 cases hl:SetTable.layClean mask hs with
 |none=>rw[hl] at e;simp at e
 |some owner =>
  rw[hl] at e
  simp at e
  obtain⟨e1,e2⟩:=e
  subst e1
  refine⟨⟨rfl,λ_=>?_⟩,rfl⟩
  show iZ (List.toArray _).toList
  simp only[List.map_filterMap]
  refine List.pairwise_filterMap.mpr ?_
  refine List.Pairwise.imp (R:=(· < ·)) ?_ (List.pairwise_lt_range)
  intro a b rg x hx y hy
  cases ha:(owner[a]?.getD none) with
  |none=>rw[ha] at hx;simp at hx
  |some q =>
   cases hb:(owner[b]?.getD none) with
   |none=>rw[hb] at hy;simp at hy
   |some r =>
    rw[ha] at hx;rw[hb] at hy
    simp at hx hy
    omega
theorem Jt {led:Bool} {t:SetTable} (h:gF led t) (es:Array (Int×Value)) (n:Nat):gF led (relayAll t es n).2.1:=by
 unfold relayAll
 split
 ·rename_i t' o e
  dsimp only
  split
  ·unfold SetTable.relaid at e
   have k:=Kx e
   exact⟨k.1.led.trans h.led,k.1.rise⟩
  ·exact si h _
 ·exact si h _
theorem Ju (led:Bool):gF led (.fresh 0 0 led):=⟨rfl,λ_=>List.Pairwise.nil⟩
end TS
namespace TS
open PySem PySem.Spec PyProof.Rows
section
variable {P:Program} {w:World} {A:Around} {E:Value->Shared->Prop} {s:Shared} {led:Bool}
def fE (P:Program) (w:World) (led:Bool) (h:Heap) (a:Addr) (S:Int->Bool) (n:Nat):Prop :=
 ∃o es ep t,h.get? a=some o/\o.ExactSet/\o.data=.set es ep t/\ElemsOf (intKind P w) es.toList/\(∀k,S k=true↔∃e∈es.toList,(intKind P w).is k e.2=true)/\es.size<scanBound/\t.fits es.size=true/\es.size=n/\gF led t
theorem fE.at {h h':Heap} {a:Addr} {S:Int->Bool} {n:Nat} (x:fE P w led h a S n) (k:∀o,h.get? a=some o->h'.get? a=some o):fE P w led h' a S n:=by
 obtain⟨o,es,ep,t,ho,r⟩:=x
 exact⟨o,es,ep,t,k o ho,r⟩
theorem fE.congr {h:Heap} {a:Addr} {S S':Int->Bool} {n n':Nat} (x:fE P w led h a S n) (e:∀k,S k=S' k) (en:n=n'):fE P w led h a S' n':=by
 obtain rfl:S=S':=funext e
 subst en;exact x
theorem wK {a:Addr} {u:Obj} {es ff:Array (Int×Value)} {ep:Nat} {t t':SetTable} {h:Heap} (hu:h.get? a=some u) (hx:u.ExactSet) (hd:u.data=.set es ep t) {S:Int->Bool}
  (c1:ElemsOf (intKind P w) ff.toList) (c2:∀k,S k=true↔∃e∈ff.toList,(intKind P w).is k e.2=true) (c3:ff.size<scanBound) (c4:t'.fits ff.size=true) (c5:gF led t') :
  (h.update a (Obj.putSet ff t')).get? a=some { u with data:=.set ff (ep+1) t' }/\fE P w led (h.update a (Obj.putSet ff t')) a S ff.size:=by
 have g:=(SetOf_store (knd:=intKind P w) hu hx hd c1 c2 c3 c4).1
 exact⟨g,_,ff,ep+1,t',g,hx,rfl,c1,c2,c3,c4,rfl,c5⟩
theorem LZ {a:Addr} {S:Int->Bool} {n:Nat} {k:Int} {tk:Tok} {Q:Bool->Shared->Prop} (hS:fE P w led s.heap a S n) (OX:n+1<scanBound)
  (h:∀h',Heap.SameBut a s.heap h'->fE P w led h' a (λj=>S j||decide (j=k)) (if S k then n else n+1)->Q (!S k) { s with heap:=h' }) :
  wpAny (model P w) A (setAddHashed a (.int k tk) ((intKind P w).hash k)) Q E s:=by
 obtain⟨u,es,ep,t,hu,hx,hd,c1,c2,c3,c4,hn,c5⟩:=hS
 have ky:(intKind P w).is k (.int k tk)=true:=intKind_is _ _ _ _
 have sc:(Value.int k tk).scannable=true:=rfl
 have zj:es.size+1<scanBound:=by rw[hn];exact OX
 unfold setAddHashed setAddHashedIn
 refine wpAny_holding ?_
 refine wpAny_bind (wpAny_setState_of hu hd c4 ?_)
 dsimp only
 rw[byScan_of sc c3 c1,if_pos rfl]
 unfold setAddByScan
 refine wpAny_bind (wpAny_bind (wpAny_rule ?_))
 refine wpAny_bind (wpAny_setScan_of ky hu hd c4 c1 ?_)
 cases Gq:es.toList.findIdx? (λe=>(intKind P w).is k e.2) with
 |some j =>
  dsimp only
  obtain⟨hj,pj,_⟩:=List.findIdx?_eq_some_iff_getElem.mp Gq
  have Sk:S k=true:=(c2 k).mpr ⟨es.toList[j],List.getElem_mem hj,pj⟩
  have q:=h s.heap (Heap.SameBut.refl a s.heap) ⟨u,es,ep,t,hu,hx,hd,c1,λj'=>by
   rw[Bool.or_eq_true,decide_eq_true_eq,<- c2 j']
   exact⟨λz=>z.elim id λe=>by rw[e];exact Sk,Or.inl⟩,c3,c4,by rw[Sk];exact hn,c5⟩
  rw[Sk] at q
  exact wpAny_pure (wpAny_pure q)
 |none =>
  dsimp only
  have Sk:S k=false:=by
   rw[<- Bool.not_eq_true,c2 k]
   rintro ⟨e,he,pe⟩
   have z:=List.findIdx?_eq_none_iff.mp Gq e he
   rw[pe] at z;cases z
  have way:∀(b:Bool) {s1:Shared} {Q1:Unit->Shared->Prop},Q1 () s1->wpAny (model P w) A (match b with|true=>rule "set.scan.the-table-gave-way"|false=>pure ()) Q1 E s1 :=
   λb s1 Q1 q=>by cases b<;>first|exact wpAny_pure q|exact wpAny_rule q
  have pm:=layNew_perm t es ((intKind P w).hash k) (.int k tk)
  have ft:=layNew_fits t es ((intKind P w).hash k) (.int k tk)
  have tb:=IA c5 es ((intKind P w).hash k) (.int k tk)
  generalize layNew t es ((intKind P w).hash k) (.int k tk)=L at pm ft tb |-
  obtain⟨fj,t1,S0,Ta⟩:=L
  dsimp only at pm ft tb |-
  rw[Array.toList_push] at pm
  have d1:ElemsOf (intKind P w) fj.toList:=(c1.push ky sc).perm pm
  have d2:∀j,(S j||decide (j=k))=true↔∃e∈fj.toList,(intKind P w).is j e.2=true:=mem_push_iff ky c2 pm
  have z1:fj.size=n+1:=by
   have l:=pm.length_eq
   rw[List.length_append,Array.length_toList,Array.length_toList,hn] at l
   exact l
  have d3:fj.size<scanBound:=by omega
  refine wpAny_bind (way _ ?_)
  obtain⟨g1,T1⟩:=wK (S:=λj=>S j||decide (j=k)) hu hx hd d1 d2 d3 ft tb
  have u6:=Heap.SameBut.update s.heap a (Obj.putSet fj t1)
  have fin:∀h',Heap.SameBut a s.heap h'->fE P w led h' a (λj=>S j||decide (j=k)) fj.size->Q true { s with heap:=h' }:=λh' sb T=>by
   have q:=h h' sb
   rw[Sk] at q
   rw[z1] at T
   exact q T
  have iL:=relayAll_perm t1 fj (SetTable.grown fj.size)
  have jc:=relayAll_fits t1 fj (SetTable.grown fj.size)
  have oX:=Jt tb fj (SetTable.grown fj.size)
  have hv:hashByValue 8 (Value.int k tk)=pure true:=rfl
  split
  ·refine wpAny_bind ?_
   rw[hv]
   refine wpAny_pure ?_
   simp only[if_true]
   refine wpAny_bind (wpAny_storeSet_of hu hd ?_ (fits_of_scanBound d3))
   split
   ·generalize relayAll t1 fj (SetTable.grown fj.size)=L2 at iL jc oX |-
    obtain⟨rk,t2,OY⟩:=L2
    dsimp only at iL jc oX |-
    have z2:rk.size=fj.size:=by
     have l:=iL.length_eq
     rwa [Array.length_toList,Array.length_toList] at l
    have f2:∀j,(S j||decide (j=k))=true↔∃e∈rk.toList,(intKind P w).is j e.2=true:=λj=>(d2 j).trans ⟨λ⟨e,he,q⟩=>⟨e,iL.mem_iff.mpr he,q⟩,λ⟨e,he,q⟩=>⟨e,iL.mem_iff.mp he,q⟩⟩
    refine wpAny_bind (way _ ?_)
    refine wpAny_bind (wpAny_storeSet_of g1 rfl ?_ (fits_of_scanBound (by rw[z2];exact d3)))
    obtain⟨g2,T2⟩:=wK (S:=λj=>S j||decide (j=k)) (led:=led) g1 hx rfl (d1.perm iL) f2 (by rw[z2];exact d3) jc oX
    rw[z2] at T2
    exact wpAny_pure (wpAny_pure (fin _ (u6.trans (Heap.SameBut.update _ a _)) T2))
   ·exact wpAny_pure (wpAny_pure (fin _ u6 T1))
  ·refine wpAny_bind (wpAny_pure ?_)
   simp only[if_true]
   refine wpAny_bind (wpAny_storeSet_of hu hd ?_ (fits_of_scanBound d3))
   split
   ·generalize relayAll t1 fj (SetTable.grown fj.size)=L2 at iL jc oX |-
    obtain⟨rk,t2,OY⟩:=L2
    dsimp only at iL jc oX |-
    have z2:rk.size=fj.size:=by
     have l:=iL.length_eq
     rwa [Array.length_toList,Array.length_toList] at l
    have f2:∀j,(S j||decide (j=k))=true↔∃e∈rk.toList,(intKind P w).is j e.2=true:=λj=>(d2 j).trans ⟨λ⟨e,he,q⟩=>⟨e,iL.mem_iff.mpr he,q⟩,λ⟨e,he,q⟩=>⟨e,iL.mem_iff.mp he,q⟩⟩
    refine wpAny_bind (way _ ?_)
    refine wpAny_bind (wpAny_storeSet_of g1 rfl ?_ (fits_of_scanBound (by rw[z2];exact d3)))
    obtain⟨g2,T2⟩:=wK (S:=λj=>S j||decide (j=k)) (led:=led) g1 hx rfl (d1.perm iL) f2 (by rw[z2];exact d3) jc oX
    rw[z2] at T2
    exact wpAny_pure (wpAny_pure (fin _ (u6.trans (Heap.SameBut.update _ a _)) T2))
   ·exact wpAny_pure (wpAny_pure (fin _ u6 T1))
end
end TS
namespace TS
open PySem PySem.Spec PyProof.Rows
theorem Hb:entryFor table "set.__iter__"=some Builtin.«frozenset.__iter__»:=entryFor_alias (id':="frozenset.__iter__") (by kernel_rfl) rfl (by decide +kernel) (by kernel_rfl)
theorem iO:Slot "set_iterator" "__next__" "set_iterator.__next__" :=
 .of (owner:="set_iterator") (n:="__next__") (by rw[typeLookup_type,builtinLookup_eq_fast];kernel_rfl) (by decide +kernel) (by decide +kernel) (by decide +kernel)
  (by first|exact .inl (by decide +kernel)|exact .inr (by decide +kernel)) (by rw[isSubtype_type];kernel_rfl)
theorem rV:entryFor table "set_iterator.__next__"=some Builtin.«set_iterator.__next__»:=entryFor_of_tree (by kernel_rfl)
theorem r9 (a:Value):argsOk "set_iterator.__next__" ⟨[a],[]⟩:=by unfold argsOk;kernel_rfl
theorem AQ:Slot "set_iterator" "__iter__" "set_iterator.__iter__" :=
 .of (owner:="set_iterator") (n:="__iter__") (by rw[typeLookup_type,builtinLookup_eq_fast];kernel_rfl) (by decide +kernel) (by decide +kernel) (by decide +kernel)
  (by first|exact .inl (by decide +kernel)|exact .inr (by decide +kernel)) (by rw[isSubtype_type];kernel_rfl)
def gZ (h:Heap) (I a:Addr) (first:Value) (i n ep:Nat):Prop:=∃o,h.get? I=some o/\o.cls=.type "set_iterator"/\o.data=.fields #[first,.int i 0,.ref a,.int n 0,.int ep 0]
section
variable {P:Program} {w:World} {A:Around} {E:Value->Shared->Prop} {s:Shared}
theorem Di {I a:Addr} {slot i n ep nx:Nat} {u:Obj} {es:Array (Int×Value)} {t:SetTable} {x:Value} {Q:Option Value->Shared->Prop} (hit:gZ s.heap I a (.int slot 0) i n ep)
  (hu:s.heap.get? a=some u) (hd:u.data=.set es ep t) (hf:t.fits es.size=true) (hn:es.size=n)
  (hs:∀(A':Around) (Q':Option (Value×Nat)->Shared->Prop) (E':Value->Shared->Prop),Q' (some (x,nx)) s->wpAny (model P w) A' (setNext a slot i ep) Q' E' s)
  (hQ:∀h',gZ h' I a (.int nx 0) (i+1) n ep->Heap.SameBut I s.heap h'->Q (some x) { s with heap:=h' }):wpAny (model P w) A (pyNext (.ref I)) Q E s:=by
 obtain⟨o,ho,hc,dB⟩:=id hit
 have hT:s.TypeIs (.ref I) "set_iterator":=⟨o,ho,hc⟩
 unfold pyNext
 refine wpAny_bind (wpAny_attempt (wpAny_callSpecial?_slot (name:=Str.ofString "__next__") hT iO
  (wpAny_call_entry iO hT rV ?_ (r9 _))))
 unfold Builtin.«set_iterator.__next__» slotArgs
 simp only[List.isEmpty_nil,Bool.not_true,Bool.false_eq_true,↓reduceIte,bind_assoc,List.length_nil,bne_self_eq_false]
 refine wpAny_bind (wpAny_pure ?_)
 refine wpAny_bind (wpAny_fieldsOf ho dB ?_)
 dsimp only
 refine wpAny_bind (wpAny_setEntries_of hu hd hf ?_)
 rw[hn]
 simp only[bne_self_eq_false,Bool.false_eq_true,↓reduceIte,Int.toNat_natCast]
 refine wpAny_bind (hs _ _ _ ?_)
 dsimp only
 refine wpAny_bind (wpAny_setField ho dB (by simp) ?_)
 refine wpAny_bind (wpAny_setField (Heap.get?_update_self _ ho (Obj.isFreed_of_fields (Obj.data_mapFields dB _))) (Obj.data_mapFields dB _) (by simp) ?_)
 refine wpAny_pure ⟨x,rfl,wpAny_pure (hQ _ ⟨_,Heap.get?_update_self _ (Heap.get?_update_self _ ho (Obj.isFreed_of_fields (Obj.data_mapFields dB _))) (Obj.isFreed_of_fields (Obj.data_mapFields (Obj.data_mapFields dB _) _)),(Obj.cls_mapFields ..).trans ((Obj.cls_mapFields ..).trans hc),?_⟩ ((Heap.SameBut.update ..).trans (Heap.SameBut.update ..)))⟩
 rw[Obj.data_mapFields (Obj.data_mapFields dB _)]
 simp[rawInt]
theorem IC {src:Source} {m:Nat} {Q:Nat->Shared->Prop} (hm:m≠0) (h:Q (w.draws src (s.drawn.get src) % m) { s with drawn:=s.drawn.bump src }):wpAny (model P w) A (choose src m) Q E s:=fun Γ p Tp=>by
 unfold choose
 rw[Sem.wp_choose]
 exact⟨hm,h⟩
theorem BP {I:Addr} {o:Obj} {vs:Array Value} {Q:Option Value->Shared->Prop} (hh:A.handled=none) (ho:s.heap.get? I=some o) (dB:o.data=.fields vs) (h2:2<vs.size)
  (hQ:∀h',Heap.ExtBut I s.heap h'->Q none { s with heap:=h' }) :
  wpAny (model P w) A.in1 (setField (.ref I) 2 .none >>= λ_=>newExc (.type "StopIteration") [] >>= λe=>(raiseNew e:Sem Fin)) (λfin s'=>∃v,fin=Fin.done (Flow.ret v)/\wpAny (model P w) A (pure (some v)) Q E s')
   (λe s'=>wpAny (model P w) A (isInstance e (Value.type "StopIteration") >>= λb=>if b=true then pure none else throw e) Q E s') s:=by
 refine wpAny_bind (wpAny_setField ho dB h2 ?_)
 refine wpAny_bind ?_
 simp only[newExc,newTuple]
 refine wpAny_bind (wpAny_newObj_type ?_ (by size_fits))
 refine wpAny_bind (m:=firstArgMember _ _) (wpAny_of_eq (a:=Value.none) (by first|rfl | (simp only[firstArgMember];rfl)) ?_)
 refine wpAny_newObj_type ?_ (by size_fits)
 simp only[raiseNew]
 refine wpAny_bind (wpAny_handled ?_)
 first|rw[show A.in1.handled=none from hh]|rw[hh]
 refine wpAny_bind (wpAny_pure (wpAny_throw ?_))
 refine wpAny_bind (wpAny_isInstance (T:="StopIteration") (b:=true) ⟨_,Heap.get?_push_size _ rfl,rfl⟩ isSubtype_stop ?_)
 exact wpAny_pure (hQ _ (((Heap.SameBut.update ..).extBut.push _).push _))
theorem Eb {I a:Addr} {slot i n ep:Nat} {u:Obj} {es:Array (Int×Value)} {t:SetTable} {Q:Option Value->Shared->Prop} (hh:A.handled=none) (hit:gZ s.heap I a (.int slot 0) i n ep)
  (hu:s.heap.get? a=some u) (hd:u.data=.set es ep t) (hf:t.fits es.size=true) (hn:es.size=n)
  (hs:∀(A':Around) (Q':Option (Value×Nat)->Shared->Prop) (E':Value->Shared->Prop),Q' none s->wpAny (model P w) A' (setNext a slot i ep) Q' E' s)
  (hQ:∀h',Heap.ExtBut I s.heap h'->Q none { s with heap:=h' }):wpAny (model P w) A (pyNext (.ref I)) Q E s:=by
 obtain⟨o,ho,hc,dB⟩:=id hit
 have hT:s.TypeIs (.ref I) "set_iterator":=⟨o,ho,hc⟩
 unfold pyNext
 refine wpAny_bind (wpAny_attempt (wpAny_callSpecial?_slot (name:=Str.ofString "__next__") hT iO
  (wpAny_call_entry iO hT rV ?_ (r9 _))))
 unfold Builtin.«set_iterator.__next__» slotArgs
 simp only[List.isEmpty_nil,Bool.not_true,Bool.false_eq_true,↓reduceIte,bind_assoc,List.length_nil,bne_self_eq_false]
 refine wpAny_bind (wpAny_pure ?_)
 refine wpAny_bind (wpAny_fieldsOf ho dB ?_)
 dsimp only
 refine wpAny_bind (wpAny_setEntries_of hu hd hf ?_)
 rw[hn]
 simp only[bne_self_eq_false,Bool.false_eq_true,↓reduceIte,Int.toNat_natCast]
 refine wpAny_bind (hs _ _ _ ?_)
 dsimp only
 exact BP hh ho dB (by simp) hQ
theorem Ky {I a tp:Addr} {i n ep pl:Nat} {u:Obj} {es:Array (Int×Value)} {t:SetTable} {x:Int×Value} {places:Array Value} {tk:Tok} {Q:Option Value->Shared->Prop} (hit:gZ s.heap I a (.ref tp) i n ep)
  (hu:s.heap.get? a=some u) (hd:u.data=.set es ep t) (hf:t.fits es.size=true) (hn:es.size=n) (zk:s.heap.IsTuple tp places) (cN:places[i]?=some (.int pl tk)) (hx:es[pl]?=some x)
  (hQ:∀h',gZ h' I a (.ref tp) (i+1) n ep->Heap.SameBut I s.heap h'->Q (some x.2) { s with heap:=h' }):wpAny (model P w) A (pyNext (.ref I)) Q E s:=by
 obtain⟨o,ho,hc,dB⟩:=id hit
 obtain⟨op,zl,Q8,np,rf⟩:=zk
 have hT:s.TypeIs (.ref I) "set_iterator":=⟨o,ho,hc⟩
 unfold pyNext
 refine wpAny_bind (wpAny_attempt (wpAny_callSpecial?_slot (name:=Str.ofString "__next__") hT iO
  (wpAny_call_entry iO hT rV ?_ (r9 _))))
 unfold Builtin.«set_iterator.__next__» slotArgs
 simp only[List.isEmpty_nil,Bool.not_true,Bool.false_eq_true,↓reduceIte,bind_assoc,List.length_nil,bne_self_eq_false]
 refine wpAny_bind (wpAny_pure ?_)
 refine wpAny_bind (wpAny_fieldsOf ho dB ?_)
 dsimp only
 refine wpAny_bind (wpAny_setEntries_of hu hd hf ?_)
 rw[hn]
 simp only[bne_self_eq_false,Bool.false_eq_true,↓reduceIte,Int.toNat_natCast]
 refine wpAny_bind (wpAny_seqItems zl rf ?_)
 dsimp only
 rw[cN]
 dsimp only
 unfold setNextDrawn
 refine wpAny_bind (wpAny_bind (wpAny_setState_of hu hd hf ?_))
 dsimp only
 simp only[bne_self_eq_false,Bool.false_eq_true,↓reduceIte,Int.toNat_natCast]
 rw[hx]
 dsimp only
 refine wpAny_pure ?_
 refine wpAny_bind (wpAny_setField ho dB (by simp) ?_)
 refine wpAny_pure ⟨x.2,rfl,wpAny_pure (hQ _ ⟨_,Heap.get?_update_self _ ho (Obj.isFreed_of_fields (Obj.data_mapFields dB _)),(Obj.cls_mapFields ..).trans hc,?_⟩ (Heap.SameBut.update ..))⟩
 rw[Obj.data_mapFields dB]
 simp[rawInt]
theorem L0 {I a tp:Addr} {i n ep:Nat} {u:Obj} {es:Array (Int×Value)} {t:SetTable} {places:Array Value} {Q:Option Value->Shared->Prop} (hh:A.handled=none) (hit:gZ s.heap I a (.ref tp) i n ep)
  (hu:s.heap.get? a=some u) (hd:u.data=.set es ep t) (hf:t.fits es.size=true) (hn:es.size=n) (zk:s.heap.IsTuple tp places) (cN:places[i]?=none)
  (hQ:∀h',Heap.ExtBut I s.heap h'->Q none { s with heap:=h' }):wpAny (model P w) A (pyNext (.ref I)) Q E s:=by
 obtain⟨o,ho,hc,dB⟩:=id hit
 obtain⟨op,zl,Q8,np,rf⟩:=zk
 have hT:s.TypeIs (.ref I) "set_iterator":=⟨o,ho,hc⟩
 unfold pyNext
 refine wpAny_bind (wpAny_attempt (wpAny_callSpecial?_slot (name:=Str.ofString "__next__") hT iO
  (wpAny_call_entry iO hT rV ?_ (r9 _))))
 unfold Builtin.«set_iterator.__next__» slotArgs
 simp only[List.isEmpty_nil,Bool.not_true,Bool.false_eq_true,↓reduceIte,bind_assoc,List.length_nil,bne_self_eq_false]
 refine wpAny_bind (wpAny_pure ?_)
 refine wpAny_bind (wpAny_fieldsOf ho dB ?_)
 dsimp only
 refine wpAny_bind (wpAny_setEntries_of hu hd hf ?_)
 rw[hn]
 simp only[bne_self_eq_false,Bool.false_eq_true,↓reduceIte,Int.toNat_natCast]
 refine wpAny_bind (wpAny_seqItems zl rf ?_)
 dsimp only
 rw[cN]
 dsimp only
 refine wpAny_bind (wpAny_setField ho dB (by simp) ?_)
 exact BP (s:={ s with heap:=_ }) hh (Heap.get?_update_self _ ho (Obj.isFreed_of_fields (Obj.data_mapFields dB _))) (Obj.data_mapFields dB _) (by simp) λh' e=>hQ h' (Heap.ExtBut.trans (Heap.SameBut.update ..).extBut e)
end
end TS
namespace TS
open PySem PySem.Spec PyProof.Rows
theorem Hl:entryFor table "set_iterator.__iter__"=some Builtin.«dict_keyiterator.__iter__»:=entryFor_alias (id':="dict_keyiterator.__iter__") (by kernel_rfl) rfl (by decide +kernel) (by kernel_rfl)
theorem Hw (a:Value):argsOk "set_iterator.__iter__" ⟨[a],[]⟩:=by unfold argsOk;kernel_rfl
section
variable {P:Program} {w:World} {A:Around} {E:Value->Shared->Prop} {s:Shared}
theorem wL {I a:Addr} {f:Value} {i n ep:Nat} {Q:Value->Shared->Prop} (hit:gZ s.heap I a f i n ep) (h:Q (.ref I) s):wpAny (model P w) A (pyIter (.ref I)) Q E s:=by
 obtain⟨o,ho,hc,dB⟩:=id hit
 have hT:s.TypeIs (.ref I) "set_iterator":=⟨o,ho,hc⟩
 refine wpAny_pyIter_slot hT AQ (wpAny_call_entry AQ hT Hl ?_ (Hw _))
 show wpAny _ _ (ret (.ref I)) _ _ s
 exact wpAny_pure ⟨_,rfl,"set_iterator",_,hT,iO.lookup,h⟩
theorem gZ.at {h h':Heap} {I a:Addr} {f:Value} {i n ep:Nat} (x:gZ h I a f i n ep) (k:∀o,h.get? I=some o->h'.get? I=some o):gZ h' I a f i n ep:=by
 obtain⟨o,ho,r⟩:=x
 exact⟨o,k o ho,r⟩
theorem BQ {a:Addr} {slot i ep:Nat} {u:Obj} {es:Array (Int×Value)} {t:SetTable} (gw:w.params.followText "set-order"=true) (hu:s.heap.get? a=some u) (hd:u.data=.set es ep t) (hf:t.fits es.size=true)
  {Q':Option (Value×Nat)->Shared->Prop} (h:Q' (((pickOrder (w.params.setOrder a ep) es)[i]?).map λe=>(e.2,slot)) s):wpAny (model P w) A (setNext a slot i ep) Q' E s:=by
 unfold setNext
 refine wpAny_bind (wpAny_setState_of hu hd hf ?_)
 dsimp only
 unfold setsByText
 refine wpAny_bind (wpAny_bind (wpAny_askSetting (wpAny_pure ?_)))
 show wpAny _ _ (if w.params.followText "set-order"=true then _ else _) _ _ _
 rw[if_pos gw]
 simp only[bne_self_eq_false,Bool.false_eq_true,↓reduceIte]
 unfold setWalk
 refine wpAny_bind (wpAny_bind (wpAny_setState_of hu hd hf ?_))
 dsimp only
 unfold setsByText
 refine wpAny_bind (wpAny_bind (wpAny_askSetting (wpAny_pure ?_)))
 show wpAny _ _ (if w.params.followText "set-order"=true then _ else _) _ _ _
 rw[if_pos gw]
 refine wpAny_bind (wpAny_askSetting (wpAny_pure ?_))
 exact wpAny_pure h
theorem nK {xs:Array Nat} {slot i:Nat} (hr:iZ xs.toList) (hi:i<=xs.toList.length) (h1:∀k,k<i->xs.toList.getD k 0<slot) (h2:∀k,i<=k->k<xs.toList.length->slot<=xs.toList.getD k 0):SetTable.below xs slot=i:=by
 obtain⟨a0,a1,a2⟩:=Bn xs slot hr
 by_cases bg:SetTable.below xs slot<i
 ·have b1:=a2 _ (Nat.le_refl _) (by omega)
  have b2:=h1 _ bg
  omega
 ·by_cases Q9:i<SetTable.below xs slot
  ·have b1:=a1 i Q9
   have b2:=h2 i (Nat.le_refl _) (by omega)
   omega
  ·omega
theorem Bo {a:Addr} {slot i ep:Nat} {u:Obj} {es:Array (Int×Value)} {t:SetTable} (gw:w.params.followText "set-order"=false) (hu:s.heap.get? a=some u) (hd:u.data=.set es ep t) (hf:t.fits es.size=true)
  (hl:t.led=true) (hp:t.plain=true\/es.size<=1) (hb:SetTable.below t.place slot=i)
  {Q':Option (Value×Nat)->Shared->Prop} (h:Q' (match es[i]?,t.place[i]? with|some (_,x),some j=>some (x,j+1) | _,_=>none) s):wpAny (model P w) A (setNext a slot i ep) Q' E s:=by
 unfold setNext
 refine wpAny_bind (wpAny_setState_of hu hd hf ?_)
 dsimp only
 unfold setsByText
 refine wpAny_bind (wpAny_bind (wpAny_askSetting (wpAny_pure ?_)))
 show wpAny _ _ (if w.params.followText "set-order"=true then _ else _) _ _ _
 rw[if_neg (by rw[gw];decide)]
 split
 ·rename_i Ra
  have yv:(!t.plain&&decide (es.size > 1))=true:=Ra
  rcases hp with hp|hp
  ·rw[hp] at yv;cases yv
  ·simp at yv;omega
 ·refine wpAny_bind ?_
  show wpAny _ _ (if (!t.led&&!es.isEmpty)=true then _ else _) _ _ _
  rw[hl]
  simp only[Bool.not_true,Bool.false_and,Bool.false_eq_true,↓reduceIte]
  refine wpAny_pure ?_
  rw[hb]
  exact wpAny_pure h
theorem vG {I:Addr} {h':Heap} (sb:Heap.SameBut I s.heap h'):Moved [I] (λa b=>b=a) s { s with heap:=h' }:=⟨λb o hb e=>by rw[sb.2 b (λz=>hb (by simp[z]))];exact e,rfl,rfl,rfl,Nat.le_refl _⟩
theorem vM {I:Addr} {h':Heap} (sb:Heap.ExtBut I s.heap h'):Moved [I] (λa b=>b=a) s { s with heap:=h' }:=⟨λb o hb e=>sb b o (λz=>hb (by simp[z])) e,rfl,rfl,rfl,Nat.le_refl _⟩
end
theorem ID {P:Program} {w:World} {A:Around} (hh:A.handled=none) {I a:Addr} (gv:a≠I) {u:Obj} {es:Array (Int×Value)} {ep:Nat} {t:SetTable} (gw:w.params.followText "set-order"=true) (hd:u.data=.set es ep t) (hf:t.fits es.size=true) (hsz:(pickOrder (w.params.setOrder a ep) es).size=es.size) :
  WalksS P w A I [I,a] [I] (λa b=>b=a) es.size (λi v=>((pickOrder (w.params.setOrder a ep) es).map (·.2))[i]?=some v) (λi s=>gZ s.heap I a (.int 0 0) i es.size ep/\s.heap.get? a=some u) where
 sub:=λb hb=>by simp at hb;simp[hb]
 grefl:=λ_=>rfl
 gtrans:=λ_ _ _ h1 h2=>h2.trans h1
 frame:=λi s h' tk st _ hk=>⟨st.1.at λo e=>hk I (by simp) o e,hk a (by simp) _ st.2⟩
 item:=λi s Q E hi st hQ=>by
  have hx:i<(pickOrder (w.params.setOrder a ep) es).size:=by rw[hsz];exact hi
  have ex:(pickOrder (w.params.setOrder a ep) es)[i]?=some (pickOrder (w.params.setOrder a ep) es)[i]:=by simp[hx]
  refine Di (nx:=0) (x:=(pickOrder (w.params.setOrder a ep) es)[i].2) (slot:=0) st.1 st.2 hd hf rfl (λA' Q' E' q=>BQ gw st.2 hd hf (by rw[ex];exact q)) λh' it sb=>?_
  exact hQ _ _ (by simp[ex]) ⟨it,by rw[sb.2 a gv];exact st.2⟩ (vG sb)
 done:=λs Q E st hQ=>by
  refine Eb (slot:=0) hh st.1 st.2 hd hf rfl (λA' Q' E' q=>BQ gw st.2 hd hf (by
   rw[show (pickOrder (w.params.setOrder a ep) es)[es.size]?=none by simp[hsz]];exact q)) λh' sb=>hQ _ (vM sb)
 self:=λi s Q E st hQ=>wL st.1 hQ
theorem HV {P:Program} {w:World} {A:Around} (hh:A.handled=none) {I a:Addr} (gv:a≠I) {u:Obj} {es:Array (Int×Value)} {ep:Nat} {t:SetTable} (gw:w.params.followText "set-order"=false) (hd:u.data=.set es ep t) (hf:t.fits es.size=true) (hl:t.led=true) (hp:t.plain=true\/es.size<=1) (hr:iZ t.place.toList) :
  WalksS P w A I [I,a] [I] (λa b=>b=a) es.size (λi v=>(es.map (·.2))[i]?=some v) (λi s=>∃slot:Nat,gZ s.heap I a (.int slot 0) i es.size ep/\s.heap.get? a=some u/\i<=es.size/\(∀k,k<i->t.place.toList.getD k 0<slot)/\∀k,i<=k->k<t.place.toList.length->slot<=t.place.toList.getD k 0) where
 sub:=λb hb=>by simp at hb;simp[hb]
 grefl:=λ_=>rfl
 gtrans:=λ_ _ _ h1 h2=>h2.trans h1
 frame:=λi s h' tk st _ hk=>by
  obtain⟨slot,x1,x2,x3⟩:=st
  exact⟨slot,x1.at λo e=>hk I (by simp) o e,hk a (by simp) _ x2,x3⟩
 item:=λi s Q E hi st hQ=>by
  obtain⟨slot,x1,x2,x3,x4,x5⟩:=st
  have cN:t.place.toList.length=es.size:=by
   simp only[SetTable.fits,Bool.and_eq_true,beq_iff_eq,decide_eq_true_eq] at hf
   simpa using hf.1
  have oY:i<t.place.toList.length:=by omega
  have e1:es[i]?=some es[i]:=by simp[hi]
  have e2:t.place[i]?=some (t.place.toList.getD i 0):=by
   rw[<- Array.getElem?_toList,List.getElem?_eq_getElem oY]
   simp[List.getD,List.getElem?_eq_getElem oY]
  refine Di (nx:=t.place.toList.getD i 0+1) (x:=es[i].2) (slot:=slot) x1 x2 hd hf rfl (λA' Q' E' q=>Bo gw x2 hd hf hl hp (nK hr (by omega) x4 x5) (by rw[e1,e2];exact q)) λh' it sb=>?_
  refine hQ _ _ (by simp[e1]) ⟨_,it,by rw[sb.2 a gv];exact x2,hi,λk hk=>?_,λk hk lB=>?_⟩ (vG sb)
  ·by_cases Rb:k=i
   ·rw[Rb];omega
   ·have:=tj hr (show k<i by omega) oY
    omega
  ·have:=tj hr (show i<k by omega) lB
   omega
 done:=λs Q E st hQ=>by
  obtain⟨slot,x1,x2,x3,x4,x5⟩:=st
  have cN:t.place.toList.length=es.size:=by
   simp only[SetTable.fits,Bool.and_eq_true,beq_iff_eq,decide_eq_true_eq] at hf
   simpa using hf.1
  refine Eb (slot:=slot) hh x1 x2 hd hf rfl (λA' Q' E' q=>Bo gw x2 hd hf hl hp (nK hr (by omega) x4 x5) (by
   rw[show es[es.size]?=none by simp];exact q)) λh' sb=>hQ _ (vM sb)
 self:=λi s Q E st hQ=>by
  obtain⟨slot,x1,_⟩:=st
  exact wL x1 hQ
theorem HW {P:Program} {w:World} {A:Around} (hh:A.handled=none) {I a tp:Addr} (gv:a≠I) (Rc:tp≠I) {u:Obj} {es:Array (Int×Value)} {ep:Nat} {t:SetTable} (hd:u.data=.set es ep t) (hf:t.fits es.size=true) (pl:List Nat) (cN:pl.length=es.size) (kq:∀x∈pl,x<es.size) :
  WalksS P w A I [I,a,tp] [I] (λa b=>b=a) es.size (λi v=>(pl.map λk=>(es.getD k (0,Value.none)).2)[i]?=some v) (λi s=>gZ s.heap I a (.ref tp) i es.size ep/\s.heap.get? a=some u/\s.heap.IsTuple tp (pl.map λ(k:Nat)=>rawInt k).toArray) where
 sub:=λb hb=>by simp at hb;simp[hb]
 grefl:=λ_=>rfl
 gtrans:=λ_ _ _ h1 h2=>h2.trans h1
 frame:=λi s h' tk st _ hk=>⟨st.1.at λo e=>hk I (by simp) o e,hk a (by simp) _ st.2.1,let ⟨o,ho,r⟩:=st.2.2;⟨o,hk tp (by simp) o ho,r⟩⟩
 item:=λi s Q E hi st hQ=>by
  have oY:i<pl.length:=by omega
  have e1:pl[i]?=some pl[i]:=List.getElem?_eq_getElem oY
  have hk:=kq _ (List.getElem_mem oY)
  refine Ky (pl:=pl[i]) (x:=es.getD pl[i] (0,Value.none)) (tk:=0) st.1 st.2.1 hd hf rfl st.2.2 (by simp[e1,rawInt]) (by simp[hk,Array.getD]) λh' it sb=>?_
  refine hQ _ _ (by simp[e1]) ⟨it,by rw[sb.2 a gv];exact st.2.1,let ⟨o,ho,r⟩:=st.2.2;⟨o,by rw[sb.2 tp Rc];exact ho,r⟩⟩ (vG sb)
 done:=λs Q E st hQ=>L0 hh st.1 st.2.1 hd hf rfl st.2.2 (by simp[cN]) λh' sb=>hQ _ (vM sb)
 self:=λi s Q E st hQ=>wL st.1 hQ
end TS
namespace TS
open PySem PySem.Spec PyProof.Rows
noncomputable def dP (w:World):Bool:=!(w.params.followText "set-order")
section
variable {P:Program} {w:World} {A:Around} {E:Value->Shared->Prop} {s:Shared}
theorem Kz (a:Value) {Q₁:Value->Shared->Prop}
  (hq:Q₁ (.ref s.heap.objs.size) { s with heap:=s.heap.push { cls:=.type "set",dict:=none,data:=.set #[] 0 (.fresh 0 0 (dP w)) } }) :
  codeAny (model P w) A (.call (.builtin "set.__new__") ⟨[.type "set",a],[]⟩) (wants Q₁ E) s:=by
 refine codeAny_of_tree ?_
 show wpAny _ A.in1 (checkBuiltinCall "set.__new__" ⟨[.type "set",a],[]⟩ >>= λ_=>again (.builtin "set.__new__" ⟨[.type "set",a],[]⟩)) _ _ s
 refine wpAny_bind ?_
 refine wpAny_of_eq (F.newCall_set_1 a) ?_
 refine wpAny_pure ⟨plainId_quiet F.plain_set_new _,codeAny_builtin F.entry_set_new ?_⟩
 rw[Around.under_plainId F.plain_set_new _]
 unfold Builtin.«set.__new__» Builtin.Frozenset.newClass
 have ss:=sub_set_self
 obtain⟨h1,h2,h3,h4,h5⟩:=s
 dsimp only
 wp_walk
 refine wpAny_askSetting (wpAny_pure ?_)
 dsimp only
 simp only[newObj]
 refine wpAny_bind (wpAny_alloc ?_)
 exact wpAny_pure (wpAny_pure hq)
end
section
variable {P:Program} {w:World} {A:Around} {R:Result->Shared->Prop} {I:Addr} {fp wr:List Addr} {G:Array GenState->Array GenState->Prop} {n:Nat} {Pv:Nat->Value->Prop} {St:Nat->Shared->Prop} {led:Bool}
theorem KC (W:WalksS P w A.in1 I fp wr G n Pv St) (S:Addr) (rl:S∉fp)
  (val:Nat->Int) (Qn:∀i v,Pv i v->∃t,v=.int (val i) t) (hb:n+1<scanBound) :
  ∀(k i:Nat) (s:Shared),n-i=k->i<=n->St i s ->
   fE P w led s.heap S (λj=>(firstMet val i).any (·==j)) (firstMet val i).length ->
   (∀s',Moved (S::wr) G s s'->fE P w led s'.heap S (λj=>(firstMet val n).any (·==j)) (firstMet val n).length->R (.ok (.ret .none)) s') ->
   codeAny (model P w) A (.builtin "set.update.loop" ⟨[.ref S,.ref I],[]⟩) R s:=by
 have nw:S∉wr:=λz=>rl (W.sub _ z)
 have sw:∀b∈wr,b∈S::wr:=λb z=>List.mem_cons_of_mem _ z
 intro k
 induction k with
 |zero =>
  intro i s hk hi st T hR
  obtain rfl:i=n:=by omega
  refine codeAny_builtin F.entry_set_update_loop ?_
  rw[Around.under_plainId F.plain_set_update_loop _]
  show wpAny _ A.in1 (pyNext (.ref I) >>= _) _ _ s
  refine wpAny_bind (W.done s _ _ st λs' m=>?_)
  show wpAny _ A.in1 (ret Value.none) _ _ s'
  exact wpAny_pure (hR s' (m.mono sw) (T.at λo e=>m.heap S o nw e))
 |succ k ih =>
  intro i s hk hi st T hR
  have lt:i<n:=by omega
  refine codeAny_builtin F.entry_set_update_loop ?_
  rw[Around.under_plainId F.plain_set_update_loop _]
  show wpAny _ A.in1 (pyNext (.ref I) >>= _) _ _ s
  refine wpAny_bind (W.item i s _ _ lt st λv s' pv cT m=>?_)
  obtain⟨t,rfl⟩:=Qn i v pv
  have T':=T.at (h':=s'.heap) λo e=>m.heap S o nw e
  show wpAny _ A.in1 (holding [Value.int (val i) t] (setAdd S (.int (val i) t)) >>= _) _ _ s'
  refine wpAny_bind (wpAny_holding ?_)
  unfold setAdd
  refine wpAny_holding ?_
  refine wpAny_bind ((intKind P w).pyHash (k:=val i) (intKind_is _ _ _ _) ?_)
  have room:(firstMet val i).length+1<scanBound:=by have:=firstMet_length_le val i;omega
  refine LZ (s:={ s' with toks:=s'.toks+1 }) T' room λh' sb T2=>?_
  have T3:fE P w led h' S (λj=>(firstMet val (i+1)).any (·==j)) (firstMet val (i+1)).length:=T2.congr (λj=>by rw[firstMet_succ,step_any]) (by rw[firstMet_succ,step_length])
  refine wpAny_pure ⟨plainId_quiet F.plain_set_update_loop _,ih (i+1) _ (by omega) lt (W.frame _ s' _ _ cT (Nat.le_succ _) λb fK o e=>?_) T3 λqV Rf Rg=>?_⟩
  ·rw[sb.2 b λz:b=S=>rl (z ▸ fK)];exact e
  ·refine hR qV (Moved.trans W.gtrans ((m.mono sw).then_heap (Nat.le_succ _) λb o fK e=>?_) Rf) Rg
   rw[sb.2 b λz:b=S=>fK (by rw[z];exact List.mem_cons_self)];exact e
end
section
variable {P:Program} {w:World} {A:Around} {E:Value->Shared->Prop} {s:Shared}
theorem IE {l:Addr} {its:Array Value} {ns:List Int} {Q:Value->Shared->Prop}
  (hh:A.handled=none) (hl:s.heap.IsList l its) (hi:IntsAre its.toList ns) (hb:its.size+1<scanBound)
  (h:∀(h':Heap) (tk:Nat),fE P w (dP w) h' s.heap.objs.size (λk'=>(firstMet (λi=>ns.getD i 0) its.size).any (·==k')) (firstMet (λi=>ns.getD i 0) its.size).length ->
   (∀b o,b<s.heap.objs.size->s.heap.get? b=some o->h'.get? b=some o)->Q (.ref s.heap.objs.size) { s with heap:=h',toks:=tk }) :
  wpAny (model P w) A (call (.type "set") [.ref l]) Q E s:=by
 obtain⟨c,tl,ur⟩:=F.called_set.mro
 have um:=F.called_set.made
 have ub:=F.called_set.sub
 refine wpAny_call (codeAny_of_tree ?_)
 show wpAny _ _ (callAny (.type "set") _) _ _ _
 refine wpAny_pure ⟨Code.quiet_builtin _ (by decide +kernel),codeAny_builtin F.entry_type_call ?_⟩
 rw[Around.under_plain (weight_type_call_type "set" [.ref l] []) rfl]
 have h1:=F.called_set.notType
 have h2:=F.called_set.canCreate
 have Tq:=F.typeCall_set_1 (.ref l)
 repeat (any_goals (first|assumption|wp_step))
 refine codeAny_mono (Kz (.ref l) (E:=E) (Q₁:=λobj bu=>obj=.ref s.heap.objs.size/\bu={ s with heap:=s.heap.push { cls:=.type "set",dict:=none,data:=.set #[] 0 (.fresh 0 0 (dP w)) } }) ⟨rfl,rfl⟩) λr bu hr=>?_
 cases r with
 |error e=>exact hr
 |ok fl =>
  cases fl with
  |ret obj =>
   obtain⟨rfl,rfl⟩:=hr
   have v:(s.heap.push { cls:=.type "set",dict:=none,data:=.set #[] 0 (.fresh 0 0 (dP w)) }).get? s.heap.objs.size=some { cls:=.type "set",dict:=none,data:=.set #[] 0 (.fresh 0 0 (dP w)) }:=Heap.get?_push_size _ rfl
   have vT:Shared.TypeIs { s with heap:=s.heap.push { cls:=.type "set",dict:=none,data:=.set #[] 0 (.fresh 0 0 (dP w)) } } (.ref s.heap.objs.size) "set":=⟨_,v,rfl⟩
   have vl:=F.called_set.init.lookup
   have vb:=F.called_set.init.bind (.ref s.heap.objs.size)
   repeat (any_goals (first|assumption|wp_step))
   refine codeAny_mono (codeAny_call_builtin (R:=wants (λr uB=>r=.none/\∃h' tk,uB={ s with heap:=h',toks:=tk } /\
     fE P w (dP w) h' s.heap.objs.size (λk'=>(firstMet (λi=>ns.getD i 0) its.size).any (·==k')) (firstMet (λi=>ns.getD i 0) its.size).length /\
     (∀b o,b<s.heap.objs.size->s.heap.get? b=some o->h'.get? b=some o)) E) F.called_set.init.plain F.entry_set_init (check_set_init_1 vT ?_)) λQo uB vr=>?_
   ·obtain⟨ol,uo,uc,nn,ud⟩:=hl
    obtain⟨oc,od,oa,Rh⟩:=ol
    simp only at uc ud
    subst uc;subst ud
    have Ri:(s.heap.push { cls:=.type "set",dict:=none,data:=.set #[] 0 (.fresh 0 0 (dP w)) }).get? l=some { cls:=.type "list",dict:=od,data:=.seq its nn,slots:=Rh }:=Heap.get?_push_of_some _ uo
    have u1:=F.sub_list_set
    have u2:=F.sub_list_frozenset
    have gv:(Value.type "list"==Value.type "dict")=false:=by decide
    have ul:(s.heap.push { cls:=.type "set",dict:=none,data:=.set #[] 0 (.fresh 0 0 (dP w)) }).IsList l its:=⟨_,Ri,rfl,nn,rfl⟩
    unfold Builtin.«set.__init__» noKeywords Builtin.Frozenset.updateFrom
    generalize vP:pyIter=PI
    wp_walk
    subst vP
    refine wpAny_pyIter_list ul ?_
    refine wpAny_bind (wpAny_runValue ?_)
    have uS:l<s.heap.objs.size:=Heap.lt_size uo
    have v3:A.in1.in1.in1.handled=none:=by simp[hh]
    have uI:l≠(s.heap.push { cls:=.type "set",dict:=none,data:=.set #[] 0 (.fresh 0 0 (dP w)) }).objs.size:=by
     rw[Heap.size_push];exact Nat.ne_of_lt (Nat.lt_succ_of_lt uS)
    have uf:s.heap.objs.size∉[(s.heap.push { cls:=.type "set",dict:=none,data:=.set #[] 0 (.fresh 0 0 (dP w)) }).objs.size,l]:=by
     rw[Heap.size_push];simp only[List.mem_cons,List.mem_singleton,List.not_mem_nil,or_false,not_or]
     exact⟨Nat.ne_of_lt (Nat.lt_succ_self _),Nat.ne_of_gt uS⟩
    have uv:∀(i:Nat) (v:Value),its[i]?=some v->∃t,v=.int ((λi=>ns.getD i 0) i) t:=λi v hv =>
     IntsAre.int_at hi i v (by rw[Array.getElem?_toList];exact hv)
    refine KC (led:=dP w) ((Walks.list v3 _ l uI its).toS) s.heap.objs.size
     uf (λi=>ns.getD i 0) uv hb (its.size-0) 0 _ (by omega) (Nat.zero_le _)
     ⟨⟨_,Heap.get?_push_size _ rfl,rfl,rfl⟩,(ul.push _)⟩ ?v0 ?vR
    case v0 =>
     have vg:((s.heap.push { cls:=.type "set",dict:=none,data:=.set #[] 0 (.fresh 0 0 (dP w)) }).push { cls:=.type "list_iterator",data:=.fields #[.ref l,.int 0 0] }).get? s.heap.objs.size
       = some { cls:=.type "set",dict:=none,data:=.set #[] 0 (.fresh 0 0 (dP w)) }:=Heap.get?_push_of_some _ v
     exact⟨_,#[],0,_,vg,⟨rfl,rfl,rfl⟩,rfl,λe he=>by simp at he,λk=>by simp[firstMet_zero],by unfold scanBound;simp,by rfl,rfl,Ju _⟩
    case vR =>
     intro s' hm vS
     obtain⟨h',g',d',tq,yV⟩:=s'
     have eg:g'=s.gens:=hm.gens
     have ed:d'=s.drawn:=hm.drawn
     have eo:yV=s.os:=hm.os
     subst eg;subst ed;subst eo
     show wpAny _ _ _ _ _ _
     refine wpAny_pure ?_
     show wpAny _ _ (ret Value.none) _ _ _
     refine wpAny_pure ⟨rfl,h',tq,rfl,vS,λb o hb e=>?_⟩
     have v1:b≠s.heap.objs.size:=Nat.ne_of_lt hb
     have v2:b≠(s.heap.push { cls:=.type "set",dict:=none,data:=.set #[] 0 (.fresh 0 0 (dP w)) }).objs.size:=by
      rw[Heap.size_push];exact Nat.ne_of_lt (Nat.lt_succ_of_lt hb)
     exact hm.heap b o (by simp only[List.mem_cons,List.mem_singleton,List.not_mem_nil,or_false,not_or];exact⟨v1,v2⟩) (Heap.get?_push_of_some _ (Heap.get?_push_of_some _ e))
   ·cases Qo with
    |error e=>exact vr
    |ok OZ =>
     cases OZ with
     |ret r =>
      obtain⟨rfl,h',tk,rfl,vS,vk⟩:=vr
      repeat (any_goals (first|assumption|wp_step))
      exact h _ _ vS vk
     |_=>exact vr.elim
  |_=>exact hr.elim
end
end TS
namespace TS
open PySem PySem.Spec PyProof.Rows
theorem vH {α:Type}:∀{l:List α} {i:Nat} {x:α},l[i]?=some x->(x::l.eraseIdx i).Perm l
 | [],i,x,h=>by simp at h
 |y::l,0,x,h=>by
  have:y=x:=by simpa using h
  subst this
  exact List.Perm.refl _
 |y::l,i+1,x,h=>by
  have ih:=vH (l:=l) (i:=i) (x:=x) (by simpa using h)
  rw[List.eraseIdx_cons_succ]
  exact(List.Perm.swap y x _).trans (List.Perm.cons y ih)
theorem Dj {α:Type} (next:Nat->Nat):∀(fuel k:Nat) (left:List α) (out:Array α),left.length=fuel->(pickOrder.go next fuel k left out).toList.Perm (out.toList++left)
 |0,k,left,out,h=>by
  have:left=[]:=List.length_eq_zero_iff.mp h
  subst this
  unfold pickOrder.go
  simp
 |fuel+1,k,left,out,h=>by
  unfold pickOrder.go
  have hm:next k % left.length<left.length:=Nat.mod_lt _ (by omega)
  rw[List.getElem?_eq_getElem hm]
  dsimp only
  have he:=vH (List.getElem?_eq_getElem hm)
  have ih:=Dj next fuel (k+1) (left.eraseIdx (next k % left.length)) (out.push left[next k % left.length]) (by rw[List.length_eraseIdx_of_lt hm];omega)
  refine ih.trans ?_
  rw[Array.toList_push,List.append_assoc]
  exact List.Perm.append_left _ he
theorem BR {α:Type} (next:Nat->Nat) (xs:Array α):(pickOrder next xs).toList.Perm xs.toList:=by
 unfold pickOrder
 have:=Dj next xs.size 0 xs.toList #[] (by simp)
 simpa using this
section
variable {P:Program} {w:World} {A:Around} {E:Value->Shared->Prop}
theorem IF {α:Type} (n:Nat):∀(xs:List α) (s:Shared) (Q:List α->Shared->Prop),xs.length=n->(∀ys d,ys.Perm xs->Q ys { s with drawn:=d })->wpAny (model P w) A (drawOrder n xs) Q E s:=by
 induction n with
 |zero =>
  intro xs s Q h hQ
  have:xs=[]:=List.length_eq_zero_iff.mp h
  subst this
  unfold drawOrder
  exact wpAny_pure (hQ [] s.drawn (List.Perm.refl _))
 |succ n ih =>
  intro xs s Q h hQ
  cases xs with
  |nil=>simp at h
  |cons x xs =>
   unfold drawOrder
   refine wpAny_bind (IC (by simp) ?_)
   have hm:w.draws .order (s.drawn.get .order) % (x::xs).length<(x::xs).length:=Nat.mod_lt _ (by simp)
   rw[List.getElem?_eq_getElem hm]
   dsimp only
   refine wpAny_bind (ih _ _ _ (by rw[List.length_eraseIdx_of_lt hm];omega) λys d hp=>?_)
   refine wpAny_pure (hQ _ d ?_)
   exact(List.Perm.cons _ hp).trans (vH (List.getElem?_eq_getElem hm))
theorem KD {s:Shared} {a:Addr} {u:Obj} {es:Array (Int×Value)} {ep:Nat} {t:SetTable} {Q:Value->Shared->Prop} (hu:s.heap.get? a=some u) (hx:u.ExactSet) (hd:u.data=.set es ep t) (hf:t.fits es.size=true) (ht:gF (dP w) t)
  (hsz:es.size<=sizeLine)
  (hQ:∀(h':Heap) (d':Drawn) (I:Addr) (fp:List Addr) (St:Nat->Shared->Prop) (order:List Value),(∀b o,s.heap.get? b=some o->h'.get? b=some o)->(∀b∈fp,b<h'.objs.size)->(∀b∈fp,b=a\/s.heap.objs.size<=b)->I∈fp->s.heap.objs.size<=I->order.Perm (es.toList.map (·.2)) ->
   (∀A':Around,A'.handled=none->WalksS P w A' I fp [I] (λa b=>b=a) es.size (λi v=>order[i]?=some v) St)->St 0 { s with heap:=h',drawn:=d' }->Q (.ref I) { s with heap:=h',drawn:=d' }) :
  wpAny (model P w) A (pyIter (.ref a)) Q E s:=by
 have hT:s.TypeIs (.ref a) "set":=⟨u,hu,hx.1⟩
 have bg:a<s.heap.objs.size:=Heap.lt_size hu
 refine wpAny_pyIter_slot hT F.slot_set_iter (wpAny_call_entry F.slot_set_iter hT Hb ?_ (F.args_set_iter_1 _))
 unfold Builtin.«frozenset.__iter__» Builtin.Frozenset.slot0 slotArgs
 simp only[List.isEmpty_nil,Bool.not_true,Bool.false_eq_true,↓reduceIte,bind_assoc,List.length_nil,bne_self_eq_false]
 unfold Builtin.Frozenset.addrOf Builtin.Frozenset.sizeOf
 refine wpAny_bind (wpAny_pure ?_)
 try dsimp only
 refine wpAny_bind (wpAny_pure ?_)
 refine wpAny_bind (wpAny_bind (wpAny_setEntries_of hu hd hf (wpAny_pure ?_)))
 unfold setDrawn
 refine wpAny_bind (wpAny_bind (wpAny_setState_of hu hd hf ?_))
 dsimp only
 unfold setsByText
 refine wpAny_bind (wpAny_bind (wpAny_askSetting (wpAny_pure ?_)))
 refine wpAny_pure ?_
 show wpAny _ _ (if (!(w.params.followText "set-order")&&(!t.plain&&decide (es.size > 1)))=true then _ else _) _ _ _
 have zm:∀(o1:Obj) b o,s.heap.get? b=some o->(s.heap.push o1).get? b=some o:=λo1 b o e=>Heap.get?_push_of_some _ e
 by_cases hc:(!w.params.followText "set-order"&&(!t.plain&&decide (es.size > 1)))=true
 ·rw[if_pos hc]
  refine wpAny_bind (IF _ _ _ _ (by simp) λys d hp=>?_)
  refine wpAny_bind ?_
  simp only[newTuple]
  refine wpAny_newObj_type ?_ (by have:=hp.length_eq;rw[List.length_range] at this;show (List.toArray _).size<=sizeLine;rw[List.size_toArray,List.length_map,this];exact hsz)
  have kq:∀x∈ys,x<es.size:=λx hx=>by simpa using hp.mem_iff.mp hx
  have hl:ys.length=es.size:=by simpa using hp.length_eq
  refine wpAny_bind (wpAny_setEpoch_of (Heap.get?_push_of_some _ hu) hd hf ?_)
  refine wpAny_bind (wpAny_newObj_type ?_)
  refine wpAny_pure ⟨_,rfl,"set_iterator",_,⟨_,Heap.get?_push_size _ rfl,rfl⟩,iO.lookup,?_⟩
  have oZ:(s.heap.push { cls:=.type "tuple",data:=.seq (ys.map λ(i:Nat)=>rawInt i).toArray }).objs.size=s.heap.objs.size+1:=by simp[Heap.size_push]
  refine hQ _ d _ [_,a,s.heap.objs.size] _ (ys.map λk=>(es.getD k (0,Value.none)).2) (λb o e=>Heap.get?_push_of_some _ (Heap.get?_push_of_some _ e)) ?_ ?_ (by simp) (by rw[oZ];exact Nat.le_succ _) ?_ (λA' ha=>HW (u:=u) (t:=t) (ep:=ep) ha (I:=_) (a:=a) (tp:=s.heap.objs.size) (by rw[oZ];exact Nat.ne_of_lt (Nat.lt_succ_of_lt bg)) (by rw[oZ];exact Nat.ne_of_lt (Nat.lt_succ_self _)) hd hf ys hl kq) ⟨⟨_,Heap.get?_push_size _ rfl,rfl,rfl⟩,Heap.get?_push_of_some _ (Heap.get?_push_of_some _ hu),⟨_,Heap.get?_push_of_some _ (Heap.get?_push_size _ rfl),rfl,_,rfl⟩⟩
  ·intro b hb
   simp only[List.mem_cons,List.not_mem_nil,or_false] at hb
   rw[Heap.size_push]
   rcases hb with e|e|e
   ·rw[e];exact Nat.lt_succ_self _
   ·rw[e,oZ];exact Nat.lt_succ_of_lt (Nat.lt_succ_of_lt bg)
   ·rw[e,oZ];exact Nat.lt_succ_of_lt (Nat.lt_succ_self _)
  ·intro b hb
   simp only[List.mem_cons,List.not_mem_nil,or_false] at hb
   rcases hb with e|e|e
   ·right;rw[e,oZ];exact Nat.le_succ _
   ·exact .inl e
   ·right;rw[e];exact Nat.le_refl _
  ·refine(List.Perm.map _ hp).trans ?_
   have:(List.range es.size).map (λk=>(es.getD k (0,Value.none)).2)=es.toList.map (·.2):=by
    apply List.ext_getElem?
    intro i
    rw[List.getElem?_map,List.getElem?_map]
    by_cases hi:i<es.size
    ·rw[List.getElem?_range hi,Array.getElem?_toList]
     simp[Array.getD,hi]
    ·rw[List.getElem?_eq_none (by simpa using hi),List.getElem?_eq_none (by simpa using hi)]
     rfl
   rw[this]
 ·rw[if_neg hc]
  refine wpAny_bind (wpAny_pure ?_)
  refine wpAny_bind (wpAny_setEpoch_of hu hd hf ?_)
  refine wpAny_bind (wpAny_newObj_type ?_)
  refine wpAny_pure ⟨_,rfl,"set_iterator",_,⟨_,Heap.get?_push_size _ rfl,rfl⟩,iO.lookup,?_⟩
  have au:∀(o1:Obj),∀b∈[s.heap.objs.size,a],b<(s.heap.push o1).objs.size:=λo1 b hb=>by
   simp only[List.mem_cons,List.not_mem_nil,or_false] at hb
   rw[Heap.size_push]
   rcases hb with e|e
   ·rw[e];exact Nat.lt_succ_self _
   ·rw[e];exact Nat.lt_succ_of_lt bg
  have FL:∀b∈[s.heap.objs.size,a],b=a\/s.heap.objs.size<=b:=λb hb=>by
   simp only[List.mem_cons,List.not_mem_nil,or_false] at hb
   rcases hb with e|e
   ·right;rw[e];exact Nat.le_refl _
   ·exact .inl e
  cases gw:w.params.followText "set-order" with
  |true =>
   have Rj:(pickOrder (w.params.setOrder a ep) es).size=es.size:=by
    have:=(BR (w.params.setOrder a ep) es).length_eq
    simpa using this
   have hw:∀A':Around,A'.handled=none->WalksS P w A' s.heap.objs.size [s.heap.objs.size,a] [s.heap.objs.size] (λa b=>b=a) es.size (λi v=>((pickOrder (w.params.setOrder a ep) es).toList.map (·.2))[i]?=some v) _:=λA' ha=>by
    have:=ID (P:=P) (u:=u) (t:=t) ha (I:=s.heap.objs.size) (a:=a) (Nat.ne_of_lt bg) gw hd hf Rj
    simpa using this
   exact hQ _ s.drawn _ [_,a] _ ((pickOrder (w.params.setOrder a ep) es).toList.map (·.2)) (λb o e=>Heap.get?_push_of_some _ e) (au _) FL (by simp) (Nat.le_refl _) (List.Perm.map _ (BR _ _)) hw ⟨⟨_,Heap.get?_push_size _ rfl,rfl,rfl⟩,Heap.get?_push_of_some _ hu⟩
  |false =>
   have hp:t.plain=true\/es.size<=1:=by
    rw[gw] at hc
    simp at hc
    cases cN:t.plain with
    |true=>exact .inl rfl
    |false=>exact .inr (hc cN)
   have hl:t.led=true:=by rw[ht.led];unfold dP;rw[gw];rfl
   have hr:iZ t.place.toList:=by
    rcases hp with hp|hp
    ·exact ht.rise hp
    ·simp only[SetTable.fits,Bool.and_eq_true,beq_iff_eq,decide_eq_true_eq] at hf
     have hle:t.place.toList.length<=1:=by simp[hf.1];exact hp
     match t.place.toList,hle with
     | [],_=>exact List.Pairwise.nil
     | [x],_=>exact List.pairwise_singleton _ _
   have hw:∀A':Around,A'.handled=none->WalksS P w A' s.heap.objs.size [s.heap.objs.size,a] [s.heap.objs.size] (λa b=>b=a) es.size (λi v=>(es.toList.map (·.2))[i]?=some v) _:=λA' ha=>by
    have:=HV (P:=P) (u:=u) (t:=t) (ep:=ep) ha (I:=s.heap.objs.size) (a:=a) (Nat.ne_of_lt bg) gw hd hf hl hp hr
    simpa using this
   exact hQ _ s.drawn _ [_,a] _ (es.toList.map (·.2)) (λb o e=>Heap.get?_push_of_some _ e) (au _) FL (by simp) (Nat.le_refl _) (List.Perm.refl _) hw ⟨0,⟨_,Heap.get?_push_size _ rfl,rfl,rfl⟩,Heap.get?_push_of_some _ hu,Nat.zero_le _,λk hk=>by omega,λk _ _=>Nat.zero_le _⟩
end
end TS
namespace TS
open PySem PySem.Spec PyProof.Rows
section
variable {P:Program} {w:World} {A:Around} {E:Value->Shared->Prop} {s:Shared}
theorem split_len:splitId "set.__len__"=some ("set","__len__"):=by decide +kernel
theorem ints_of {es:List (Int×Value)} (h:ElemsOf (intKind P w) es) {vs:List Value} (hp:vs.Perm (es.map (·.2))):∃ns,IntsAre vs ns:=by
 have hv:∀v∈vs,∃k t,v=.int k t:=λv hv=>by
  obtain⟨e,he,rfl⟩:=List.mem_map.mp (hp.mem_iff.mp hv)
  obtain⟨⟨k,hk,_⟩,_⟩:=h e he
  cases hx:e.2 with
  |int i t=>exact⟨i,t,rfl⟩
  |_=>rw[hx] at hk;simp[intKind,Value.isInt] at hk
 clear hp
 induction vs with
 |nil=>exact⟨[],.nil⟩
 |cons v vs ih =>
  obtain⟨k,t,rfl⟩:=hv v List.mem_cons_self
  obtain⟨ns,h2⟩:=ih λx hx=>hv x (List.mem_cons_of_mem _ hx)
  exact⟨k::ns,.cons k t h2⟩
theorem Ec {α:Type} {c:Bool} {x y:Sem α} {Q:α->Shared->Prop} (hc:c=true) (h:wpAny (model P w) A x Q E s):wpAny (model P w) A (if c=true then x else y) Q E s:=by
 rw[if_pos hc];exact h
theorem HX {a:Addr} {u:Obj} {es:Array (Int×Value)} {ep:Nat} {t:SetTable} {Q:List Value->Shared->Prop} (hh:A.handled=none) (hu:s.heap.get? a=some u) (hx:u.ExactSet) (hd:u.data=.set es ep t) (hf:t.fits es.size=true) (ht:gF (dP w) t) (hsz:es.size<scanBound)
  (hQ:∀(h':Heap) (d':Drawn) (tk:Nat) (vs:List Value),s.heap.objs.size<=h'.objs.size->(∀b o,s.heap.get? b=some o->h'.get? b=some o)->vs.Perm (es.toList.map (·.2))->Q vs { s with heap:=h',drawn:=d',toks:=tk }):wpAny (model P w) A (collect (.ref a)) Q E s:=by
 have hz:es.size<=sizeLine:=fits_of_scanBound hsz
 have bg:a<s.heap.objs.size:=Heap.lt_size hu
 unfold collect
 refine wpAny_bind (wpAny_runValue (codeAny_builtin F.entry_proto_collect ?_))
 rw[Around.under_plainId F.plain_proto_collect _]
 show wpAny _ A.in1 (newList [] >>= λl=>again (.builtin "list.__iadd__" ⟨[l,.ref a],[]⟩)) _ _ s
 refine wpAny_bind (wpAny_newObj_type ?_)
 refine wpAny_pure ⟨plainId_quiet F.plain_list_iadd _,codeAny_builtin F.entry_list_iadd ?_⟩
 rw[Around.under_plainId F.plain_list_iadd _]
 show wpAny _ A.in1 (Builtin.List.listExtendWith (.ref s.heap.objs.size) (.ref a) (.ref s.heap.objs.size)) _ _ _
 generalize fL:({ s with heap:=s.heap.push { cls:=.type "list",data:=.seq ([]:List Value).toArray } }:Shared)=s1
 have rm:s1.heap.objs.size=s.heap.objs.size+1:=by rw[<- fL];simp[Heap.size_push]
 have yw:∀b o,s.heap.get? b=some o->s1.heap.get? b=some o:=λb o e=>by rw[<- fL];exact Heap.get?_push_of_some _ e
 have zo:s1.heap.get? a=some u:=by rw[<- fL];exact Heap.get?_push_of_some _ hu
 have hT:s1.TypeIs (.ref a) "set":=⟨u,zo,hx.1⟩
 have Rk:s1.heap.get? s.heap.objs.size=some { cls:=.type "list",data:=.seq ([]:List Value).toArray }:=by rw[<- fL];exact Heap.get?_push_size _ rfl
 unfold Builtin.List.listExtendWith
 refine wpAny_bind (wpAny_typeOf hT ?_)
 have n1:Builtin.List.listSameRef (.ref s.heap.objs.size) (.ref a)=false:=by
  simp[Builtin.List.listSameRef]
  exact Nat.ne_of_gt bg
 have n2:(Value.type "set"==Value.type "list")=false:=by decide
 have n3:(Value.type "set"==Value.type "tuple")=false:=by decide
 simp only[n1,n2,n3,Bool.or_false,Bool.false_eq_true,if_false]
 refine wpAny_bind (KD zo hx hd hf ht hz λh' d' I fp St order k1 k2 k6 k3 k4 k5 W st=>?_)
 have zp:Shared.TypeIs { s1 with heap:=h',drawn:=d' } (.ref a) "set":=⟨u,k1 _ _ zo,hx.1⟩
 have Gr:=k1 _ _ Rk
 refine wpAny_bind (wpAny_holding ?_)
 unfold Builtin.List.listLengthHint
 refine wpAny_bind (wpAny_specialOf zp F.slot_set_len.lookup ?_)
 dsimp only
 rw[split_len]
 dsimp only
 refine wpAny_bind (wpAny_isInstance zp sub_set_self ?_)
 rw[if_neg (by decide)]
 refine Ec (by decide +kernel) ?_
 refine wpAny_bind (wpAny_typeOf zp ?_)
 dsimp only
 refine wpAny_pure ?_
 refine Ec (by decide +kernel) ?_
 ··refine wpAny_bind (wpAny_rule ?_)
   refine wpAny_bind ?_
   show wpAny _ A.in1 (updateSeq s.heap.objs.size (·.push .none) >>= λ_=>updateSeq s.heap.objs.size (·.pop)) _ _ _
   refine wpAny_bind (wpAny_updateSeq Gr rfl ?_)
   have Gs:=Heap.get?_update_self (Obj.mapSeq (·.push Value.none)) Gr rfl
   refine wpAny_updateSeq Gs rfl ?_
   have Rl:=Heap.get?_update_self (Obj.mapSeq (·.pop)) Gs rfl
   have rl:s.heap.objs.size∉fp:=λhm=>by
    rcases k6 _ hm with e|e
    ·exact Nat.ne_of_gt bg e
    ·rw[rm] at e;exact Nat.not_succ_le_self _ e
   have zm:∀b o,b≠s.heap.objs.size->h'.get? b=some o->((h'.update s.heap.objs.size (Obj.mapSeq (·.push Value.none))).update s.heap.objs.size (Obj.mapSeq (·.pop))).get? b=some o :=
    λb o hb e=>(Heap.get?_update_other _ _ (Ne.symm hb)).trans ((Heap.get?_update_other _ _ (Ne.symm hb)).trans e)
   refine wpAny_pure ⟨plainId_quiet F.plain_extend_loop _,codeAny_extend_loopS (W A.in1 (by simp[hh])) hz _ rl _ es.size 0 _ _ _ rfl (Nat.zero_le _) ((W A.in1 (by simp[hh])).frame 0 ({ s1 with heap:=h',drawn:=d' }:Shared) _ s1.toks st (Nat.le_refl _) λb hb o e=>zm b o (λz=>rl (z ▸ hb)) e) Rl (ItemsOf.nil _) λs' acc c m Gu jv=>?_⟩
   show wpAny _ A (load s.heap.objs.size >>= _) _ _ s'
   refine wpAny_bind (wpAny_load Gu ?_)
   refine wpAny_pure ?_
   have Rm:order.length=es.size:=by simpa using k5.length_eq
   have Qp:acc.toList=order:=by
    apply List.ext_getElem?
    intro j
    by_cases hj:j<acc.size
    ·have e1:acc[j]?=some acc[j]:=by simp[hj]
     rw[Array.getElem?_toList,e1,jv.2 j _ e1]
    ·rw[List.getElem?_eq_none (by simpa using hj),List.getElem?_eq_none (by rw[Rm,<- jv.1];omega)]
   obtain⟨h2,g2,d2,t2,o2⟩:=s'
   have eg:g2=s1.gens:=m.gens
   have ed:d2=d':=m.drawn
   have eo:o2=s1.os:=m.os
   subst eg ed eo
   have q:=hQ h2 d2 t2 acc.toList (Nat.le_of_lt (Heap.lt_size Gu)) (λb o e=>m.heap b o (λhb=>by
    simp only[List.mem_cons,List.not_mem_nil,or_false] at hb
    have ku:=Heap.lt_size e
    rcases hb with z|z
    ·rw[z] at ku;exact Nat.lt_irrefl _ ku
    ·rw[rm] at k4;rw[z] at ku;exact Nat.lt_irrefl _ (Nat.lt_of_lt_of_le ku (Nat.le_of_succ_le k4))) (zm b o (λz=>by
     have ku:=Heap.lt_size e
     rw[z] at ku;exact Nat.lt_irrefl _ ku) (k1 b o (yw b o e)))) (by rw[Qp];exact k5)
   rw[<- fL]
   exact q
end
end TS
namespace TS
open PySem PySem.Spec PyProof.Rows
section
variable {P:Program} {w:World} {A:Around} {E:Value->Shared->Prop} {s:Shared}
theorem IG {a:Addr} {u:Obj} {es:Array (Int×Value)} {ep:Nat} {t:SetTable} {Q:Value->Shared->Prop} (hh:A.handled=none) (hu:s.heap.get? a=some u) (hx:u.ExactSet) (hd:u.data=.set es ep t) (hf:t.fits es.size=true) (ht:gF (dP w) t) (zq:ElemsOf (intKind P w) es.toList) (Tr:es.size<64)
  (h:∀(h':Heap) (d':Drawn) (tk:Nat) (p:Addr) (vs:List Value) (ns:List Int) (out:List Value) (ms:List Int) (e:Nat),(∀b o,s.heap.get? b=some o->h'.get? b=some o)->s.heap.objs.size<=p->vs.Perm (es.toList.map (·.2))->IntsAre vs ns->h'.get? p=some { cls:=.type "list",data:=.seq out.toArray e }->IntsAre out ms->ms.Perm ns->ms.Pairwise (·<=·)->Q (.ref p) { s with heap:=h',drawn:=d',toks:=tk }) :
  wpAny (model P w) A (call (.builtin "sorted") [.ref a]) Q E s:=by
 refine Calls.call_function_entry kind_sorted plain_sorted entry_sorted (args_sorted1 _) ?_
 unfold Builtin.«sorted»
 refine wpAny_bind (m:=checkCount "sorted" 1 1 _) (wpAny_pure ?_)
 refine wpAny_bind (HX (by simp[hh]) hu hx hd hf ht (by unfold scanBound;omega) λh' d' tk vs k0 k1 k2=>?_)
 obtain⟨ns,hI⟩:=ints_of zq k2
 have hl:vs.length<64:=by have:=k2.length_eq;simp at this;omega
 refine wpAny_bind (wpAny_newList ?_)
 have qM:(h'.push (seqObj "list" vs.toArray 0)).get? h'.objs.size=some (seqObj "list" vs.toArray 0):=Heap.get?_push_size _ rfl
 refine wpAny_bind (wpAny_holding (wpAny_call_entry slot_list_sort ⟨_,qM,rfl⟩ entry_list_sort (list_sort_tree qM hI hl λout ms a1 a2 a3=>⟨_,rfl,?_⟩) (args_list_sort _)))
 obtain⟨e,he⟩:=sortedHeap_at (out:=out) qM
 refine wpAny_pure ⟨_,rfl,h _ d' tk h'.objs.size vs ns out.toList ms e (λb o hb=>?_) ?_ k2 hI (by simpa [seqObj] using he) a1 a2 a3⟩
 ·have fK:=k1 b o hb
  have bg:=Heap.lt_size fK
  rw[sortedHeap_old (Nat.ne_of_lt bg) (by rw[size_push'];exact Nat.lt_succ_of_lt bg)]
  exact Heap.get?_push_of_some _ fK
 ·exact k0
end
end TS
namespace L2
open PySem PySem.Spec PyProof.Rows
noncomputable def jw (P:Program) (w:World) (p:Addr) (ns:List Int):Heap->Prop:=λh=>∃(S:Int->Bool) (n:Nat),TS.fE P w (TS.dP w) h p S n/\(∀k,S k=true↔k∈ns)/\n<=ns.length/\n=(ns.foldl step_dedup []).length
section
variable {X:Cx}
theorem kJ (l:List Int) (k:Int):(l.any (·==k))=true↔k∈l:=by
 rw[List.any_eq_true]
 exact⟨λ⟨x,h1,h2⟩=>by rw[<- beq_iff_eq.mp h2];exact h1,λh=>⟨k,h,by simp⟩⟩
theorem L7 {h:Heap} {p:Addr} {ns:List Int} {m:Nat} (hm:m=ns.length) (hS:TS.fE X.prog X.w (TS.dP X.w) h p (λk'=>(firstMet (λi=>ns.getD i 0) m).any (·==k')) (firstMet (λi=>ns.getD i 0) m).length):jw X.prog X.w p ns h:=by
 subst hm
 refine⟨_,_,hS,λk=>?_,firstMet_length_le _ _,?_⟩
 ·rw[firstMet_any,map_getD]
  exact kJ ns k
 ·unfold firstMet
  rw[map_getD]
theorem L8 {H:Hp} {h:Heap} {p:Addr} {ns:List Int} (hx:jw X.prog X.w p ns h):cQ X.prog X.w (upd H p (.ext (jw X.prog X.w p ns))) h p (.ext (jw X.prog X.w p ns)):=by
 refine⟨hx,?_,λh1 h2 q k=>?_⟩
 ·obtain⟨_,_,⟨o,_,_,_,ho,_⟩,_⟩:=hx
  exact⟨o,ho⟩
 ·obtain⟨S,n,T,r⟩:=q
  exact⟨S,n,T.at k,r⟩
theorem IH (hc:X.calm=true):bV X (.type "set") (λxs H Q=>∃(a:Addr) (ns:List Int),xs=[.ref a]/\bG X.K H a (ns.map V.int)/\ns.length<4000/\∀p,H p=none->Q (.ref p) (upd H p (.ext (jw X.prog X.w p ns)))):=by
 intro pins s σ H xs us Q I r h
 obtain⟨a,ns,rfl,ha,hl,q⟩:=h
 obtain⟨u,rfl,ru⟩:=vals1 r
 cases ru
 obtain⟨its,rv,p,_⟩:=I.list ha
 have hn:its.toArray.size=ns.length:=by
  have e:=rv.length
  rw[List.length_map] at e
  simpa using e.symm
 refine TS.IE (its:=its.toArray) (ns:=ns) (I.ok.hd hc) p.isList (by simpa using intsAre_of rv) (by rw[hn];show ns.length+1<4096;omega) λh' tk hS hk=>?_
 exact⟨.ref _,_,I.laid (t':=tk) (λb o e=>hk b o (Heap.lt_size e) e) (Nat.le_refl _) (L8 (L7 hn hS)),rfl,q _ (I.aH.fresh (Nat.le_refl _))⟩
theorem AR:∀{out:List Value} {ms:List Int},IntsAre out ms->Vals (ms.map V.int) out
 |_,_,.nil=>.nil
 |_,_,.cons n t h=>.cons ⟨t,rfl⟩ (AR h)
theorem A7:∀(ns acc:List Int),acc.Nodup->(ns.foldl step_dedup acc).Nodup
 | [],acc,h=>h
 |n::ns,acc,h=>by
  refine A7 ns _ ?_
  unfold step_dedup
  split
  ·exact h
  ·rename_i hn
   rw[Bool.not_eq_true] at hn
   refine List.nodup_append.mpr ⟨h,by simp,λa ha b hb=>?_⟩
   have:b=n:=by simpa using hb
   subst this
   intro e
   subst e
   rw[(kJ acc a).mpr ha] at hn
   cases hn
theorem Cv:∀{vs:List Value} {ns:List Int},IntsAre vs ns->∀k,k∈ns↔∃t,Value.int k t∈vs
 |_,_,.nil,k=>by simp
 |_,_,.cons n t h,k=>by
  rw[List.mem_cons,Cv h k]
  constructor
  ·rintro (e | ⟨t',h'⟩)
   ·subst e;exact⟨t,List.mem_cons_self⟩
   ·exact⟨t',List.mem_cons_of_mem _ h'⟩
  ·rintro ⟨t',h'⟩
   rcases List.mem_cons.mp h' with e|h'
   ·injection e with e _;exact .inl e
   ·exact .inr ⟨t',h'⟩
theorem sub_len:∀{m l:List Int},m.Nodup->(∀k,k∈m->k∈l)->m.length<=l.length
 | [],l,_,_=>Nat.zero_le _
 |x::m,l,h,hk=>by
  obtain⟨h1,h2⟩:=List.nodup_cons.mp h
  have hx:=hk x List.mem_cons_self
  have ih:=sub_len (m:=m) (l:=l.erase x) h2 λk hm=>(List.mem_erase_of_ne (λ(e:k=x)=>h1 (by rw[<- e];exact hm))).mpr (hk k (List.mem_cons_of_mem _ hm))
  rw[List.length_erase_of_mem hx] at ih
  have:=List.length_pos_of_mem hx
  rw[List.length_cons]
  omega
theorem AS:∀{l m:List Int},m.Nodup->(∀k,k∈m↔k∈l)->l.length<=m.length->l.Nodup
 | [],m,_,_,_=>List.nodup_nil
 |a::r,m,hm,hk,hl=>by
  have ha:a∉r:=λh=>by
   have:=sub_len hm λk h'=>(List.mem_cons.mp ((hk k).mp h')).elim (λe=>e ▸ h) id
   rw[List.length_cons] at hl
   omega
  have Rn:a∈m:=(hk a).mpr List.mem_cons_self
  refine List.nodup_cons.mpr ⟨ha,AS (m:=m.erase a) (hm.erase a) (λk=>?_) ?_⟩
  ·rw[hm.mem_erase_iff,hk k,List.mem_cons]
   constructor
   ·rintro ⟨h1,h2|h2⟩
    ·exact absurd h2 h1
    ·exact h2
   ·intro h
    exact⟨λe=>ha (e ▸ h),.inr h⟩
  ·rw[List.length_erase_of_mem Rn]
   rw[List.length_cons] at hl
   omega
theorem Hx (hc:X.calm=true):bV X (.builtin "sorted") (λxs H Q=>∃(p:Addr) (ns:List Int),xs=[.ref p]/\H p=some (.ext (jw X.prog X.w p ns))/\ns.length<64 /\
  ∀(l:Addr) (ms:List Int),H l=none->ms.Pairwise (· < ·)->(∀k,k∈ms↔k∈ns)->Q (.ref l) (upd H l (.lst (ms.map V.int)))):=by
 intro pins s σ H xs us Q I r h
 obtain⟨p,ns,rfl,hp,hl,q⟩:=h
 obtain⟨v,rfl,rv⟩:=vals1 r
 cases rv
 obtain⟨⟨S,n,⟨u,es,ep,t,hu,hx,hd,zq,Qq,hb,hf,hn,ht⟩,hS,zr,oU⟩,_⟩:=I.aH p _ hp
 refine TS.IG (I.ok.hd hc) hu hx hd hf ht zq (by omega) λh' d' tk l vs ks out ms e k1 k2 k3 k4 k5 k6 k7 k8=>?_
 have EY:∀k,k∈ms↔k∈ns:=λk=>by
  rw[k7.mem_iff,Cv k4 k,<- hS k,Qq k]
  constructor
  ·rintro ⟨t',Ro⟩
   obtain⟨x,kz,jH⟩:=List.mem_map.mp (k3.mem_iff.mp Ro)
   exact⟨x,kz,by rw[jH];exact intKind_is _ _ _ _⟩
  ·rintro ⟨x,kz,jH⟩
   obtain⟨i,t',e'⟩:∃i t',x.2=.int i t':=by
    cases hv:x.2 with
    |int i t'=>exact⟨i,t',rfl⟩
    |_=>rw[hv] at jH;simp[intKind,Value.isInt] at jH
   have mY:k=i:=(intKind X.prog X.w).inj (.int i t') k i (by rw[<- e'];exact jH) (intKind_is _ _ _ _)
   subst mY
   exact⟨t',k3.mem_iff.mpr (List.mem_map.mpr ⟨x,kz,e'⟩)⟩
 have Qr:ms.Nodup:=by
  have mZ:=A7 ns [] List.nodup_nil
  refine AS mZ (λk=>?_) ?_
  ·rw[EY k,<- kJ,<- kJ]
   have:=firstMet_any (λi=>ns.getD i 0) ns.length k
   unfold firstMet at this
   rw[map_getD] at this
   rw[this]
  ·rw[<- oU,<- hn]
   have e1:=k7.length_eq
   have e2:=k4.length
   have e3:=k3.length_eq
   simp at e3
   omega
 have bg:ms.Pairwise (· < ·):=by
  have:=List.pairwise_and_iff.mpr ⟨k8,Qr⟩
  exact this.imp λ⟨a,b⟩=>by omega
 have J:=I.laid (t':=tk) (a:=l) (o:=.lst (ms.map V.int)) k1 k2 ⟨by
  rw[List.length_map,sizeLine_eq]
  have e1:=k7.length_eq
  have e2:=k4.length
  have e3:=k3.length_eq
  simp at e3
  omega,out,e,AR k6,k5⟩
 exact⟨.ref l,_,J.xH (s':={ s with heap:=h',drawn:=d',toks:=tk }) (ch:=[]) rfl Un.refl J.aH J.bare (λb hb=>by cases hb),rfl,q l ms (I.aH.fresh k2) bg EY⟩
end
end L2
namespace L2
open PySem PySem.Spec PyProof.Rows
section
variable {X:Cx}
end
end L2
namespace L2
open PySem PySem.Spec PyProof.Rows
mutual
noncomputable def rn:PyData->Bool
 | .tuple ds=>oF ds
 | .list _=>false
 |_=>true
noncomputable def oF:List PyData->Bool
 | []=>true
 |d::ds=>rn d&&oF ds
end
section
variable {X:Cx} {pins:List (Addr×Obj)} {σ:St} {H:Hp} {s:Shared} {Z:Addr->Prop}
mutual
theorem DV.pU (I:Inv X pins σ H s):∀{d:PyData} {v:V} {u:Value},DV X.K Z H d v->RelV v u->rn d=true->∃as,Reads s.heap u d as/\sysModules∉as
 | .none,v,u,h,r,_=>by
  have e:v=.aA:=h
  subst e;cases r
  exact⟨[],.none,by simp⟩
 | .bool b,v,u,h,r,_=>by
  have e:v=.bl b:=h
  subst e;cases r
  exact⟨[],.bool b,by simp⟩
 | .int i,v,u,h,r,_=>by
  have e:v=.int i:=h
  subst e;obtain⟨t,rfl⟩:=r
  exact⟨[],.int i t,by simp⟩
 | .str x,v,u,h,r,_=>by
  have e:v=.str x:=h
  subst e;obtain⟨t,rfl⟩:=r
  exact⟨[],.str x t,by simp⟩
 | .tuple ds,v,u,h,r,hn=>by
  simp only[DV] at h
  obtain⟨a,xs,e,hq,hr⟩:=h
  subst e;cases r
  obtain⟨its,rv,⟨o,e,c,n,hd⟩,_⟩:=I.tuple hq
  obtain⟨as,rs,hs⟩:=aq.pU I hr rv (by simpa only [rn] using hn)
  exact⟨as,.tuple e c hd (by simpa using rs),hs⟩
 | .list ds,v,u,h,r,hn=>by
  simp only[rn] at hn
  cases hn
 | .dict ak,v,u,h,r,_=>by
  simp only[DV] at h
  obtain⟨a,es,e,_,hq,l,e1,e2⟩:=h
  subst e e1 e2;cases r
  obtain⟨_,yr,vs,kv,o,ff,ep,g1,g2,g3,_,g5,_⟩:=(show cQ X.prog X.w H s.heap a (.dK _) from I.aH a _ hq)
  obtain⟨r1,r2⟩:=sg (h:=s.heap) kv g5
  refine⟨a::[]++[],.dict g1 g2.1 g3 r1 r2,λhm=>?_⟩
  have e:sysModules=a:=by simpa using hm
  subst e
  simp at yr
theorem aq.pU (I:Inv X pins σ H s):∀{ds:List PyData} {vs:List V} {us:List Value},aq X.K Z H ds vs->Vals vs us->oF ds=true->∃as,ReadsAll s.heap us ds as/\sysModules∉as
 | [],vs,us,h,r,_=>by
  have e:vs=[]:=h
  subst e;cases r
  exact⟨[],.nil,by simp⟩
 |d::ds,vs,us,h,r,hn=>by
  obtain⟨v,rr,e,h1,h2⟩:=h
  subst e
  simp only[oF,Bool.and_eq_true] at hn
  cases r with
  |cons ru rt =>
   obtain⟨as,a1,n1⟩:=DV.pU I h1 ru hn.1
   obtain⟨bs,a2,n2⟩:=aq.pU I h2 rt hn.2
   refine⟨as++bs,.cons a1 a2,λhm=>?_⟩
   rcases List.mem_append.mp hm with z|z
   ·exact n1 z
   ·exact n2 z
end
end
section
variable {X:Cx}
theorem II {k:Nat} (hr:cq k X.A):bV X (.builtin "repr") (λxs H Q=>∃(x:V) (ds:List PyData) (Z:Addr->Prop),xs=[x]/\DV X.K Z H (.tuple ds) x/\(PyData.tuple ds).showable=true/\((PyData.tuple ds).hasDict=false\/oF ds=true)/\(PyData.tuple ds).depth<=100/\(PyData.tuple ds).shown.length<=sizeLine/\Q (.str (PyData.tuple ds).shown) H):=by
 intro pins s σ H xs us Q I r h
 obtain⟨x,ds,Z,rfl,hd,hs,oU,rf,hz,q⟩:=h
 obtain⟨u,rfl,ru⟩:=vals1 r
 have u0:X.A.units+((PyData.tuple ds).depth+1)<cLine:=by have:=hr.un;omega
 have go:∀as,Reads s.heap u (.tuple ds) as->((PyData.tuple ds).hasDict=true->sysModules∉as)->wpAny (model X.prog X.w) X.A (call (.builtin "repr") [u]) (EP X pins σ Q) X.xe s:=λas rd zf=>by
  obtain⟨a,e⟩:∃a,u=.ref a:=by cases rd;exact⟨_,rfl⟩
  subst e
  exact repr_of_reads' rd hs zf hr.gd u0 (λ_ _ e=>e) (λh' t tk hk=>⟨.str _,H,I.kept (t':=tk) hk,⟨t,rfl⟩,q⟩) hz
 rcases oU with e|e
 ·obtain⟨as,rd⟩:=hd.reads I ru
  exact go as rd λz=>by rw[e] at z;cases z
 ·obtain⟨as,rd,hn⟩:=hd.pU I ru (by simpa only [rn] using e)
  exact go as rd λ_=>hn
end
end L2
namespace HZ
open PySem PySem.Spec PyProof.Rows
open AutoSeq1 (wpAny_loadPart')
section
variable {P:Program} {w:World} {A:Around} {E:Value->Shared->Prop} {s:Shared}
end
end HZ
namespace L2
open PySem PySem.Spec PyProof.Rows
section
variable {X:Cx} {elts:List Expr} {kk:Nat} {tp:Pos}
end
end L2
namespace L2
open PySem PySem.Spec PyProof.Rows
section
variable {K:Frag} {caps:St} {H:Hp} {tf:TT} {te:TE} {Q:VK}
end
end L2
namespace HZ
open PySem PySem.Spec PyProof.Rows
theorem G2:fillsNumberSlot (.type "tuple") "mul"=pure false:=by
 first|rfl | (unfold fillsNumberSlot;kernel_rfl)|kernel_rfl
theorem Hy:seqRepeat? (.type "tuple")=pure (some (.builtin "tuple.__mul__")):=by
 first|rfl|kernel_rfl
theorem IJ (a:Int) (t:Tok) (l:Addr) (items:Array Value) (n:Nat) (d:Option Addr) (sl:Array (Option Value)) :
  Meets (Builtin.«int.__rmul__» ⟨[.int a t,.ref l],[]⟩) (λ_ R s=>s.heap.get? l=some { cls:=.type "tuple",dict:=d,data:=.seq items n,slots:=sl }/\R (.ok (.ret Value.notImplemented)) s) :=
 .of_wp λprog w A R s h=>by
  obtain⟨h1,h2,h3,h4,h5⟩:=s;obtain⟨hl,h⟩:=h;wp_walk;exact⟨_,rfl,h⟩
section
variable {P:Program} {w:World} {A:Around} {E:Value->Shared->Prop} {s:Shared}
theorem L9 {t:Addr} {vs:List Value} {k:Int} {tk:Tok} {Q:Value->Shared->Prop} (ht:IsTup s.heap t vs.toArray) (hv:vs≠[]) (hk:1<=k) (hz:vs.length*k.toNat<=sizeLine)
  (h1:k=1->Q (.ref t) s) (h2:k≠1->Q (.ref s.heap.objs.size) { s with heap:=s.heap.push { cls:=.type "tuple",data:=.seq (List.replicate k.toNat vs).flatten.toArray } }) :
  wpAny (model P w) A (binaryOp .Mult (.ref t) (.int k tk)) Q E s:=by
 obtain⟨⟨cls,dd,data,sl⟩,ho,hc,n,hd⟩:=id ht
 simp only at hc hd
 subst hc hd
 have lB:k<=16777216:=by
  have hl:1<=vs.length:=by
   cases vs with
   |nil=>exact absurd rfl hv
   |cons a r=>simp
  have jG:vs.length*k.toNat<=16777216:=by rw[<- sizeLine_eq];exact hz
  have:1*k.toNat<=vs.length*k.toNat:=Nat.mul_le_mul_right _ hl
  omega
 refine wpAny_binaryOp_repeat_ref (T:="tuple") (U:="int") (by decide) ⟨_,ho,rfl⟩ (λs'=>typeIs_int s' k tk) G2 F.fills_int_mul F.slot_int_rmul Hy F.slot_int_index.lookup
  (call_meets F.slot_int_rmul (typeIs_int s k tk) F.entry_int_rmul (F.args_int_rmul_2 _ _) (IJ k tk t vs.toArray n dd sl) ⟨ho,rfl,⟨_,ho,rfl⟩,?_⟩)
 refine wpAny_call_entry F.slot_tuple_mul ⟨_,ho,rfl⟩ F.entry_tuple_mul ?_ (F.args_tuple_mul_2 _ _)
 show wpAny _ _ (asIndex (.int k tk) >>= _) _ _ _
 refine wpAny_bind ?_
 refine wpAny_of_eq (a:=k) (by first|rfl | (unfold asIndex;rfl)) ?_
 dsimp only
 rw[if_neg (by simp;omega)]
 unfold Builtin.Tuple.tupleItemsOf
 refine wpAny_bind (wpAny_bind (wpAny_seqItems ho rfl ?_))
 refine wpAny_pure ?_
 have ne:vs.toArray.isEmpty=false:=by
  cases vs with
  |nil=>exact absurd rfl hv
  |cons a r=>simp
 by_cases h:k=1
 ·rw[if_pos (by rw[h];simp)]
  unfold Builtin.Tuple.tupleIsExact
  refine wpAny_bind (wpAny_bind (wpAny_typeOf (T:="tuple") ⟨_,ho,rfl⟩ (wpAny_pure ?_)))
  rw[if_pos (by decide)]
  exact wpAny_bind (wpAny_rule (wpAny_pure ⟨_,rfl,h1 h⟩))
 ·rw[if_neg (by rw[ne];simp[h])]
  rw[if_neg (by rw[ne];simp;omega)]
  have hm:(vs.toArray.size:Int)*k=((vs.length*k.toNat:Nat):Int):=by
   rw[List.size_toArray,Int.natCast_mul]
   congr 1
   omega
  have zt:vs.length*k.toNat<=16777216:=by rw[<- sizeLine_eq];exact hz
  rw[if_neg (by rw[hm];omega)]
  rw[if_neg (by
   unfold Builtin.Tuple.tupleTooMany
   rw[hm,sizeLine_eq,decide_eq_true_eq]
   generalize vs.length*k.toNat=q at zt
   omega)]
  unfold Builtin.Tuple.tupleExact
  have e:List.foldl (λx1 x2=>x1++x2) #[] (List.replicate k.toNat vs.toArray)=(List.replicate k.toNat vs).flatten.toArray:=by
   have:=L2.foldl_rep vs k.toNat []
   rw[List.nil_append] at this
   exact this
  rw[e]
  refine wpAny_bind (wpAny_newObj_type ?_ (by
   show (List.toArray _).size<=sizeLine
   rw[List.size_toArray,L2.len_rep,Nat.mul_comm]
   exact hz))
  exact wpAny_pure ⟨_,rfl,h2 h⟩
end
end HZ
namespace L2
open PySem PySem.Spec PyProof.Rows
section
variable {X:Cx}
noncomputable def O0 (K:Frag):R2:=λx y H Q=>∃a xs k,x=.ref a/\y=.int k/\aR K H a xs/\xs≠[]/\1<=k/\xs.length*k.toNat<=sizeLine/\kh K H (List.replicate k.toNat xs).flatten Q
theorem Ma:bh X (binaryOp .Mult) (O0 X.K):=by
 intro pins s σ H x y v u Q I rx ry h
 obtain⟨a,xs,k,rfl,rfl,hs,hx,hk,hz,q⟩:=h
 cases rx
 obtain⟨t,rfl⟩:=ry
 obtain⟨its,r,p,z⟩:=I.tuple hs
 have hl:=r.length
 refine HZ.L9 p (λe=>hx (by rw[e] at hl;exact List.length_eq_zero_iff.mp hl)) hk (by rw[<- hl];exact hz) (λe=>?_) (λ_=>?_)
 ·have e1:(List.replicate k.toNat xs).flatten=xs:=by rw[e];simp
  rw[e1] at q
  exact⟨.ref a,H,I,rfl,q.here hs⟩
 ·have jG:(List.replicate k.toNat xs).flatten.length<=sizeLine:=by rw[len_rep,Nat.mul_comm];exact hz
  exact⟨.ref _,_,I.laid (t':=s.toks) (o:=.tup (List.replicate k.toNat xs).flatten) (λb o e=>Heap.get?_push_of_some _ e) (Nat.le_refl _) ⟨jG,_,r.rep k.toNat,⟨_,Heap.get?_push_size _ rfl,rfl,_,rfl⟩⟩,rfl,q.new (I.aH.fresh (Nat.le_refl _))⟩
end
end L2
namespace HZ
open PySem PySem.Spec PyProof.Rows
theorem Dk:mroOf (.type "reversed")=pure [.type "reversed",.type "object"]:=by rw[mroOf_type];kernel_rfl
theorem Hc:typeLookup (.type "reversed") "__new__"=pure (some (.builtin "reversed.__new__")):=by rw[typeLookup_type,builtinLookup_eq_fast];kernel_rfl
theorem KG:Bind.madeBy (.type "reversed")=pure (some "reversed.__new__"):=madeBy_type Dk Hc (by decide +kernel)
theorem Hm:entryFor table "reversed.__new__"=some Builtin.«reversed.__new__»:=entryFor_of_tree (by kernel_rfl)
theorem Hn:plainId "reversed.__new__"=true:=by decide +kernel
theorem Hz (a:Value):checkTypeCall "reversed" ⟨[a],[]⟩=pure ():=by kernel_rfl
theorem HY (a:Value):checkBuiltinCall "reversed.__new__" ⟨[.type "reversed",a],[]⟩=pure ():=by kernel_rfl
theorem Mb:isSubtype (.type "reversed") (.type "reversed")=pure true:=by rw[isSubtype_type];kernel_rfl
theorem IK:isSubtype (.type "range_iterator") (.type "reversed")=pure false:=by rw[isSubtype_type];kernel_rfl
theorem HA:(Value.type "reversed"==Value.type "type")=false:=by decide +kernel
theorem Mc:((Manifest.find? "reversed").bind (·.mro.findSome? λt=>(Manifest.find? t).bind λb=>if b.noNew then some true else if b.attrs.any (·.1=="__new__") then some false else none)).getD false=false:=by decide +kernel
section
variable {P:Program} {w:World} {A:Around} {E:Value->Shared->Prop} {s:Shared}
theorem HB {r:Addr} {a b c:Int} {t1 t2 t3:Tok} {Q:Int×Int×Int->Shared->Prop} (hr:s.heap.get? r=some { cls:=.type "range",data:=.fields #[.int a t1,.int b t2,.int c t3] }) (h:Q (a,b,c) s):wpAny (model P w) A (Builtin.Range.rangeFields (.ref r)) Q E s:=by
 unfold Builtin.Range.rangeFields
 refine wpAny_bind (wpAny_field hr rfl (x:=.int a t1) rfl ?_)
 refine wpAny_bind (wpAny_of_eq (a:=some a) (by rfl) ?_)
 refine wpAny_bind (wpAny_field hr rfl (x:=.int b t2) rfl ?_)
 refine wpAny_bind (wpAny_of_eq (a:=some b) (by rfl) ?_)
 refine wpAny_bind (wpAny_field hr rfl (x:=.int c t3) rfl ?_)
 refine wpAny_bind (wpAny_of_eq (a:=some c) (by rfl) ?_)
 exact wpAny_pure h
theorem Md {r:Addr} {n:Nat} {t1 t2 t3:Tok} {Q:Value->Shared->Prop} (hr:s.heap.get? r=some { cls:=.type "range",data:=.fields #[.int 0 t1,.int n t2,.int 1 t3] }) (hn:n<2 ^ 62)
  (h:Q (.ref s.heap.objs.size) { s with heap:=s.heap.push { cls:=.type "range_iterator",data:=.fields #[rawInt (n-1),rawInt n,rawInt (-1)] } }) :
  wpAny (model P w) A (Builtin.«reversed.__new__» ⟨[.type "reversed",.ref r],[]⟩) (λfin s'=>∃v,fin=.done (.ret v)/\Q v s') E s:=by
 have hT:s.TypeIs (.ref r) "range":=⟨_,hr,rfl⟩
 have ss:=Mb
 unfold Builtin.«reversed.__new__» Builtin.SmallTypes.newClass Builtin.SmallTypes.refuseKeywords
 have l1:=F.slot_range_reversed.lookup
 have l2:=F.slot_range_reversed.bind (.ref r)
 wp_walk
 refine codeAny_mono (codeAny_call_builtin (R:=wants (λv s'=>v=.ref s.heap.objs.size/\s'={ s with heap:=s.heap.push { cls:=.type "range_iterator",data:=.fields #[rawInt (n-1),rawInt n,rawInt (-1)] } }) E) F.slot_range_reversed.plain F.entry_range_reversed (F.slot_range_reversed.check _ _ _ _ _ _ _ _ hT (F.args_range_reversed_1 _) ?_)) λr2 s2 hq=>?_
 ·unfold Builtin.«range.__reversed__»
  refine wpAny_bind (wpAny_of_eq (a:=.ref r) (by rfl) ?_)
  refine wpAny_bind (HB hr ?_)
  dsimp only
  have sz:Builtin.Range.rangeSize 0 n 1=n:=by
   unfold Builtin.Range.rangeSize
   rw[if_pos (by decide)]
   split<;>omega
  rw[sz]
  have fl:(Builtin.Range.rangeFitsLong 0&&Builtin.Range.rangeFitsLong n&&Builtin.Range.rangeFitsLong 1&&Builtin.Range.rangeFitsLong (-1)&&Builtin.Range.rangeFitsLong (0-1)&&Builtin.Range.rangeFitsLong n)=true:=by
   have F6:(n:Int)<2 ^ 62:=by omega
   unfold Builtin.Range.rangeFitsLong
   simp only[Bool.and_eq_true,decide_eq_true_eq]
   refine⟨⟨⟨⟨⟨⟨by decide,by decide⟩,by omega,by omega⟩,by decide,by decide⟩,by decide,by decide⟩,by decide,by decide⟩,by omega,by omega⟩
  rw[fl]
  rw[if_neg (by decide)]
  refine wpAny_bind (wpAny_newObj_type ?_)
  refine wpAny_pure ?_
  refine⟨rfl,?_⟩
  have e:(0:Int)+((n:Int)-1)*1=n-1:=by omega
  simp[rawInt]
 ·cases r2 with
  |error e=>exact hq
  |ok fl =>
   cases fl with
   |ret v =>
    obtain⟨rfl,rfl⟩:=hq
    exact wpAny_pure ⟨_,rfl,h⟩
   |_=>exact hq
theorem KH {r:Addr} {n:Nat} {t1 t2 t3:Tok} {Q:Value->Shared->Prop} (hr:s.heap.get? r=some { cls:=.type "range",data:=.fields #[.int 0 t1,.int n t2,.int 1 t3] }) (hn:n<2 ^ 62)
  (h:Q (.ref s.heap.objs.size) { s with heap:=s.heap.push { cls:=.type "range_iterator",data:=.fields #[rawInt (n-1),rawInt n,rawInt (-1)] } }):wpAny (model P w) A (call (.type "reversed") [.ref r]) Q E s:=by
 have m1:=Dk
 have m2:=KG
 have m3:=IK
 have m4:=HA
 have m5:=Mc
 have m6:=Hz (.ref r)
 refine wpAny_call (codeAny_of_tree ?_)
 show wpAny _ _ (callAny (.type "reversed") _) _ _ _
 refine wpAny_pure ⟨Code.quiet_builtin _ (by decide +kernel),codeAny_builtin F.entry_type_call ?_⟩
 rw[Around.under_plain (weight_type_call_type "reversed" [.ref r] []) rfl]
 repeat (any_goals (first|assumption|wp_step))
 refine codeAny_mono (codeAny_call_builtin (R:=wants (λv s'=>v=.ref s.heap.objs.size/\s'={ s with heap:=s.heap.push { cls:=.type "range_iterator",data:=.fields #[rawInt (n-1),rawInt n,rawInt (-1)] } }) E) Hn Hm (wpAny_of_eq (HY _) ?_)) λr2 s2 hq=>?_
 ·refine wpAny_mono (Md (Q:=λv s'=>v=.ref s.heap.objs.size/\s'={ s with heap:=s.heap.push { cls:=.type "range_iterator",data:=.fields #[rawInt (n-1),rawInt n,rawInt (-1)] } }) hr hn ⟨rfl,rfl⟩) (λf s' hf=>?_) λ_ _ e=>e
  obtain⟨v,rfl,hv⟩:=hf
  exact hv
 ·cases r2 with
  |error e=>exact hq
  |ok fl =>
   cases fl with
   |ret v =>
    obtain⟨rfl,rfl⟩:=hq
    have hT:Shared.TypeIs { s with heap:=s.heap.push { cls:=.type "range_iterator",data:=.fields #[rawInt (n-1),rawInt n,rawInt (-1)] } } (.ref s.heap.objs.size) "range_iterator":=⟨_,Heap.get?_push_size _ rfl,rfl⟩
    repeat (any_goals (first|assumption|wp_step))
   |_=>exact hq.elim
end
end HZ
namespace L2
open PySem PySem.Spec PyProof.Rows
noncomputable def uG (n:Nat):It:=⟨λi _=>i<n,λi H x H'=>H'=H/\x=.int ((n:Int)-1-i),λi _=>n<=i⟩
theorem Cw {P:Program} {w:World} {K:Frag} {tg:Expr} (it:Addr) (n:Nat):Turn P w K tg (uG n) [it] it (λi h=>IsRangeIter h it (((n:Int)-1)+(i:Nat)*(-1)) ((n:Int)-(i:Nat)) (-1)) where
 mem:=by simp
 obj:=λi h st b hb=>by
  have e:b=it:=by simpa using hb
  subst e
  exact⟨_,st,λv z=>by
   have z':Data.fields _=Data.cell v:=z
   cases z'⟩
 keep:=λi h h' st k=>k it (by simp) _ st
 item:=by
  intro X hP hw hK hc i pins s σ H E I hf st hg
  subst hP hw hK
  obtain⟨f0,f1,f2,f3,f4,f5⟩:=hf it (by simp)
  have W:=Walks.range (prog:=X.prog) (w:=X.w) (I.ok.hd hc) it ((n:Int)-1) (-1) n
  refine W.item i s _ _ hg st λv h' tk hv cT kk=>?_
  obtain⟨t,rfl⟩:=hv
  have I1:Inv X pins σ H { s with heap:=h',toks:=tk }:=I.turned (λb o hb e=>kk b o (by simpa using hb) e) f0 f1 f3 f4 f5
  refine⟨_,rfl,t9 (s:={ s with heap:=h',toks:=tk }) (n:="range_iterator") cT rfl rfl (by decide) ⟨.int ((n:Int)-1-i),H,I1,⟨t,?_⟩,⟨rfl,rfl⟩,cT,λb hb=>(hf b hb).1⟩⟩
  rw[Int.mul_neg_one]
  rfl
 done:=by
  intro X hP hw hK hc i pins s σ H E I hf st hg
  subst hP hw hK
  obtain⟨f0,f1,f2,f3,f4,f5⟩:=hf it (by simp)
  exact wpAny_pyNext_range_end (I.ok.hd hc) st (by have:n<=i:=hg;omega) λh' eb=>⟨rfl,I.turned (t':=s.toks) (λb o hb e=>eb b o hb e) f0 f1 f3 f4 f5⟩
 self:=λ_ _ _ _ _ st h=>wpAny_pyIter_rangeiter st h
section
variable {X:Cx} {tg:Expr}
theorem KI:bootBuiltins "reversed"=some (.type "reversed"):=by decide +kernel
theorem H0:bV X (.type "range") (λxs H Q=>∃j:Int,xs=[.int j]/\∀p,H p=none->Q (.ref p) (upd H p (.bM 0 j))):=by
 intro pins s σ H xs us Q I r h
 obtain⟨j,rfl,q⟩:=h
 obtain⟨u,rfl,ru⟩:=vals1 r
 obtain⟨t,rfl⟩:=ru
 exact call_range_1 ⟨.ref _,_,I.laid (o:=.bM 0 j) (t':=s.toks+1+1) (λb o e=>Heap.get?_push_of_some _ e) (Nat.le_refl _) ⟨_,_,_,Heap.get?_push_size _ rfl⟩,rfl,q _ (I.aH.fresh (Nat.le_refl _))⟩
noncomputable def Qs (ta:TA):TI:=fun σ H R=>ta σ H λvs H1=>∃(p:Addr) (n:Nat),vs=[.ref p]/\H1 p=some (.bM 0 n)/\n<2 ^ 62/\R (uG n) H1
theorem NC {a:Expr} {ta:TA} {p pos:Pos} (hg:Gl X "reversed") (hm:X.mg "reversed"=none) (ha:PA X [a] ta) (hs:starEach [a] X.env=[(false,eval a X.env)]:=by rfl):PI X tg (.Call (.Name "reversed" p) [a] [] pos) (Qs ta):=by
 intro pins s σ H R I h
 refine Call_ (kK I hg hm KI (PyProof.Rows.callWith_type1 (aJ (ha pos pins s σ H _ I h) λus s1 ⟨vs,H1,I1,r1,q1⟩=>?_) hs rfl))
 obtain⟨c,n,e,hx,hn,q⟩:=q1
 subst e
 obtain⟨u,rfl,ru⟩:=vals1 r1
 cases ru
 obtain⟨t1,t2,t3,hr⟩:=I1.aH c _ hx
 refine HZ.KH hr hn ?_
 have st:IsRangeIter (s1.heap.push { cls:=.type "range_iterator",data:=.fields #[rawInt ((n:Int)-1),rawInt n,rawInt (-1)] }) s1.heap.objs.size (((n:Int)-1)+((0:Nat):Int)*(-1)) ((n:Int)-((0:Nat):Int)) (-1):=by
  have e1:((n:Int)-1)+((0:Nat):Int)*(-1)=n-1:=by simp
  have e2:(n:Int)-((0:Nat):Int)=n:=by simp
  rw[e1,e2]
  exact Heap.get?_push_size _ rfl
 refine wpAny_pyIter_rangeiter (s:={ s1 with heap:=_ }) st ?_
 refine⟨s1.heap.objs.size,[s1.heap.objs.size],_,_,H1,rfl,I1.kept (t':=s1.toks) λb o e=>Heap.get?_push_of_some _ e,Cw _ n,st,λb hb=>?_,q⟩
 have e:b=s1.heap.objs.size:=by simpa using hb
 subst e
 exact I1.oz (Nat.le_refl _) (I1.aH.fresh (Nat.le_refl _))
end
end L2
namespace HZ
open PySem PySem.Spec PyProof.Rows
section
variable {P:Program} {w:World} {A:Around} {R:Result->Shared->Prop} {I:Addr} {fp wr:List Addr} {n:Nat} {Pv:Nat->Value->Prop} {St:Nat->Heap->Prop} {kw:List (Str×Value)}
end
end HZ
namespace HZ
open PySem PySem.Spec PyProof.Rows
section
variable {P:Program} {w:World} {A:Around} {E:Value->Shared->Prop} {s:Shared}
end
end HZ
namespace L2
open PySem PySem.Spec PyProof.Rows
section
variable {X:Cx} {p pos kp:Pos} {e d:Expr} {ta tk:TA}
end
end L2
namespace DI
open PySem L2
set_option genInjectivity true in
inductive D where
 |aA|bl (b:Bool)|int (i:Int)|str (x:Str)|tup (ds:List D)|lst (ds:List D)|bp (ak:List (Key×Int))|aj (k:Nat)|ty (n:String)|bC (ns:List Int)
set_option genInjectivity true in
inductive Cell where
 |dead|lst (ds:List D)|dK (ak:List (Key×D))|dT (ak:List (D×Int))
noncomputable abbrev ae:=List Cell
noncomputable abbrev Env:=List (Option D)
structure bq where
 c:Str
 many:Option D
noncomputable abbrev Res (α:Type):=Option (Except bq α×ae)
noncomputable abbrev ok {α:Type} (a:α) (s:ae):Res α:=some (.ok a,s)
noncomputable def au {α β:Type} (r:Res α) (k:α->ae->Res β):Res β:=match r with
 |some (.ok a,s)=>k a s
 |some (.error x,s)=>some (.error x,s)
 |none=>none
@[simp] theorem eD {α β:Type} {a:α} {s:ae} {k:α->ae->Res β}:au (some (.ok a,s)) k=k a s:=rfl
structure Wd where
 ρ:List Addr
 aI:ae
 H:Hp
def Wd.Z (w:Wd) (a:Addr):Prop:=∃(k:Nat) (c:Cell),w.ρ[k]?=some a/\w.aI[k]?=some c/\c≠.dead
def LstAt (w:Wd) (a:Addr) (xs:List V):Prop:=¬ w.Z a/\w.H a=some (.lst xs)
theorem LstAt.sq {K:Frag} {w:Wd} {a:Addr} {xs:List V} (h:LstAt w a xs):bG K w.H a xs:=bG.of h.2
def qe (K:Frag) (w:Wd) (a:Addr) (xs:List V):Prop:=(¬ w.Z a/\Rd w.H a (.lst xs)) \/
 ∃(o:Obj) (its:Array Value) (n:Nat),K.lookup a=some o/\o.cls=.type "list"/\o.dict=none/\o.data=.seq its n/\its.size<=sizeLine/\Vals xs its.toList
theorem qe.sq {K:Frag} {w:Wd} {a:Addr} {xs:List V} (h:qe K w a xs):bG K w.H a xs:=by
 rcases h with ⟨_,h⟩|h
 ·exact .inl h
 ·exact .inr h
mutual
noncomputable def DV (K:Frag) (w:Wd):D->V->Prop
 | .aA,v=>v=.aA
 | .bl b,v=>v=.bl b
 | .int i,v=>v=.int i
 | .str x,v=>v=.str x
 | .tup ds,v=>∃a xs,v=.ref a/\aR K w.H a xs/\aq K w ds xs
 | .lst ds,v=>∃a xs,v=.ref a/\LstAt w a xs/\aq K w ds xs
 | .bp ak,v=>∃a,v=.ref a/\¬ w.Z a/\w.H a=some (.dK (ak.map λp=>(p.1,V.int p.2)))
 | .aj k,v=>∃a,w.ρ[k]?=some a/\v=.ref a
 | .ty n,v=>v=.ty n
 | .bC ns,v=>∃a,v=.ref a/\qe K w a (ns.map V.int)
noncomputable def aq (K:Frag) (w:Wd):List D->List V->Prop
 | [],vs=>vs=[]
 |d::ds,vs=>∃v r,vs=v::r/\DV K w d v/\aq K w ds r
end
structure Fw (K:Frag) (w w':Wd):Prop where
 zu:∀(k:Nat) a,w.ρ[k]?=some a->w'.ρ[k]?=some a
 tup:∀a xs,aR K w.H a xs->aR K w'.H a xs
 lst:∀a xs,¬ w.Z a->w.H a=some (.lst xs)->¬ w'.Z a/\w'.H a=some (.lst xs)
 cF:∀a o xs,¬ w.Z a->w.H a=some (.cF o (.lst xs))->¬ w'.Z a/\w'.H a=some (.cF o (.lst xs))
 bp:∀a es,¬ w.Z a->w.H a=some (.dK es)->¬ w'.Z a/\w'.H a=some (.dK es)
theorem Fw.EZ {K:Frag} {w w':Wd} (S:Fw K w w') {a:Addr} {xs:List V} (h:LstAt w a xs):LstAt w' a xs:=S.lst a xs h.1 h.2
theorem Fw.O1 {K:Frag} {w w':Wd} (S:Fw K w w') {a:Addr} {xs:List V} (h:qe K w a xs):qe K w' a xs:=by
 rcases h with ⟨h1,h2 | ⟨o,h2⟩⟩|h
 ·have q:=S.lst a xs h1 h2
  exact .inl ⟨q.1,.inl q.2⟩
 ·have q:=S.cF a o xs h1 h2
  exact .inl ⟨q.1,.inr ⟨o,q.2⟩⟩
 ·exact .inr h
mutual
theorem DV.fw {K:Frag} {w w':Wd} (S:Fw K w w'):∀{d:D} {v:V},DV K w d v->DV K w' d v
 | .aA,_,h=>h
 | .bl _,_,h=>h
 | .int _,_,h=>h
 | .str _,_,h=>h
 | .tup ds,v,h=>by
  simp only[DV] at h |-
  obtain⟨a,xs,e,hq,r⟩:=h
  exact⟨a,xs,e,S.tup a xs hq,aq.fw S r⟩
 | .lst ds,v,h=>by
  simp only[DV] at h |-
  obtain⟨a,xs,e,hq,r⟩:=h
  exact⟨a,xs,e,S.EZ hq,aq.fw S r⟩
 | .bp ak,v,h=>by
  simp only[DV] at h |-
  obtain⟨a,e,hz,hq⟩:=h
  obtain⟨h1,h2⟩:=S.bp a _ hz hq
  exact⟨a,e,h1,h2⟩
 | .aj k,v,h=>by
  simp only[DV] at h |-
  obtain⟨a,e,e2⟩:=h
  exact⟨a,S.zu k a e,e2⟩
 | .ty _,_,h=>h
 | .bC ns,v,h=>by
  simp only[DV] at h |-
  obtain⟨a,e,hq⟩:=h
  exact⟨a,e,S.O1 hq⟩
theorem aq.fw {K:Frag} {w w':Wd} (S:Fw K w w'):∀{ds:List D} {vs:List V},aq K w ds vs->aq K w' ds vs
 | [],_,h=>h
 |d::ds,vs,h=>by
  simp only[aq] at h |-
  obtain⟨v,r,e,h1,h2⟩:=h
  exact⟨v,r,e,DV.fw S h1,aq.fw S h2⟩
end
structure Le (K:Frag) (w w':Wd):Prop where
 dv:∀d v,DV K w d v->DV K w' d v
 lst:∀a xs,LstAt w a xs->LstAt w' a xs
 tup:∀a xs,aR K w.H a xs->aR K w'.H a xs
noncomputable instance {K:Frag} {w w':Wd}:CoeFun (Le K w w') (λ_=>∀d v,DV K w d v->DV K w' d v):=⟨Le.dv⟩
theorem Le.refl {K:Frag} (w:Wd):Le K w w:=⟨λ_ _ h=>h,λ_ _ h=>h,λ_ _ h=>h⟩
theorem Le.trans {K:Frag} {a b c:Wd} (h:Le K a b) (g:Le K b c):Le K a c:=⟨λd v x=>g.dv d v (h.dv d v x),λp xs x=>g.lst p xs (h.lst p xs x),λp xs x=>g.tup p xs (h.tup p xs x)⟩
theorem Fw.le {K:Frag} {w w':Wd} (S:Fw K w w'):Le K w w':=⟨λ_ _ h=>h.fw S,λ_ _ h=>S.EZ h,S.tup⟩
theorem Le.all {K:Frag} {w w':Wd} (h:Le K w w'):∀{ds:List D} {vs:List V},aq K w ds vs->aq K w' ds vs
 | [],_,x=>x
 |d::ds,vs,x=>by
  simp only[aq] at x |-
  obtain⟨v,r,e,h1,h2⟩:=x
  exact⟨v,r,e,h d v h1,Le.all h h2⟩
theorem aq.length {K:Frag} {w:Wd}:∀{ds:List D} {vs:List V},aq K w ds vs->ds.length=vs.length
 | [],vs,h=>by
  have e:vs=[]:=h
  subst e
  rfl
 |d::ds,vs,h=>by
  obtain⟨v,r,e,_,h2⟩:=h
  subst e
  simp[aq.length h2]
theorem aq.get {K:Frag} {w:Wd}:∀{ds:List D} {vs:List V},aq K w ds vs->∀(i:Nat) v,vs[i]?=some v->∃d,ds[i]?=some d/\DV K w d v
 | [],vs,h,i,v,e=>by
  have e':vs=[]:=h
  subst e'
  simp at e
 |d::ds,vs,h,i,v,e=>by
  obtain⟨u,r,e',h1,h2⟩:=h
  subst e'
  cases i with
  |zero =>
   have:u=v:=by simpa using e
   subst this
   exact⟨d,rfl,h1⟩
  |succ i=>exact aq.get h2 i v (by simpa using e)
theorem aq.get' {K:Frag} {w:Wd}:∀{ds:List D} {vs:List V},aq K w ds vs->∀(i:Nat) d,ds[i]?=some d->∃v,vs[i]?=some v/\DV K w d v
 | [],vs,h,i,d,e=>by simp at e
 |d::ds,vs,h,i,d',e=>by
  obtain⟨u,r,e',h1,h2⟩:=h
  subst e'
  cases i with
  |zero =>
   have:d=d':=by simpa using e
   subst this
   exact⟨u,rfl,h1⟩
  |succ i=>exact aq.get' h2 i d' (by simpa using e)
theorem aq.append {K:Frag} {w:Wd}:∀{ds es:List D} {vs ws:List V},aq K w ds vs->aq K w es ws->aq K w (ds++es) (vs++ws)
 | [],es,vs,ws,h,h'=>by
  have e:vs=[]:=h
  subst e
  exact h'
 |d::ds,es,vs,ws,h,h'=>by
  obtain⟨v,r,e,h1,h2⟩:=h
  subst e
  exact⟨v,r++ws,rfl,h1,aq.append h2 h'⟩
theorem aq.take {K:Frag} {w:Wd}:∀{ds:List D} {vs:List V} (n:Nat),aq K w ds vs->aq K w (ds.take n) (vs.take n)
 | [],vs,n,h=>by
  have e:vs=[]:=h
  subst e
  simp[aq]
 |d::ds,vs,0,h=>by simp[aq]
 |d::ds,vs,n+1,h=>by
  obtain⟨v,r,e,h1,h2⟩:=h
  subst e
  exact⟨v,r.take n,rfl,h1,aq.take n h2⟩
theorem aq.drop {K:Frag} {w:Wd}:∀{ds:List D} {vs:List V} (n:Nat),aq K w ds vs->aq K w (ds.drop n) (vs.drop n)
 | [],vs,n,h=>by
  have e:vs=[]:=h
  subst e
  simp[aq]
 |d::ds,vs,0,h=>h
 |d::ds,vs,n+1,h=>by
  obtain⟨v,r,e,h1,h2⟩:=h
  subst e
  exact aq.drop n h2
theorem aq.reverse {K:Frag} {w:Wd}:∀{ds:List D} {vs:List V},aq K w ds vs->aq K w ds.reverse vs.reverse
 | [],vs,h=>by
  have e:vs=[]:=h
  subst e
  simp[aq]
 |d::ds,vs,h=>by
  obtain⟨v,r,e,h1,h2⟩:=h
  subst e
  rw[List.reverse_cons,List.reverse_cons]
  exact aq.append (aq.reverse h2) ⟨v,[],rfl,h1,rfl⟩
theorem aq.set {K:Frag} {w:Wd} {d:D} {v:V} (hd:DV K w d v):∀{ds:List D} {vs:List V} (i:Nat),aq K w ds vs->aq K w (ds.set i d) (vs.set i v)
 | [],vs,i,h=>by
  have e:vs=[]:=h
  subst e
  simp[aq]
 |d'::ds,vs,0,h=>by
  obtain⟨u,r,e,h1,h2⟩:=h
  subst e
  exact⟨v,r,rfl,hd,h2⟩
 |d'::ds,vs,i+1,h=>by
  obtain⟨u,r,e,h1,h2⟩:=h
  subst e
  exact⟨u,r.set i v,rfl,h1,aq.set hd i h2⟩
theorem aq.one {K:Frag} {w:Wd} {d:D} {v:V} (h:DV K w d v):aq K w [d] [v]:=⟨v,[],rfl,h,rfl⟩
theorem aq.two {K:Frag} {w:Wd} {d d':D} {v v':V} (h:DV K w d v) (h':DV K w d' v'):aq K w [d,d'] [v,v']:=⟨v,_,rfl,h,aq.one h'⟩
theorem aq.ints {K:Frag} {w:Wd}:∀(ns:List Int),aq K w (ns.map D.int) (ns.map V.int)
 | []=>rfl
 |n::ns=>⟨.int n,_,rfl,rfl,aq.ints ns⟩
theorem aq.Cy {K:Frag} {w:Wd}:∀{ns:List Int} {vs:List V},aq K w (ns.map D.int) vs->vs=ns.map V.int
 | [],_,h=>h
 |n::ns,vs,h=>by
  obtain⟨v,r,e,h1,h2⟩:=h
  have e1:v=.int n:=h1
  rw[e,e1,aq.Cy h2]
  rfl
theorem aq.wM {K:Frag} {w:Wd}:∀{bs:List Bool} {vs:List V},aq K w (bs.map D.bl) vs->vs=bs.map V.bl
 | [],_,h=>h
 |n::ns,vs,h=>by
  obtain⟨v,r,e,h1,h2⟩:=h
  have e1:v=.bl n:=h1
  rw[e,e1,aq.wM h2]
  rfl
def DX (a:Addr) (es:List (Int×Addr)) (h:Heap):Prop:=(a==sysModules)=false/\∃(o:Obj) (xs:Array DictEntry) (ep:Nat),h.get? a=some o/\o.ExactDict/\o.data=.dict xs ep/\xs.toList=es.map λp=>(⟨p.1,.ref p.2,.bool true⟩:DictEntry)
noncomputable def nY (K:Frag) (w:Wd) (a:Addr):Cell->Prop
 | .dead=>True
 | .lst ds=>∃xs,w.H a=some (.lst xs)/\aq K w ds xs
 | .dK ak=>∃es:List (Key×V),w.H a=some (.dK es)/\es.map (·.1)=ak.map (·.1)/\aq K w (ak.map (·.2)) (es.map (·.2))
 | .dT ak=>∃as:List Addr,w.H a=some (.ext (DX a ((ak.map (·.2)).zip as)))/\aq K w (ak.map (·.1)) (as.map V.ref)/\(ak.map (·.1)).Nodup
structure aM (K:Frag) (w:Wd):Prop where
 len:w.ρ.length=w.aI.length
 nd:w.ρ.Nodup
 there:∀(k:Nat) a,w.ρ[k]?=some a->w.H a≠none
 cell:∀(k:Nat) a c,w.ρ[k]?=some a->w.aI[k]?=some c->nY K w a c
theorem nY.le {K:Frag} {w w':Wd} {a:Addr} {c:Cell} (h:nY K w a c) (le:Le K w w') (e:c≠.dead->w'.H a=w.H a):nY K w' a c:=by
 cases c with
 |dead=>trivial
 |lst ds =>
  obtain⟨xs,h1,h2⟩:=h
  exact⟨xs,(e (by intro z;cases z)).trans h1,le.all h2⟩
 |dK ak =>
  obtain⟨es,h1,h2,h3⟩:=h
  exact⟨es,(e (by intro z;cases z)).trans h1,h2,le.all h3⟩
 |dT ak =>
  obtain⟨as,h1,h2,h3⟩:=h
  exact⟨as,(e (by intro z;cases z)).trans h1,le.all h2,h3⟩
section
variable {K:Frag} {w:Wd}
noncomputable def Wd.grow (w:Wd) (p:Addr) (o:HO):Wd:={ w with H:=upd w.H p o }
theorem Rd.grow {H:Hp} {p a:Addr} {o u:HO} (hp:H p=none) (h:Rd H a u):Rd (upd H p o) a u:=by
 rcases h with h | ⟨ob,h⟩
 ·exact .inl (by rw[bt (dD h hp)];exact h)
 ·exact .inr ⟨ob,by rw[bt (dD h hp)];exact h⟩
theorem aR.grow {H:Hp} {p a:Addr} {o:HO} {xs:List V} (hp:H p=none) (h:aR K H a xs):aR K (upd H p o) a xs:=by
 rcases h with h|h
 ·exact .inl (Rd.grow hp h)
 ·exact .inr h
theorem Fw.grow {p:Addr} {o:HO} (hp:w.H p=none):Fw K w (w.grow p o) where
 zu:=λ_ _ e=>e
 tup:=λa xs h=>aR.grow hp h
 lst:=λa xs hz h=>⟨hz,by show upd w.H p o a=_;rw[bt (dD h hp)];exact h⟩
 cF:=λa ob xs hz h=>⟨hz,by show upd w.H p o a=_;rw[bt (dD h hp)];exact h⟩
 bp:=λa es hz h=>⟨hz,by show upd w.H p o a=_;rw[bt (dD h hp)];exact h⟩
theorem aM.grow {p:Addr} {o:HO} (S:aM K w) (hp:w.H p=none):aM K (w.grow p o) where
 len:=S.len
 nd:=S.nd
 there:=λk a e=>by
  have h:=S.there k a e
  show upd w.H p o a≠none
  unfold upd
  split
  ·intro z;cases z
  ·exact h
 cell:=λk a c e1 e2=>(S.cell k a c e1 e2).le (Fw.grow hp).le λ_=>by
  have h:=S.there k a e1
  show upd w.H p o a=w.H a
  rw[bt]
  intro z;rw[z] at h;exact h hp
noncomputable def Wd.cell (w:Wd) (p:Addr) (o:HO) (c:Cell):Wd:=⟨w.ρ++[p],w.aI++[c],upd w.H p o⟩
theorem Wd.xj {p:Addr} {o:HO} {c:Cell} (S:aM K w) {a:Addr} (h:(w.cell p o c).Z a):w.Z a\/a=p:=by
 obtain⟨k,c',e1,e2,e3⟩:=h
 have e1:(w.ρ++[p])[k]?=some a:=e1
 have e2:(w.aI++[c])[k]?=some c':=e2
 by_cases hk:k<w.ρ.length
 ·rw[List.getElem?_append_left hk] at e1
  rw[List.getElem?_append_left (by rw[<- S.len];exact hk)] at e2
  exact .inl ⟨k,c',e1,e2,e3⟩
 ·rw[List.getElem?_append_right (by omega)] at e1
  right
  cases hj:k-w.ρ.length with
  |zero=>rw[hj] at e1;exact(Option.some.inj e1).symm
  |succ j=>rw[hj] at e1;cases e1
theorem Fw.cell {p:Addr} {o:HO} {c:Cell} (S:aM K w) (hp:w.H p=none):Fw K w (w.cell p o c) where
 zu:=λk a e=>by
  show (w.ρ++[p])[k]?=some a
  rw[List.getElem?_append_left (List.getElem?_eq_some_iff.mp e).1];exact e
 tup:=λa xs h=>aR.grow hp h
 lst:=λa xs hz h=>⟨λz=>(Wd.xj S z).elim hz (λe=>by (subst e;rw[hp] at h;cases h)),by show upd w.H p o a=_;rw[bt (dD h hp)];exact h⟩
 cF:=λa ob xs hz h=>⟨λz=>(Wd.xj S z).elim hz (λe=>by (subst e;rw[hp] at h;cases h)),by show upd w.H p o a=_;rw[bt (dD h hp)];exact h⟩
 bp:=λa es hz h=>⟨λz=>(Wd.xj S z).elim hz (λe=>by (subst e;rw[hp] at h;cases h)),by show upd w.H p o a=_;rw[bt (dD h hp)];exact h⟩
theorem aM.xO {p:Addr} {o:HO} {c:Cell} (S:aM K w) (hp:w.H p=none) (hc:nY K (w.cell p o c) p c):aM K (w.cell p o c) where
 len:=by show (w.ρ++[p]).length=(w.aI++[c]).length;simp[S.len]
 nd:=by
  show (w.ρ++[p]).Nodup
  rw[List.nodup_append]
  refine⟨S.nd,by simp,λa ha b hb=>?_⟩
  obtain⟨k,e⟩:=List.getElem?_of_mem ha
  have h:=S.there k a e
  have e':b=p:=by simpa using hb
  rw[e']
  intro z;rw[z] at h;exact h hp
 there:=λk a e=>by
  have e:(w.ρ++[p])[k]?=some a:=e
  show upd w.H p o a≠none
  unfold upd
  split
  ·intro z;cases z
  ·rename_i gv
   by_cases hk:k<w.ρ.length
   ·rw[List.getElem?_append_left hk] at e
    exact S.there k a e
   ·rw[List.getElem?_append_right (by omega)] at e
    cases hj:k-w.ρ.length with
    |zero=>rw[hj] at e;exact absurd (Option.some.inj e).symm gv
    |succ j=>rw[hj] at e;cases e
 cell:=λk a c' e1 e2=>by
  have e1:(w.ρ++[p])[k]?=some a:=e1
  have e2:(w.aI++[c])[k]?=some c':=e2
  by_cases hk:k<w.ρ.length
  ·rw[List.getElem?_append_left hk] at e1
   rw[List.getElem?_append_left (by rw[<- S.len];exact hk)] at e2
   refine(S.cell k a c' e1 e2).le (Fw.cell S hp).le λ_=>?_
   have h:=S.there k a e1
   show upd w.H p o a=w.H a
   rw[bt]
   intro z;rw[z] at h;exact h hp
  ·rw[List.getElem?_append_right (by omega)] at e1
   rw[List.getElem?_append_right (by rw[<- S.len];omega)] at e2
   rw[<- S.len] at e2
   cases hj:k-w.ρ.length with
   |zero =>
    rw[hj] at e1 e2
    have e1:p=a:=Option.some.inj e1
    have e2:c=c':=Option.some.inj e2
    subst e1 e2
    exact hc
   |succ j=>rw[hj] at e1;cases e1
noncomputable def Wd.same (w:Wd) (H':Hp):Wd:={ w with H:=H' }
theorem Fw.same {H':Hp} (e:iY w.H H'):Fw K w (w.same H') :=
 ⟨λ_ _ e=>e,λa xs h=>e.Q3 h,λa xs hz h=>⟨hz,e _ _ h⟩,λa o xs hz h=>⟨hz,e _ _ h⟩,λa es hz h=>⟨hz,e _ _ h⟩⟩
theorem aM.same {H':Hp} (S:aM K w) (e:iY w.H H'):aM K (w.same H') where
 len:=S.len
 nd:=S.nd
 there:=λk a q=>by
  have h:=S.there k a q
  show H' a≠none
  cases hq:w.H a with
  |none=>exact absurd hq h
  |some o=>rw[e _ _ hq];intro z;cases z
 cell:=λk a c e1 e2=>(S.cell k a c e1 e2).le (Fw.same e).le λ_=>by
  have h:=S.there k a e1
  show H' a=w.H a
  cases hq:w.H a with
  |none=>exact absurd hq h
  |some o=>exact e _ _ hq
noncomputable def Wd.put (w:Wd) (k:Nat) (a:Addr) (o:HO) (c:Cell):Wd:=⟨w.ρ,w.aI.set k c,upd w.H a o⟩
theorem AU {α:Type} {l:List α} (nd:l.Nodup) {i j:Nat} {a:α} (h1:l[i]?=some a) (h2:l[j]?=some a):i=j:=by
 exact(List.getElem?_inj (List.getElem?_eq_some_iff.mp h1).1 nd).mp (h1.trans h2.symm)
theorem Wd.xP {k:Nat} {a b:Addr} {o:HO} {c c0:Cell} (h0:w.ρ[k]?=some a) (h1:w.aI[k]?=some c0) (h2:c0≠.dead) (h:(w.put k a o c).Z b):w.Z b:=by
 obtain⟨j,c',e1,e2,e3⟩:=h
 have e1:w.ρ[j]?=some b:=e1
 have e2:(w.aI.set k c)[j]?=some c':=e2
 by_cases hj:k=j
 ·subst hj
  exact⟨k,c0,e1,h1,h2⟩
 ·rw[List.getElem?_set_ne hj] at e2
  exact⟨j,c',e1,e2,e3⟩
theorem Fw.put {k:Nat} {a:Addr} {o:HO} {c c0:Cell} (S:aM K w) (h0:w.ρ[k]?=some a) (h1:w.aI[k]?=some c0) (h2:c0≠.dead):Fw K w (w.put k a o c):=by
 have hz:w.Z a:=⟨k,c0,h0,h1,h2⟩
 have nt:∀xs,¬ Rd w.H a (.tup xs):=λxs h=>by
  have q:=S.cell k a c0 h0 h1
  cases c0 with
  |dead=>exact h2 rfl
  |lst ds=>obtain⟨ys,e,_⟩:=q;rcases h with h | ⟨_,h⟩<;>(rw[e] at h;cases h)
  |dK ak=>obtain⟨ys,e,_⟩:=q;rcases h with h | ⟨_,h⟩<;>(rw[e] at h;cases h)
  |dT ak=>obtain⟨ys,e,_⟩:=q;rcases h with h | ⟨_,h⟩<;>(rw[e] at h;cases h)
 refine⟨λ_ _ e=>e,λb xs h=>?_,λb xs hb h=>⟨λz=>hb (Wd.xP h0 h1 h2 z),?_⟩,λb ob xs hb h=>⟨λz=>hb (Wd.xP h0 h1 h2 z),?_⟩,λb es hb h=>⟨λz=>hb (Wd.xP h0 h1 h2 z),?_⟩⟩
 ·rcases h with h|h
  ·have ne:b≠a:=λe=>by subst e;exact nt xs h
   refine .inl ?_
   rcases h with h | ⟨ob,h⟩
   ·exact .inl (by show upd w.H a o b=_;rw[bt ne];exact h)
   ·exact .inr ⟨ob,by show upd w.H a o b=_;rw[bt ne];exact h⟩
  ·exact .inr h
 ·have ne:b≠a:=λe=>by subst e;exact hb hz
  show upd w.H a o b=_
  rw[bt ne];exact h
 ·have ne:b≠a:=λe=>by subst e;exact hb hz
  show upd w.H a o b=_
  rw[bt ne];exact h
 ·have ne:b≠a:=λe=>by subst e;exact hb hz
  show upd w.H a o b=_
  rw[bt ne];exact h
theorem aM.yx {k:Nat} {a:Addr} {o:HO} {c c0:Cell} (S:aM K w) (h0:w.ρ[k]?=some a) (h1:w.aI[k]?=some c0) (h2:c0≠.dead) (hc:nY K (w.put k a o c) a c):aM K (w.put k a o c) where
 len:=by show w.ρ.length=(w.aI.set k c).length;rw[List.length_set];exact S.len
 nd:=S.nd
 there:=λj b e=>by
  show upd w.H a o b≠none
  unfold upd
  split
  ·intro z;cases z
  ·exact S.there j b e
 cell:=λj b c' e1 e2=>by
  have e1:w.ρ[j]?=some b:=e1
  have e2:(w.aI.set k c)[j]?=some c':=e2
  by_cases hj:k=j
  ·subst hj
   rw[h0] at e1
   have e1:a=b:=Option.some.inj e1
   rw[List.getElem?_set_self (List.getElem?_eq_some_iff.mp h1).1] at e2
   have e2:c=c':=Option.some.inj e2
   subst e1 e2
   exact hc
  ·rw[List.getElem?_set_ne hj] at e2
   refine(S.cell j b c' e1 e2).le (Fw.put S h0 h1 h2).le λ_=>?_
   show upd w.H a o b=w.H b
   rw[bt]
   intro z
   subst z
   exact hj (AU S.nd h0 e1)
noncomputable def Wd.freeze (w:Wd) (k:Nat):Wd:={ w with aI:=w.aI.set k .dead }
theorem Wd.vZ {k:Nat} {b:Addr} (h:(w.freeze k).Z b):w.Z b:=by
 obtain⟨j,c',e1,e2,e3⟩:=h
 have e2:(w.aI.set k .dead)[j]?=some c':=e2
 by_cases hj:k=j
 ·subst hj
  have hl:=(List.getElem?_eq_some_iff.mp e2).1
  rw[List.length_set] at hl
  rw[List.getElem?_set_self hl] at e2
  exact absurd (Option.some.inj e2).symm e3
 ·rw[List.getElem?_set_ne hj] at e2
  exact⟨j,c',e1,e2,e3⟩
theorem Fw.freeze {k:Nat}:Fw K w (w.freeze k) :=
 ⟨λ_ _ e=>e,λ_ _ h=>h,λ_ _ hz h=>⟨λz=>hz (Wd.vZ z),h⟩,λ_ _ _ hz h=>⟨λz=>hz (Wd.vZ z),h⟩,λ_ _ hz h=>⟨λz=>hz (Wd.vZ z),h⟩⟩
theorem aM.freeze {k:Nat} (S:aM K w):aM K (w.freeze k) where
 len:=by show w.ρ.length=(w.aI.set k .dead).length;rw[List.length_set];exact S.len
 nd:=S.nd
 there:=S.there
 cell:=λj b c' e1 e2=>by
  have e2:(w.aI.set k .dead)[j]?=some c':=e2
  by_cases hj:k=j
  ·subst hj
   have hl:=(List.getElem?_eq_some_iff.mp e2).1
   rw[List.length_set] at hl
   rw[List.getElem?_set_self hl] at e2
   rw[<- Option.some.inj e2]
   trivial
  ·rw[List.getElem?_set_ne hj] at e2
   exact(S.cell j b c' e1 e2).le Fw.freeze.le λ_=>rfl
theorem Wd.Jv {k:Nat} {a:Addr} (S:aM K w) (h:w.ρ[k]?=some a):¬ (w.freeze k).Z a:=by
 rintro ⟨j,c',e1,e2,e3⟩
 have e1:w.ρ[j]?=some a:=e1
 have e2:(w.aI.set k .dead)[j]?=some c':=e2
 have hj:=AU S.nd h e1
 subst hj
 have hl:=(List.getElem?_eq_some_iff.mp e2).1
 rw[List.length_set] at hl
 rw[List.getElem?_set_self hl] at e2
 exact e3 (Option.some.inj e2).symm
end
structure bP (K:Frag) (w:Wd) (env:Env) (σ:St):Prop where
 len:env.length=σ.length
 val:∀(i:Nat) d,env[i]?=some (some d)->∃v,σ[i]?=some (some v)/\DV K w d v
theorem bP.le {K:Frag} {w w':Wd} {env:Env} {σ:St} (h:bP K w env σ) (le:Le K w w'):bP K w' env σ :=
 ⟨h.len,λi d e=>by obtain⟨v,e1,e2⟩:=h.val i d e;exact⟨v,e1,le d v e2⟩⟩
theorem bP.set {K:Frag} {w:Wd} {env:Env} {σ:St} {d:D} {v:V} (h:bP K w env σ) (hd:DV K w d v) (i:Nat):bP K w (env.set i (some d)) (σ.set i (some v)):=by
 refine⟨by rw[List.length_set,List.length_set];exact h.len,λj d' e=>?_⟩
 by_cases hj:i=j
 ·subst hj
  have hl:=(List.getElem?_eq_some_iff.mp e).1
  rw[List.length_set] at hl
  rw[List.getElem?_set_self hl] at e
  have e:d=d':=Option.some.inj (Option.some.inj e)
  subst e
  exact⟨v,by rw[List.getElem?_set_self (by rw[<- h.len];exact hl)],hd⟩
 ·rw[List.getElem?_set_ne hj] at e
  rw[List.getElem?_set_ne hj]
  exact h.val j d' e
def Out (K:Frag) (Ξ:Wd->bq->Prop) (w:Wd) {α:Type} (r:Res α) (k:Wd->α->Prop):Prop:=match r with
 |none=>False
 |some (.ok a,s)=>∀w',Le K w w'->aM K w'->w'.aI=s->k w' a
 |some (.error x,s)=>∀w',Le K w w'->aM K w'->w'.aI=s->Ξ w' x
section
variable {K:Frag} {Ξ:Wd->bq->Prop} {w w':Wd} {α β:Type} {r:Res α} {k k':Wd->α->Prop}
theorem Out.from (h:Out K Ξ w r k) (le:Le K w w'):Out K Ξ w' r k:=by
 unfold Out at h |-
 split<;>simp only at h
 ·exact λw2 l2 o2 e2=>h w2 (le.trans l2) o2 e2
 ·exact λw2 l2 o2 e2=>h w2 (le.trans l2) o2 e2
theorem Out.mono (h:Out K Ξ w r k) (hk:∀w2 a,Le K w w2->aM K w2->k w2 a->k' w2 a):Out K Ξ w r k':=by
 unfold Out at h |-
 split<;>simp only at h
 ·exact λw2 l2 o2 e2=>hk w2 _ l2 o2 (h w2 l2 o2 e2)
 ·exact h
theorem Out.au {g:α->ae->Res β} {q:Wd->β->Prop} (h:Out K Ξ w (DI.au r g) q):Out K Ξ w r (λw2 a=>Out K Ξ w2 (g a w2.aI) q):=by
 match r,h with
 |some (.ok a,s),h =>
  intro w2 l2 o2 e2
  rw[e2]
  exact Out.from h l2
 |some (.error x,s),h=>exact h
theorem Out.done {a:α} (h:Out K Ξ w (some (.ok a,w.aI)) k) (S:aM K w):k w a:=h w (Le.refl w) S rfl
end
end DI
namespace DI
open PySem L2
noncomputable def tE (K:Frag) (Ξ:Wd->bq->Prop) (f:Env->ae->Res D):TE:=fun σ H Q=>∃w env,w.H=H/\aM K w/\bP K w env σ/\Out K Ξ w (f env w.aI) λw' d=>∀v,DV K w' d v->Q v w'.H
noncomputable def tT (K:Frag) (Ξ:Wd->bq->Prop) (f:Env->ae->Res Bool):TT:=fun σ H Q=>∃w env,w.H=H/\aM K w/\bP K w env σ/\Out K Ξ w (f env w.aI) λw' b=>Q b w'.H
noncomputable def tA (K:Frag) (Ξ:Wd->bq->Prop) (f:Env->ae->Res (List D)):TA:=fun σ H Q=>∃w env,w.H=H/\aM K w/\bP K w env σ/\Out K Ξ w (f env w.aI) λw' ds=>∀vs,aq K w' ds vs->Q vs w'.H
noncomputable def rO (K:Frag) (Ξ:Wd->bq->Prop) (o:D->D->ae->Res D):R2:=λx y H Q=>∃w dx dy,w.H=H/\aM K w/\DV K w dx x/\DV K w dy y/\Out K Ξ w (o dx dy w.aI) λw' d=>∀v,DV K w' d v->Q v w'.H
noncomputable def rU (K:Frag) (Ξ:Wd->bq->Prop) (o:D->ae->Res D):V->Hp->VK->Prop:=λx H Q=>∃w dx,w.H=H/\aM K w/\DV K w dx x/\Out K Ξ w (o dx w.aI) λw' d=>∀v,DV K w' d v->Q v w'.H
noncomputable def rC (K:Frag) (Ξ:Wd->bq->Prop) (o:List D->ae->Res D):List V->Hp->VK->Prop:=λxs H Q=>∃w ds,w.H=H/\aM K w/\aq K w ds xs/\Out K Ξ w (o ds w.aI) λw' d=>∀v,DV K w' d v->Q v w'.H
noncomputable def aa (i:Nat):Env->ae->Res D:=λenv s=>match env[i]? with
 |some (some d)=>ok d s
 |_=>none
noncomputable def eC (d:D):Env->ae->Res D:=λ_ s=>ok d s
noncomputable def e1 (o:D->ae->Res D) (f:Env->ae->Res D):Env->ae->Res D:=λenv s=>au (f env s) λx s=>o x s
noncomputable def e2 (o:D->D->ae->Res D) (f g:Env->ae->Res D):Env->ae->Res D:=λenv s=>au (f env s) λx s=>au (g env s) λy s=>o x y s
noncomputable def ai:Env->ae->Res (List D):=λ_ s=>ok [] s
noncomputable def af (f:Env->ae->Res D) (g:Env->ae->Res (List D)):Env->ae->Res (List D):=λenv s=>au (f env s) λx s=>au (g env s) λxs s=>ok (x::xs) s
noncomputable def eB (o:List D->ae->Res D) (f:Env->ae->Res (List D)):Env->ae->Res D:=λenv s=>au (f env s) λds s=>o ds s
noncomputable def gG {α:Type} (ds:List D) (r:Res α):Res α:=if ds.length<=sizeLine then r else none
noncomputable def bE (f:Env->ae->Res (List D)):Env->ae->Res D:=λenv s=>au (f env s) λds s=>gG ds (ok (.tup ds) s)
noncomputable def jx (f:Env->ae->Res (List D)):Env->ae->Res D:=λenv s=>au (f env s) λds s=>gG ds (ok (.lst ds) s)
noncomputable def eNew (f:Env->ae->Res (List D)):Env->ae->Res D:=λenv s=>au (f env s) λds s=>gG ds (ok (.aj s.length) (s++[.lst ds]))
noncomputable def cF:D->ae->Res D:=λd s=>match d with
 | .aj k=>match s[k]? with
  |some (.lst ds)=>ok (.lst ds) (s.set k .dead)
  |_=>none
 |_=>none
noncomputable def jy (f:Env->ae->Res D):Env->ae->Res D:=λenv s=>au (f env s) cF
noncomputable def fe (d:D) (s:ae):Res Bool:=match d with
 | .bl b=>ok b s
 |_=>none
noncomputable def aF (f:Env->ae->Res D):Env->ae->Res Bool:=λenv s=>au (f env s) fe
noncomputable def truth (d:D) (s:ae):Res Bool:=match d with
 | .aA=>ok false s
 | .bl b=>ok b s
 | .int i=>ok (i != 0) s
 | .str x=>if x.length<=sizeLine then ok ((x.length:Int) != 0) s else none
 | .tup ds=>ok (!ds.isEmpty) s
 | .lst ds=>ok (!ds.isEmpty) s
 | .bp ak=>ok (!ak.isEmpty) s
 | .aj k=>match s[k]? with
  |some (.lst ds)=>ok (!ds.isEmpty) s
  |some (.dK ak)=>ok (!ak.isEmpty) s
  |_=>none
 | .ty _=>none
 | .bC _=>none
noncomputable def cR (f:Env->ae->Res D):Env->ae->Res Bool:=λenv s=>au (f env s) truth
noncomputable def cm (f g:Env->ae->Res Bool):Env->ae->Res Bool:=λenv s=>au (f env s) λb s=>if b=true then g env s else ok false s
noncomputable def fW (f g:Env->ae->Res Bool):Env->ae->Res Bool:=λenv s=>au (f env s) λb s=>if b=true then ok true s else g env s
noncomputable def ei (f:Env->ae->Res Bool):Env->ae->Res Bool:=λenv s=>au (f env s) λb s=>ok (!b) s
noncomputable def de (f g:Env->ae->Res D):Env->ae->Res D:=λenv s=>au (f env s) λx s=>au (fe x s) λb s=>if b=true then g env s else ok (.bl false) s
noncomputable def jI (f g:Env->ae->Res D):Env->ae->Res D:=λenv s=>au (f env s) λx s=>au (fe x s) λb s=>if b=true then ok (.bl true) s else g env s
noncomputable def mH (f:Env->ae->Res D):Env->ae->Res D:=λenv s=>au (f env s) λx s=>au (fe x s) λb s=>ok (.bl (!b)) s
noncomputable def Gv (c:Env->ae->Res Bool) (f g:Env->ae->Res D):Env->ae->Res D:=λenv s=>au (c env s) λb s=>if b=true then f env s else g env s
noncomputable def rp (o o':D->D->ae->Res D) (f g h:Env->ae->Res D):Env->ae->Res D:=λenv s=>au (f env s) λx s=>au (g env s) λy s=>au (o x y s) λz s=>au (fe z s) λb s =>
 if b=true then au (h env s) λu s=>o' y u s else ok (.bl false) s
section
variable {X:Cx} {Ξ:Wd->bq->Prop} {e a b c:Expr} {es rest:List Expr} {pos:Pos} {f g h:Env->ae->Res D} {fa:Env->ae->Res (List D)} {ft gt:Env->ae->Res Bool}
theorem cH {t t':TE} (h:PE X e t) (i:∀ σ H Q,t' σ H Q->t σ H Q):PE X e t':=λpins s σ H Q I hq=>h pins s σ H Q I (i σ H Q hq)
theorem xk {t t':TT} (h:PT X e t) (i:∀ σ H Q,t' σ H Q->t σ H Q):PT X e t':=λpins s σ H Q I hq=>h pins s σ H Q I (i σ H Q hq)
theorem Ed {t t':TT} (h:PW X e t) (i:∀ σ H Q,t' σ H Q->t σ H Q):PW X e t':=λwh pins s σ H Q I hq=>h wh pins s σ H Q I (i σ H Q hq)
theorem Ee {t t':TA} (h:PA X es t) (i:∀ σ H Q,t' σ H Q->t σ H Q):PA X es t':=λp pins s σ H Q I hq=>h p pins s σ H Q I (i σ H Q hq)
theorem iw {st:Stmt} {t t':TS} (h:PS X st t) (i:∀D σ H,t' D σ H->t D σ H):PS X st t':=λpins s σ H D I hq=>h pins s σ H D I (i D σ H hq)
theorem Dl {st:List Stmt} {t t':TS} (h:dq X st t) (i:∀D σ H,t' D σ H->t D σ H):dq X st t':=λpins s σ H D I hq=>h pins s σ H D I (i D σ H hq)
theorem aG {α:Type} {K:Frag} {w:Wd} {a:α} {k:Wd->α->Prop} (S:aM K w) (h:Out K Ξ w (ok a w.aI) k):k w a:=h w (Le.refl w) S rfl
theorem ag (i:Nat) {x:Str} (hN:X.N[i]?=some x:=by rfl) (hv:qI X.env.scope x:=by first|exact Or.inl rfl|exact Or.inr (Or.inl rfl)|exact Or.inr (Or.inr rfl)) (hd:(x==("__debug__":Str))=false:=by decide)
  (i7:(x==("__classdict__":Str))=false:=by decide):PE X (.Name x pos) (tE X.K Ξ (aa i)):=cH (MX hN hv hd i7) fun σ H Q aC=>by
 obtain⟨w,env,eH,S,eo,h⟩:=aC
 unfold aa at h
 split at h
 ·rename_i d he
  obtain⟨v,e1,e2⟩:=eo.val i d he
  subst eH
  exact⟨v,e1,aG S h v e2⟩
 ·exact h.elim
theorem qf {d:D} {v:V} (h:PE X e (tC v)) (hd:∀w,DV X.K w d v):PE X e (tE X.K Ξ (eC d)):=cH h fun σ H Q aC=>by
 obtain⟨w,env,eH,S,eo,h⟩:=aC
 subst eH
 exact aG S h v (hd w)
theorem ay {i j}:PE X (.Constant (.int i) j pos) (tE X.K Ξ (eC (.int i))):=qf D1 λ_=>rfl
theorem dQ {b j}:PE X (.Constant (.bool b) j pos) (tE X.K Ξ (eC (.bl b))):=qf Om λ_=>rfl
theorem jq {x j}:PE X (.Constant (.str x) j pos) (tE X.K Ξ (eC (.str x))):=qf MY λ_=>rfl
theorem tm {K:Frag} {o:D->D->ae->Res D} (σ:St) (H:Hp) (Q:VK):tE K Ξ (e2 o f g) σ H Q->qU (rO K Ξ o) (tE K Ξ f) (tE K Ξ g) σ H Q:=by
 rintro ⟨w,env,rfl,S,eo,h⟩
 exact⟨w,env,rfl,S,eo,(Out.au h).mono λw1 x l1 S1 h1 v1 eT=>⟨w1,env,rfl,S1,eo.le l1,(Out.au h1).mono λw2 y l2 S2 h2 v2 jd=>⟨w2,x,y,rfl,S2,l2 _ _ eT,jd,h2⟩⟩⟩
theorem cf {op:Operator} {o:D->D->ae->Res D} (ho:bh X (binaryOp op) (rO X.K Ξ o)) (ha:PE X a (tE X.K Ξ f)) (hb:PE X b (tE X.K Ξ g)):PE X (.BinOp a op b pos) (tE X.K Ξ (e2 o f g)):=cH (OB ho ha hb) tm
theorem dN {op:CmpOp} {o:D->D->ae->Res D} (ho:bh X (compareOp op) (rO X.K Ξ o)) (ha:PE X a (tE X.K Ξ f)) (hb:PE X b (tE X.K Ξ g)) (hm:behindInMarks op b=false):PE X (.Compare a [op] [b] pos) (tE X.K Ξ (e2 o f g)):=cH (LH ho ha hb hm) tm
theorem ND {K:Frag} (σ:St) (H:Hp) (Q:Bool->Hp->Prop):tT K Ξ (aF f) σ H Q->ua (tE K Ξ f) σ H Q:=by
 rintro ⟨w,env,rfl,S,eo,h⟩
 refine⟨w,env,rfl,S,eo,(Out.au h).mono λw1 x l1 S1 h1 v1 eT=>?_⟩
 cases x with
 |bl b =>
  have e:v1=.bl b:=eT
  exact⟨b,e,aG S1 h1⟩
 |_=>exact h1.elim
theorem IL {t t':TE} (i:∀ σ H Q,t' σ H Q->t σ H Q) (σ:St) (H:Hp) (Q:Bool->Hp->Prop):ua t' σ H Q->ua t σ H Q:=λh=>i _ _ _ h
theorem bQ {op:CmpOp} {o:D->D->ae->Res D} (ho:bh X (compareOp op) (rO X.K Ξ o)) (ha:PE X a (tE X.K Ξ f)) (hb:PE X b (tE X.K Ξ g)) (hm:behindInMarks op b=false):PT X (.Compare a [op] [b] pos) (tT X.K Ξ (aF (e2 o f g))) :=
 xk (LI ho ha hb hm) fun σ H Q h=>IL tm σ H Q (ND σ H Q h)
theorem NF {K:Frag} {o o':D->D->ae->Res D} (σ:St) (H:Hp) (Q:VK):tE K Ξ (rp o o' f g h) σ H Q->D4 (rO K Ξ o) (rO K Ξ o') (tE K Ξ f) (tE K Ξ g) (tE K Ξ h) σ H Q:=by
 rintro ⟨w,env,rfl,S,eo,h⟩
 refine⟨w,env,rfl,S,eo,(Out.au h).mono λw1 x l1 S1 h1 v1 eT=>⟨w1,env,rfl,S1,eo.le l1,(Out.au h1).mono λw2 y l2 S2 h2 v2 jd=>⟨w2,x,y,rfl,S2,l2 _ _ eT,jd,(Out.au h2).mono λw3 z l3 S3 h3 v3 zv=>?_⟩⟩⟩
 have h4:=Out.au h3
 cases z with
 |bl b =>
  have e:v3=.bl b:=zv
  have h5:=aG S3 h4
  refine⟨b,e,?_⟩
  cases b with
  |true =>
   rw[if_pos rfl] at h5 |-
   exact⟨w3,env,rfl,S3,eo.le (l1.trans (l2.trans l3)),(Out.au h5).mono λw4 u l4 S4 h6 v4 zw=>⟨w4,y,u,rfl,S4,(l3.trans l4) _ _ jd,zw,h6⟩⟩
  |false =>
   rw[if_neg Bool.false_ne_true] at h5 |-
   exact aG S3 h5 _ rfl
 |_=>exact h4.elim
theorem Me {op mU:CmpOp} {o o':D->D->ae->Res D} (ho:bh X (compareOp op) (rO X.K Ξ o)) (dg:bh X (compareOp mU) (rO X.K Ξ o')) (ha:PE X a (tE X.K Ξ f)) (hb:PE X b (tE X.K Ξ g)) (hc:PE X c (tE X.K Ξ h))
  (hm:lastMarks [op,mU] [b,c]=false:=by with_unfolding_all rfl):PE X (.Compare a [op,mU] [b,c] pos) (tE X.K Ξ (rp o o' f g h)):=cH (Kh ho dg ha hb hc hm) NF
theorem FN {op:UnaryOp} {o:D->ae->Res D} (ho:qT X (unaryOp op) (rU X.K Ξ o)) (ha:PE X a (tE X.K Ξ f)):PE X (.UnaryOp op a pos) (tE X.K Ξ (e1 o f)):=cH (OC ho ha) fun σ H Q aC=>by
 obtain⟨w,env,eH,S,eo,h⟩:=aC
 subst eH
 exact⟨w,env,rfl,S,eo,(Out.au h).mono λw1 x l1 S1 h1 v1 eT=>⟨w1,x,rfl,S1,eT,h1⟩⟩
theorem ao:PA X [] (tA X.K Ξ ai):=Ee lV fun σ H Q aC=>by
 obtain⟨w,env,eH,S,eo,h⟩:=aC
 subst eH
 exact aG S h _ rfl
theorem ah (ha:PE X e (tE X.K Ξ f)) (hr:PA X es (tA X.K Ξ fa)) (hs:starEach (e::es) X.env=(false,eval e X.env)::starEach es X.env:=by rfl):PA X (e::es) (tA X.K Ξ (af f fa)):=Ee (j3 ha hr hs) fun σ H Q aC=>by
 obtain⟨w,env,eH,S,eo,h⟩:=aC
 subst eH
 exact⟨w,env,rfl,S,eo,(Out.au h).mono λw1 x l1 S1 h1 v1 eT=>⟨w1,env,rfl,S1,eo.le l1,(Out.au h1).mono λw2 xs l2 S2 h2 vs aw=>aG S2 h2 _ ⟨v1,vs,rfl,l2 _ _ eT,aw⟩⟩⟩
theorem pJ {α:Type} {K:Frag} {w:Wd} {ds:List D} {r:Res α} {k:Wd->α->Prop} (h:Out K Ξ w (gG ds r) k):ds.length<=sizeLine/\Out K Ξ w r k:=by
 unfold gG at h
 split at h
 ·exact⟨by assumption,h⟩
 ·exact h.elim
theorem eZ {x1} (ha:PA X es (tA X.K Ξ fa)):PE X (.Tuple es x1 pos) (tE X.K Ξ (bE fa)):=cH (Nj ha) fun σ H Q aC=>by
 obtain⟨w,env,eH,S,eo,h⟩:=aC
 subst eH
 refine⟨w,env,rfl,S,eo,(Out.au h).mono λw1 ds l1 S1 h1 vs aw=>?_⟩
 obtain⟨hl,h2⟩:=pJ h1
 refine⟨by rw[<- aw.length];exact hl,λp hp=>?_⟩
 exact h2 (w1.grow p (.tup vs)) (Fw.grow hp).le (S1.grow hp) rfl (.ref p) ⟨p,vs,rfl,aR.of dE,(Fw.grow hp).le.all aw⟩
theorem nZ {K:Frag} {w:Wd} {p:Addr} (S:aM K w) (hp:w.H p=none):¬ w.Z p:=λ⟨k,c,e1,_,_⟩=>S.there k p e1 hp
theorem oj (ha:PA X es (tA X.K Ξ fa)):PE X (.List es pos) (tE X.K Ξ (jx fa)):=cH (D6 ha) fun σ H Q aC=>by
 obtain⟨w,env,eH,S,eo,h⟩:=aC
 subst eH
 refine⟨w,env,rfl,S,eo,(Out.au h).mono λw1 ds l1 S1 h1 vs aw=>?_⟩
 obtain⟨hl,h2⟩:=pJ h1
 refine⟨by rw[<- aw.length];exact hl,λp hp=>?_⟩
 exact h2 (w1.grow p (.lst vs)) (Fw.grow hp).le (S1.grow hp) rfl (.ref p) ⟨p,vs,rfl,⟨(show ¬ w1.Z p from nZ S1 hp),dE⟩,(Fw.grow hp).le.all aw⟩
theorem om (ha:PA X es (tA X.K Ξ fa)):PE X (.List es pos) (tE X.K Ξ (eNew fa)):=cH (D6 ha) fun σ H Q aC=>by
 obtain⟨w,env,eH,S,eo,h⟩:=aC
 subst eH
 refine⟨w,env,rfl,S,eo,(Out.au h).mono λw1 ds l1 S1 h1 vs aw=>?_⟩
 obtain⟨hl,h2⟩:=pJ h1
 refine⟨by rw[<- aw.length];exact hl,λp hp=>?_⟩
 have le:=(Fw.cell (o:=.lst vs) (c:=.lst ds) S1 hp).le
 refine h2 (w1.cell p (.lst vs) (.lst ds)) le (S1.xO hp ⟨vs,dE,le.all aw⟩) rfl (.ref p) ⟨p,?_,rfl⟩
 show (w1.ρ++[p])[w1.aI.length]?=some p
 rw[<- S1.len]
 simp
theorem ug (ha:PE X a (tE X.K Ξ f)):PE X a (tE X.K Ξ (jy f)):=cH ha fun σ H Q aC=>by
 obtain⟨w,env,eH,S,eo,h⟩:=aC
 subst eH
 refine⟨w,env,rfl,S,eo,(Out.au h).mono λw1 x l1 S1 h1 v1 eT=>?_⟩
 unfold cF at h1
 split at h1
 ·rename_i k
  split at h1
  ·rename_i ds hk
   obtain⟨p,e1,e2⟩:=eT
   obtain⟨xs,q1,q2⟩:=S1.cell k p _ e1 hk
   exact h1 (w1.freeze k) Fw.freeze.le S1.freeze rfl v1 ⟨p,xs,e2,⟨Wd.Jv S1 e1,q1⟩,Fw.freeze.le.all q2⟩
  ·exact h1.elim
 ·exact h1.elim
theorem mE.of {K:Frag} {w:Wd} {d:D} {v:V} {k:Wd->Bool->Prop} (S:aM K w) (hd:DV K w d v) (h:Out K Ξ w (truth d w.aI) k):∃b,mE K v w.H b/\k w b:=by
 cases d with
 |aA=>have e:v=.aA:=hd;subst e;exact⟨_,rfl,aG S h⟩
 |bl b=>have e:v=.bl b:=hd;subst e;exact⟨_,rfl,aG S h⟩
 |int i=>have e:v=.int i:=hd;subst e;exact⟨_,rfl,aG S h⟩
 |str x =>
  have e:v=.str x:=hd
  subst e
  unfold truth at h
  split at h<;>first|contradiction|skip
  all_goals (rename_i e;cases e)
  split at h
  ·exact⟨_,⟨by assumption,rfl⟩,aG S h⟩
  ·exact h.elim
 |tup ds =>
  simp only[DV] at hd
  obtain⟨a,xs,rfl,hq,r⟩:=hd
  refine⟨_,.inr (.inl ⟨xs,hq,?_⟩),aG S h⟩
  have e:=r.length
  cases ds<;>cases xs<;>first|rfl|cases e
 |lst ds =>
  simp only[DV] at hd
  obtain⟨a,xs,rfl,hq,r⟩:=hd
  refine⟨_,.inl ⟨xs,hq.sq,?_⟩,aG S h⟩
  have e:=r.length
  cases ds<;>cases xs<;>first|rfl|cases e
 |bp ak =>
  simp only[DV] at hd
  obtain⟨a,rfl,_,hq⟩:=hd
  refine⟨_,.inr (.inr ⟨_,hq,?_⟩),aG S h⟩
  cases ak<;>rfl
 |aj j =>
  simp only[DV] at hd
  obtain⟨a,e1,rfl⟩:=hd
  simp only[truth] at h
  split at h
  ·rename_i ds hk
   obtain⟨xs,q1,q2⟩:=S.cell j a _ e1 hk
   refine⟨_,.inl ⟨xs,bG.of q1,?_⟩,aG S h⟩
   have e:=q2.length
   cases ds<;>cases xs<;>first|rfl|cases e
  ·rename_i ak hk
   obtain⟨es,q1,q2,q3⟩:=S.cell j a _ e1 hk
   refine⟨_,.inr (.inr ⟨es,q1,?_⟩),aG S h⟩
   have e:=congrArg List.length q2
   cases ak<;>cases es<;>first|rfl|simp at e
  ·exact h.elim
 |ty n=>exact h.elim
 |bC ns=>exact h.elim
theorem fb (ha:PE X a (tE X.K Ξ f)) (he:∀whole,isTrue a X.env whole=(do let v <- whole;standAt a.pos;holding [v] (truthy v)):=by intro _;rfl):PT X a (tT X.K Ξ (cR f)):=xk (Ki ha he) fun σ H Q aC=>by
 obtain⟨w,env,eH,S,eo,h⟩:=aC
 subst eH
 exact⟨w,env,rfl,S,eo,(Out.au h).mono λw1 x l1 S1 h1 v1 eT=>mE.of S1 eT h1⟩
theorem iS (ha:PT X a (tT X.K Ξ ft)):PT X (.UnaryOp .Not a pos) (tT X.K Ξ (ei ft)):=xk (M3 ha) fun σ H Q aC=>by
 obtain⟨w,env,eH,S,eo,h⟩:=aC
 subst eH
 exact⟨w,env,rfl,S,eo,(Out.au h).mono λw1 b l1 S1 h1=>aG S1 h1⟩
theorem lW (ha:PT X a (tT X.K Ξ ft)):PW X (.BoolOp .And [a] pos) (tT X.K Ξ ft):=LA ha
theorem kS (ha:PT X a (tT X.K Ξ ft)):PW X (.BoolOp .Or [a] pos) (tT X.K Ξ ft):=MZ ha
theorem w_and (ha:PT X a (tT X.K Ξ ft)) (hb:PW X (.BoolOp .And (b::rest) pos) (tT X.K Ξ gt)):PW X (.BoolOp .And (a::b::rest) pos) (tT X.K Ξ (cm ft gt)):=Ed (M0 ha hb) fun σ H Q aC=>by
 obtain⟨w,env,eH,S,eo,h⟩:=aC
 subst eH
 refine⟨w,env,rfl,S,eo,(Out.au h).mono λw1 b l1 S1 h1=>?_⟩
 cases b with
 |true=>exact⟨w1,env,rfl,S1,eo.le l1,h1⟩
 |false=>exact aG S1 h1
theorem w_or (ha:PT X a (tT X.K Ξ ft)) (hb:PW X (.BoolOp .Or (b::rest) pos) (tT X.K Ξ gt)):PW X (.BoolOp .Or (a::b::rest) pos) (tT X.K Ξ (fW ft gt)):=Ed (Oo ha hb) fun σ H Q aC=>by
 obtain⟨w,env,eH,S,eo,h⟩:=aC
 subst eH
 refine⟨w,env,rfl,S,eo,(Out.au h).mono λw1 b l1 S1 h1=>?_⟩
 cases b with
 |false=>exact⟨w1,env,rfl,S1,eo.le l1,h1⟩
 |true=>exact aG S1 h1
theorem dO {op} (ha:PE X a (tE X.K Ξ f)):PE X (.BoolOp op [a] pos) (tE X.K Ξ f):=M4 ha
theorem wN {K:Frag} {w:Wd} {d:D} {v:V} {k:Wd->Bool->Prop} (S:aM K w) (hd:DV K w d v) (h:Out K Ξ w (fe d w.aI) k):∃b,v=.bl b/\k w b:=by
 cases d with
 |bl b=>exact⟨b,hd,aG S h⟩
 |_=>exact h.elim
theorem ef (ha:PE X a (tE X.K Ξ f)) (hb:PE X (.BoolOp .And (b::rest) pos) (tE X.K Ξ g)):PE X (.BoolOp .And (a::b::rest) pos) (tE X.K Ξ (de f g)):=cH (M5 ha hb) fun σ H Q aC=>by
 obtain⟨w,env,eH,S,eo,h⟩:=aC
 subst eH
 refine⟨w,env,rfl,S,eo,(Out.au h).mono λw1 x l1 S1 h1 v1 eT=>?_⟩
 obtain⟨b,e,h2⟩:=wN S1 eT (Out.au h1)
 refine⟨b,e,?_⟩
 cases b with
 |true=>exact⟨w1,env,rfl,S1,eo.le l1,h2⟩
 |false=>exact aG S1 h2 _ rfl
theorem oG (ha:PE X a (tE X.K Ξ f)) (hb:PE X (.BoolOp .Or (b::rest) pos) (tE X.K Ξ g)):PE X (.BoolOp .Or (a::b::rest) pos) (tE X.K Ξ (jI f g)):=cH (Ou ha hb) fun σ H Q aC=>by
 obtain⟨w,env,eH,S,eo,h⟩:=aC
 subst eH
 refine⟨w,env,rfl,S,eo,(Out.au h).mono λw1 x l1 S1 h1 v1 eT=>?_⟩
 obtain⟨b,e,h2⟩:=wN S1 eT (Out.au h1)
 refine⟨b,e,?_⟩
 cases b with
 |false=>exact⟨w1,env,rfl,S1,eo.le l1,h2⟩
 |true=>exact aG S1 h2 _ rfl
theorem uh (ha:PE X a (tE X.K Ξ f)):PE X (.UnaryOp .Not a pos) (tE X.K Ξ (mH f)):=cH (M6 ha) fun σ H Q aC=>by
 obtain⟨w,env,eH,S,eo,h⟩:=aC
 subst eH
 refine⟨w,env,rfl,S,eo,(Out.au h).mono λw1 x l1 S1 h1 v1 eT=>?_⟩
 obtain⟨b,e,h2⟩:=wN S1 eT (Out.au h1)
 exact⟨b,e,aG S1 h2 _ rfl⟩
theorem Ef {K:Frag} {o:List D->ae->Res D} (σ:St) (H:Hp) (Q:VK):tE K Ξ (eB o fa) σ H Q->yW (rC K Ξ o) (tA K Ξ fa) σ H Q:=by
 rintro ⟨w,env,rfl,S,eo,h⟩
 exact⟨w,env,rfl,S,eo,(Out.au h).mono λw1 ds l1 S1 h1 vs aw=>⟨w1,ds,rfl,S1,aw,h1⟩⟩
theorem bU {x:Str} {p:Pos} {id:String} {o:List D->ae->Res D} (hc:bV X (.builtin id) (rC X.K Ξ o)) (hg:Gl X x) (hm:X.mg x=none) (hv:bootBuiltins x=some (.builtin id)) (ha:PA X (e::es) (tA X.K Ξ fa)) (hn:x≠"__name__":=by decide) (ja:(x==("__debug__":Str))=false:=by decide)
  (he:starEach (e::es) X.env=(false,eval e X.env)::starEach es X.env:=by rfl) (cN:(backTo pos (starEach es X.env)).any (·.1)=false:=by rfl):PE X (.Call (.Name x p) (e::es) [] pos) (tE X.K Ξ (eB o fa)):=cH (vX hc hg hm hv ha hn ja he cN) Ef
theorem iu {x:Str} {p:Pos} {T:String} {o:List D->ae->Res D} (hc:bV X (.type T) (rC X.K Ξ o)) (hg:Gl X x) (hm:X.mg x=none) (hv:bootBuiltins x=some (.type T)) (ha:PA X (e::es) (tA X.K Ξ fa)) (hn:x≠"__name__":=by decide) (ja:(x==("__debug__":Str))=false:=by decide)
  (he:starEach (e::es) X.env=(false,eval e X.env)::starEach es X.env:=by rfl) (cN:(backTo pos (starEach es X.env)).any (·.1)=false:=by rfl):PE X (.Call (.Name x p) (e::es) [] pos) (tE X.K Ξ (eB o fa)):=cH (vL hc hg hm hv ha hn ja he cN) Ef
end
end DI
namespace DI
open PySem L2
set_option genInjectivity true in
inductive Fl where
 |nx (env:Env)|rt (d:D)|bk (env:Env)|ct (env:Env)
noncomputable def yy (K:Frag) (D:Ends) (w:Wd):Fl->Prop
 | .nx env=>∀ σ,bP K w env σ->D.nx σ w.H
 | .rt d=>∀v,DV K w d v->D.rt v w.H
 | .bk env=>∀ σ,bP K w env σ->D.bk σ w.H
 | .ct env=>∀ σ,bP K w env σ->D.ct σ w.H
noncomputable def tS (K:Frag) (Ξ:Wd->bq->Prop) (f:Env->ae->Res Fl):TS:=λD σ H=>∃w env,w.H=H/\aM K w/\bP K w env σ/\Out K Ξ w (f env w.aI) (yy K D)
noncomputable def cu:Env->ae->Res Fl:=λenv s=>ok (.nx env) s
noncomputable def az (f g:Env->ae->Res Fl):Env->ae->Res Fl:=λenv s=>au (f env s) λfl s=>match fl with
 | .nx env=>g env s
 |fl=>ok fl s
noncomputable def aS (f:Env->ae->Res D):Env->ae->Res Fl:=λenv s=>au (f env s) λd s=>ok (.rt d) s
noncomputable def fv (f:Env->ae->Res D):Env->ae->Res Fl:=λenv s=>au (f env s) λ_ s=>ok (.nx env) s
noncomputable def bS (c:Env->ae->Res Bool) (f g:Env->ae->Res Fl):Env->ae->Res Fl:=λenv s=>au (c env s) λb s=>if b=true then f env s else g env s
noncomputable def qg:Env->ae->Res Fl:=λenv s=>ok (.ct env) s
noncomputable def aO (f:Env->ae->Res D) (g:D->Env->Option Env):Env->ae->Res Fl:=λenv s=>au (f env s) λd s=>match g d env with
 |some aE=>ok (.nx aE) s
 |none=>none
noncomputable def gN (i:Nat):D->Env->Option Env:=λd env=>some (env.set i (some d))
noncomputable def fS:List (D->Env->Option Env)->List D->Env->Option Env
 | [],[],env=>some env
 |g::gs,d::ds,env=>match g d env with
  |some aE=>fS gs ds aE
  |none=>none
 |_,_,_=>none
noncomputable def gT (gs:List (D->Env->Option Env)):D->Env->Option Env:=λd env=>match d with
 | .tup ds=>fS gs ds env
 |_=>none
noncomputable def jr (g:D->Env->Option Env) (b:Env->ae->Res Fl):List D->Env->ae->Res Fl
 | [],env,s=>ok (.nx env) s
 |d::ds,env,s=>match g d env with
  |none=>none
  |some aE=>au (b aE s) λfl s=>match fl with
   | .nx e=>jr g b ds e s
   | .ct e=>jr g b ds e s
   | .bk e=>ok (.nx e) s
   | .rt d=>ok (.rt d) s
noncomputable def dG (it:Env->ae->Res (List D)) (g:D->Env->Option Env) (b:Env->ae->Res Fl):Env->ae->Res Fl:=λenv s=>au (it env s) λds s=>jr g b ds env s
noncomputable def ne {α:Type} (r:Res α):Res α:=match r with
 |some (.ok a,s)=>some (.ok a,s)
 |_=>none
@[simp] theorem kT {α:Type} {a:α} {s:ae}:ne (some (.ok a,s))=some (.ok a,s):=rfl
noncomputable def fx (cap:List Nat) (env:Env):Env:=cap.map λj=>(env[j]?).getD none
noncomputable def dY (nt:Nat) (caps:Env) (g:D->Env->Option Env) (t:Env->ae->Res Bool) (f:Env->ae->Res D):List D->ae->Res (List D)
 | [],s=>ok [] s
 |d::ds,s=>match g d (List.replicate nt none++caps) with
  |none=>none
  |some env=>au (ne (t env s)) λb s=>if b=true then au (ne (f env s)) λx s=>au (dY nt caps g t f ds s) λxs s=>ok (x::xs) s
   else dY nt caps g t f ds s
noncomputable def aW (nt:Nat) (cap:List Nat) (it:Env->ae->Res (List D)) (g:D->Env->Option Env) (t:Env->ae->Res Bool) (f:Env->ae->Res D):Env->ae->Res D:=λenv s =>
 au (it env s) λds s=>gG ds (au (dY nt (fx cap env) g t f ds s) λxs s=>ok (.lst xs) s)
noncomputable def pV (nt:Nat) (cap:List Nat) (it:Env->ae->Res (List D)) (g:D->Env->Option Env) (t:Env->ae->Res Bool) (f:Env->ae->Res D):Env->ae->Res D:=λenv s =>
 au (it env s) λds s=>gG ds (au (dY nt (fx cap env) g t f ds s) λxs s=>ok (.aj s.length) (s++[.lst xs]))
noncomputable def cx:Env->ae->Res Bool:=λ_ s=>ok true s
noncomputable def bb (np ns:Nat) (b:Env->ae->Res Fl):List D->ae->Res D:=λds s=>if ds.length=np then au (b (ds.map some++List.replicate (ns-np) none) s) λfl s=>match fl with
 | .rt d=>ok d s
 | .nx _=>ok .aA s
 |_=>none else none
noncomputable abbrev cj:Wd->bq->Prop:=λ_ _=>False
noncomputable def bA (K:Frag) (f:List D->ae->Res D):Sp:=λvs H Q _=>∃w ds,w.H=H/\aM K w/\aq K w ds vs/\Out K cj w (f ds w.aI) λw' d=>∀v,DV K w' d v->Q v w'.H
section
variable {X:Cx} {Ξ:Wd->bq->Prop} {e a b c tg:Expr} {es rest:List Expr} {pos:Pos} {f g h:Env->ae->Res D} {fa:Env->ae->Res (List D)} {ft gt:Env->ae->Res Bool} {st:Stmt} {lD yz:List Stmt} {fs gs:Env->ae->Res Fl}
theorem fc:dq X [] (tS X.K Ξ cu):=Dl LB λD σ H aC=>by
 obtain⟨w,env,eH,S,eo,h⟩:=aC
 subst eH
 exact aG S h σ eo
theorem aL (h1:PS X st (tS X.K Ξ fs)) (h2:dq X lD (tS X.K Ξ gs)):dq X (st::lD) (tS X.K Ξ (az fs gs)):=Dl (Kg h1 h2) λD σ H aC=>by
 obtain⟨w,env,eH,S,eo,h⟩:=aC
 subst eH
 refine⟨w,env,rfl,S,eo,(Out.au h).mono λw1 fl l1 S1 h1=>?_⟩
 cases fl with
 |nx aE=>exact fun aT iM=>⟨w1,aE,rfl,S1,iM,h1⟩
 |rt d=>have q:=aG S1 h1;exact q
 |bk aE=>have q:=aG S1 h1;exact q
 |ct aE=>have q:=aG S1 h1;exact q
theorem aN (h1:PS X st (tS X.K Ξ fs)):dq X [st] (tS X.K Ξ fs):=LC h1
theorem NG:PS X (.Continue pos) (tS X.K Ξ qg):=iw HP λD σ H aC=>by
 obtain⟨w,env,eH,S,eo,h⟩:=aC
 subst eH
 exact aG S h σ eo
theorem bz (he:PE X e (tE X.K Ξ f)):PS X (.Return (some e) pos) (tS X.K Ξ (aS f)):=iw (M7 he) λD σ H aC=>by
 obtain⟨w,env,eH,S,eo,h⟩:=aC
 subst eH
 exact⟨w,env,rfl,S,eo,(Out.au h).mono λw1 d l1 S1 h1=>aG S1 h1⟩
theorem kN (he:PE X e (tE X.K Ξ f)) (hs:swapsWith e none pos.line X.env=pure false:=by rfl):PS X (.Expr e pos) (tS X.K Ξ (fv f)):=iw (LD he hs) λD σ H aC=>by
 obtain⟨w,env,eH,S,eo,h⟩:=aC
 subst eH
 exact⟨w,env,rfl,S,eo,(Out.au h).mono λw1 d l1 S1 h1 _ _=>aG S1 h1 σ (eo.le l1)⟩
theorem eM (hc:PT X c (tT X.K Ξ ft)) (ha:dq X lD (tS X.K Ξ fs)) (hb:dq X yz (tS X.K Ξ gs)):PS X (.If c lD yz pos) (tS X.K Ξ (bS ft fs gs)):=iw (Oy hc ha hb) λD σ H aC=>by
 obtain⟨w,env,eH,S,eo,h⟩:=aC
 subst eH
 refine⟨w,env,rfl,S,eo,(Out.au h).mono λw1 b l1 S1 h1=>?_⟩
 cases b with
 |true=>exact⟨w1,env,rfl,S1,eo.le l1,h1⟩
 |false=>exact⟨w1,env,rfl,S1,eo.le l1,h1⟩
noncomputable def u7:Env->ae->Res Fl:=λ_ _=>none
theorem v5:dq X lD (tS X.K Ξ u7):=λ_ _ _ _ _ _ h=>by obtain⟨w,env,_,_,_,h⟩:=h;exact h.elim
noncomputable def gD (K:Frag) (g:D->Env->Option Env):TG:=λv σ H Q=>∃w env d aE,w.H=H/\aM K w/\bP K w env σ/\DV K w d v/\g d env=some aE/\∀ aT,bP K w aE aT->Q aT H
noncomputable def rq (K:Frag) (g:List D->Env->Option Env):gn:=λvs σ H Q=>∃w env ds aE,w.H=H/\aM K w/\bP K w env σ/\aq K w ds vs/\g ds env=some aE/\∀ aT,bP K w aE aT->Q aT H
theorem Eg {t t':TG} (h:PG X e t) (i:∀v σ H Q,t' v σ H Q->t v σ H Q):PG X e t':=λpins s σ H v u Q I r hq=>h pins s σ H v u Q I r (i v σ H Q hq)
theorem Dm {t t':gn} (h:jE X es t) (i:∀v σ H Q,t' v σ H Q->t v σ H Q):jE X es t':=λpins s σ H v u Q I r hq=>h pins s σ H v u Q I r (i v σ H Q hq)
theorem bZ (i:Nat) {x:Str} (hN:X.N.Nodup) (hi:X.N[i]?=some x:=by rfl) (hx:Loc X.env.scope x:=by first|exact Or.inl rfl|exact Or.inr rfl) (hf:X.fn x=true\/X.env.scope.names.lookup x=some .local:=by first|exact .inl rfl|exact .inr rfl):PG X (.Name x pos) (gD X.K (gN i)) :=
 Eg (bI hN hi hx hf) λv σ H Q aC=>by
  obtain⟨w,env,d,aE,eH,S,eo,dv,eg,k⟩:=aC
  have e:env.set i (some d)=aE:=Option.some.inj eg
  subst e
  exact k _ (eo.set dv i)
theorem lX:jE X [] (rq X.K (fS [])):=Dm sZ λvs σ H Q aC=>by
 obtain⟨w,env,ds,aE,eH,S,eo,aw,eg,k⟩:=aC
 cases ds with
 |nil =>
  have e:env=aE:=Option.some.inj eg
  subst e
  exact⟨aw,k _ eo⟩
 |cons d ds=>cases eg
theorem fq {g:D->Env->Option Env} {gl:List (D->Env->Option Env)} (h1:PG X e (gD X.K g)) (h2:jE X es (rq X.K (fS gl)))
  (hs:(assignEach (e::es) X.env).map (·.2)=assign e X.env::(assignEach es X.env).map (·.2):=by rfl):jE X (e::es) (rq X.K (fS (g::gl))):=Dm (lO h1 h2 hs) λvs σ H Q aC=>by
 obtain⟨w,env,ds,aE,eH,S,eo,aw,eg,k⟩:=aC
 cases ds with
 |nil=>cases eg
 |cons d ds =>
  obtain⟨v,r,rfl,dv,dr⟩:=aw
  simp only[fS] at eg
  cases o7:g d env with
  |none=>rw[o7] at eg;cases eg
  |some uH =>
   rw[o7] at eg
   refine⟨v,r,rfl,w,env,d,uH,eH,S,eo,dv,o7,fun F9 Rp=>⟨w,uH,ds,aE,eH,S,Rp,dr,eg,k⟩⟩
theorem v7:∀{gl:List (D->Env->Option Env)} {ds:List D} {env aE:Env},fS gl ds env=some aE->ds.length=gl.length
 | [],[],_,_,_=>rfl
 |g::gl,d::ds,env,aE,h=>by
  simp only[fS] at h
  cases o7:g d env with
  |none=>rw[o7] at h;cases h
  |some e1=>rw[o7] at h;simp[v7 h]
 | [],_::_,_,_,h=>by cases h
 |_::_,[],_,_,h=>by cases h
theorem mi {gl:List (D->Env->Option Env)} {k:Nat} (hc:X.calm=true) (h:jE X es (rq X.K (fS gl))) (hn:(assignEach es X.env).length=gl.length:=by rfl) (qO:(assignEach es X.env).findIdx? (·.1)=none:=by rfl):PG X (.Tuple es k pos) (gD X.K (gT gl)) :=
 Eg (lT hc h hn qO) λv σ H Q aC=>by
  obtain⟨w,env,d,aE,eH,S,eo,dv,eg,k⟩:=aC
  cases d with
  |tup ds =>
   simp only[DV] at dv
   obtain⟨p,xs,e1,hq,aw⟩:=dv
   subst eH
   exact⟨p,xs,e1,hq,by rw[<- aw.length];exact v7 eg,w,env,ds,aE,rfl,S,eo,aw,eg,k⟩
  |_=>cases eg
theorem wO {K:Frag} {g:D->Env->Option Env} (D:Ends) (σ:St) (H:Hp):tS K Ξ (aO f g) D σ H->oy (tE K Ξ f) (gD K g) D σ H:=by
 rintro ⟨w,env,rfl,S,eo,h⟩
 refine⟨w,env,rfl,S,eo,(Out.au h).mono λw1 d l1 S1 h1 v dv=>?_⟩
 cases hg:g d env with
 |none=>rw[hg] at h1;exact h1.elim
 |some aE =>
  rw[hg] at h1
  exact⟨w1,env,d,aE,rfl,S1,eo.le l1,dv,hg,aG S1 h1⟩
theorem mj {g:D->Env->Option Env} (he:PE X e (tE X.K Ξ f)) (hg:PG X tg (gD X.K g)) (hs:swapsWithSole [tg] e pos.line X.env=pure false:=by rfl) (hw:swappedStores [tg] e X.env=pure none:=by rfl)
  (h1:(assignEach [tg] X.env).map (·.2)=[assign tg X.env]:=by rfl):PS X (.Assign [tg] e pos) (tS X.K Ξ (aO f g)):=iw (xg he hg hs hw h1) wO
theorem BS {K:Frag} {te:TE} {i:Nat} (D:Ends) (σ:St) (H:Hp):oy (tE K Ξ f) (gD K (gN i)) D σ H->oy (tE K Ξ f) (kb i) D σ H:=by
 rintro ⟨w,env,rfl,S,eo,h⟩
 refine⟨w,env,rfl,S,eo,h.mono λw1 d l1 S1 h1 v dv=>?_⟩
 obtain⟨w',uH,d',aE,e',S',iM,m7,eg,k⟩:=h1 v dv
 have e:uH.set i (some d')=aE:=Option.some.inj eg
 subst e
 exact k _ (iM.set m7 i)
theorem bW (i:Nat) {x:Str} {pos':Pos} (hN:X.N.Nodup) (he:PE X e (tE X.K Ξ f)) (hi:X.N[i]?=some x:=by rfl) (hx:Loc X.env.scope x:=by first|exact Or.inl rfl|exact Or.inr rfl) (hs:swapsWith e (some (.Name x pos')) pos.line X.env=pure false:=by rfl) (hf:X.fn x=true\/X.env.scope.names.lookup x=some .local:=by first|exact .inl rfl|exact .inr rfl) :
  PS X (.Assign [.Name x pos'] e pos) (tS X.K Ξ (aO f (gN i))):=iw (M8 hN hi hx he hs hf) λD σ H h=>BS (te:=tE X.K Ξ f) D σ H (wO D σ H h)
def m8 (K:Frag) (w:Wd) (J:It) (ds:List D):Prop:=∀w',Le K w w'->aM K w'->∀i,
 (∀d,ds[i]?=some d->J.go i w'.H/\∀x H',J.qP i w'.H x H'->∃w2,w2.H=H'/\Le K w' w2/\aM K w2/\w2.aI=w'.aI/\DV K w2 d x)/\(ds.length<=i->J.stop i w'.H)
noncomputable def dC (K:Frag) (Ξ:Wd->bq->Prop) (f:Env->ae->Res (List D)):TI:=fun σ H R=>∃w env,w.H=H/\aM K w/\bP K w env σ/\Out K Ξ w (f env w.aI) λw' ds=>∀J,m8 K w' J ds->R J w'.H
theorem n0 {t t':TI} (h:PI X tg e t) (i:∀ σ H R,t' σ H R->t σ H R):PI X tg e t':=λpins s σ H R I hq=>h pins s σ H R I (i σ H R hq)
theorem Mf {K:Frag} {it:Env->ae->Res (List D)} {g:D->Env->Option Env} (D0:Ends) (σ:St) (H:Hp):tS K Ξ (dG it g fs) D0 σ H->FE (dC K Ξ it) (gD K g) (tS K Ξ fs) D0 σ H:=by
 rintro ⟨w,env,rfl,S,eo,h⟩
 refine⟨w,env,rfl,S,eo,(Out.au h).mono λw1 ds l1 S1 h1 J hJ=>?_⟩
 refine⟨λi m aT H'=>m=ds.length-i/\i<=ds.length/\∃w' aE,w'.H=H'/\Le K w1 w'/\aM K w'/\bP K w' aE aT/\Out K Ξ w' (jr g fs (ds.drop i) aE w'.aI) (yy K D0),
  ⟨ds.length,rfl,Nat.zero_le _,w1,env,rfl,Le.refl _,S1,eo.le l1,h1⟩,?_⟩
 rintro i m aT H' ⟨rfl,hi,w',aE,rfl,l',S',iM,h'⟩
 by_cases bg:i<ds.length
 ·right
  obtain⟨fM,hy⟩:=(hJ w' l' S' i).1 _ (List.getElem?_eq_getElem bg)
  rw[List.drop_eq_getElem_cons bg] at h'
  simp only[jr] at h'
  cases hg:g ds[i] aE with
  |none=>rw[hg] at h';exact h'.elim
  |some iD =>
   rw[hg] at h'
   refine⟨fM,fun kj H2=>∃w2 uJ,w2.H=H2/\Le K w1 w2/\aM K w2/\bP K w2 uJ kj/\Out K Ξ w2 (jr g fs (ds.drop (i+1)) uJ w2.aI) (yy K D0),fun kj H2 ⟨w2,uJ,q⟩=>⟨ds.length-(i+1),by omega,rfl,bg,w2,uJ,q⟩,λx H2 y=>?_⟩
   obtain⟨w2,rfl,l2,S2,es,dv⟩:=hy x H2 y
   refine⟨w2,aE,ds[i],iD,rfl,S2,iM.le l2,dv,hg,fun kj jJ=>⟨w2,iD,rfl,S2,jJ,?_⟩⟩
   rw[<- es] at h'
   refine(Out.au (h'.from l2)).mono λw3 fl l3 S3 h3=>?_
   cases fl with
   |nx e3=>exact fun jF zx=>⟨w3,e3,rfl,l'.trans (l2.trans l3),S3,zx,h3⟩
   |ct e3=>exact fun jF zx=>⟨w3,e3,rfl,l'.trans (l2.trans l3),S3,zx,h3⟩
   |bk e3=>have q:=aG S3 h3;exact q
   |rt d=>have q:=aG S3 h3;exact q
 ·left
  have e:i=ds.length:=by omega
  subst e
  rw[List.drop_length] at h'
  exact⟨(hJ w' l' S' _).2 (Nat.le_refl _),aG S' h' aT iM⟩
theorem gH {iter:Expr} {it:Env->ae->Res (List D)} {g:D->Env->Option Env} (hp:PassesOwn (model X.prog X.w) X.A X.env X.xe) (hc:X.calm=true) (hi:PI X tg iter (dC X.K Ξ it)) (hg:PG X tg (gD X.K g)) (hb:dq X lD (tS X.K Ξ fs))
  (hs:∀x,foldedSetIterable iter X.env x=pure x:=by intro _;rfl):PS X (.For tg iter lD [] pos) (tS X.K Ξ (dG it g fs)):=iw (Nb hp hc hi hg hb hs) Mf
theorem Out.ne {α:Type} {K:Frag} {w:Wd} {r:Res α} {k:Wd->α->Prop} (h:Out K Ξ w (DI.ne r) k):Out K cj w r k:=by
 match r,h with
 |some (.ok a,s),h=>exact h
theorem bP.block {K:Frag} {w:Wd} {env:Env} {σ:St} (h:bP K w env σ) (nt:Nat) (cap:List Nat) (o:St) (ho:o.length=nt):bP K w (List.replicate nt none++fx cap env) (o++kR cap σ):=by
 refine⟨by simp[fx,kR,ho],λi d e=>?_⟩
 by_cases hi:i<nt
 ·rw[List.getElem?_append_left (by simpa using hi),List.getElem?_replicate,if_pos hi] at e
  cases e
 ·rw[List.getElem?_append_right (by simpa using Nat.le_of_not_lt hi)] at e
  rw[List.getElem?_append_right (by omega),ho]
  simp only[List.length_replicate] at e
  unfold fx at e
  unfold kR
  rw[List.getElem?_map] at e |-
  cases ej:cap[i-nt]? with
  |none=>rw[ej] at e;cases e
  |some j =>
   rw[ej] at e
   have ev:(env[j]?).getD none=some d:=Option.some.inj e
   have rb:env[j]?=some (some d):=by
    cases q:env[j]? with
    |none=>rw[q] at ev;cases ev
    |some z=>rw[q] at ev;exact congrArg some ev
   obtain⟨v,e1,e2⟩:=h.val j d rb
   exact⟨v,by rw[Option.map_some,e1];rfl,e2⟩
theorem BU {K:Frag} {nt:Nat} {cap:List Nat} {it:Env->ae->Res (List D)} {g:D->Env->Option Env} {fin:List D->ae->Res D} (σ:St) (H:Hp) (Q:VK)
  (yA:∀(w2:Wd) (xs:List D) (vs:List V),aM K w2->aq K w2 xs vs->Out K Ξ w2 (fin xs w2.aI) (λw' d=>∀v,DV K w' d v->Q v w'.H)->∀p,w2.H p=none->Q (.ref p) (upd w2.H p (.lst vs))) :
  tE K Ξ (λenv s=>au (it env s) λds s=>gG ds (au (dY nt (fx cap env) g ft f ds s) fin)) σ H Q->kc (dC K Ξ it) nt cap (gD K g) (tT K cj ft) (tE K cj f) σ H Q:=by
 rintro ⟨w,env,rfl,S,eo,h⟩
 refine⟨w,env,rfl,S,eo,(Out.au h).mono λw1 ds l1 S1 h1 J hJ=>?_⟩
 obtain⟨hz,h1⟩:=pJ h1
 refine⟨λi m acc H'=>m=ds.length-i/\i<=ds.length/\acc.length<=i/\∃w' accD,w'.H=H'/\Le K w1 w'/\aM K w'/\aq K w' accD acc/\Out K Ξ w' (dY nt (fx cap env) g ft f (ds.drop i) w'.aI) λw2 xs=>∀vs,aq K w2 (accD++xs) vs->∀p,w2.H p=none->Q (.ref p) (upd w2.H p (.lst vs)),
  ⟨ds.length,rfl,Nat.zero_le _,Nat.zero_le _,w1,[],rfl,Le.refl _,S1,rfl,(Out.au h1).mono λw2 xs l2 S2 h2 vs aw p hp=>?_⟩,?_⟩
 ·exact yA w2 xs vs S2 aw h2 p hp
 rintro i m acc H' ⟨rfl,hi,ha,w',accD,rfl,l',S',da,h'⟩
 by_cases bg:i<ds.length
 ·right
  obtain⟨fM,hy⟩:=(hJ w' l' S' i).1 _ (List.getElem?_eq_getElem bg)
  rw[List.drop_eq_getElem_cons bg] at h'
  simp only[dY] at h'
  cases hg:g ds[i] (List.replicate nt none++fx cap env) with
  |none=>rw[hg] at h';exact h'.elim
  |some iD =>
   rw[hg] at h'
   refine⟨fM,by omega,λuK H2=>uK.length<=i+1/\∃w' accD,w'.H=H2/\Le K w1 w'/\aM K w'/\aq K w' accD uK/\Out K Ξ w' (dY nt (fx cap env) g ft f (ds.drop (i+1)) w'.aI) λw2 xs=>∀vs,aq K w2 (accD++xs) vs->∀p,w2.H p=none->Q (.ref p) (upd w2.H p (.lst vs)),
    λuK H2 ⟨Rq,q⟩=>⟨ds.length-(i+1),by omega,rfl,bg,Rq,q⟩,λo x H3 ho y=>?_⟩
   obtain⟨w2,rfl,l2,S2,es,dv⟩:=hy x H3 y
   refine⟨w2,_,ds[i],iD,rfl,S2,(eo.le (l1.trans (l'.trans l2))).block nt cap o ho,dv,hg,fun kj jJ=>?_⟩
   rw[<- es] at h'
   refine⟨w2,iD,rfl,S2,jJ,(Out.au (h'.from l2)).ne.mono λw3 b l3 S3 h3=>?_⟩
   cases b with
   |true =>
    refine⟨w3,iD,rfl,S3,jJ.le l3,(Out.au h3).ne.mono λw4 d l4 S4 h4 v zw=>⟨by rw[List.length_append];simp;omega,w4,accD++[d],rfl,l'.trans (l2.trans (l3.trans l4)),S4,aq.append ((l2.trans (l3.trans l4)).all da) (aq.one zw),(Out.au h4).mono λw5 xs l5 S5 h5 vs aw p hp=>?_⟩⟩
    exact aG S5 h5 vs (by rw[List.append_assoc] at aw;exact aw) p hp
   |false =>
    exact⟨by omega,w3,accD,rfl,l'.trans (l2.trans l3),S3,(l2.trans l3).all da,h3⟩
 ·left
  have e:i=ds.length:=by omega
  subst e
  rw[List.drop_length] at h'
  refine⟨(hJ w' l' S' _).2 (Nat.le_refl _),by omega,λp hp=>aG S' h' acc (by rw[List.append_nil];exact da) p hp⟩
theorem Cz {K:Frag} {nt:Nat} {cap:List Nat} {it:Env->ae->Res (List D)} {g:D->Env->Option Env} (σ:St) (H:Hp) (Q:VK) :
  tE K Ξ (aW nt cap it g ft f) σ H Q->kc (dC K Ξ it) nt cap (gD K g) (tT K cj ft) (tE K cj f) σ H Q :=
 BU σ H Q λw2 xs vs S2 aw h2 p hp=>h2 (w2.grow p (.lst vs)) (Fw.grow hp).le (S2.grow hp) rfl (.ref p) ⟨p,vs,rfl,⟨(show ¬ w2.Z p from nZ S2 hp),dE⟩,(Fw.grow hp).le.all aw⟩
theorem Jw {K:Frag} {nt:Nat} {cap:List Nat} {it:Env->ae->Res (List D)} {g:D->Env->Option Env} (σ:St) (H:Hp) (Q:VK) :
  tE K Ξ (pV nt cap it g ft f) σ H Q->kc (dC K Ξ it) nt cap (gD K g) (tT K cj ft) (tE K cj f) σ H Q :=
 BU σ H Q λw2 xs vs S2 aw h2 p hp=>by
  have le:=(Fw.cell (o:=.lst vs) (c:=.lst xs) S2 hp).le
  refine h2 (w2.cell p (.lst vs) (.lst xs)) le (S2.xO hp ⟨vs,dE,le.all aw⟩) rfl (.ref p) ⟨p,?_,rfl⟩
  show (w2.ρ++[p])[w2.aI.length]?=some p
  rw[<- S2.len]
  simp
end
end DI
namespace DI
open PySem L2
theorem Dp {o caps:St} {v:V} {i nt:Nat} (ho:o.length=nt) (hi:i<nt):(o++caps).set i (some v)=o.set i (some v)++caps:=by
 rw[List.set_append_left _ _ (by omega)]
theorem Jx {i nt:Nat} (hi:i<nt):kn (kb i) nt:=by
 intro x o caps H R ho h
 exact⟨⟨o.set i (some x),by rw[List.length_set];exact ho,Dp ho hi⟩,h⟩
def qw (g:gn) (nt:Nat):Prop:=∀(xs:List V) (o caps:St) (H:Hp) (R:St->Hp->Prop),o.length=nt->g xs (o++caps) H R->g xs (o++caps) H fun τ H2=>(∃o2:St,o2.length=nt/\τ=o2++caps)/\R τ H2
theorem KJ {nt:Nat}:qw yh nt:=λxs o caps H R ho h=>⟨h.1,⟨o,ho,rfl⟩,h.2⟩
theorem Jy {i nt:Nat} {g:gn} (hi:i<nt) (hg:qw g nt):qw (xI (kb i) g) nt:=by
 rintro xs o caps H R ho ⟨v,r,e,h⟩
 refine⟨v,r,e,?_⟩
 have h:g r ((o++caps).set i (some v)) H R:=h
 show g r ((o++caps).set i (some v)) H _
 rw[Dp ho hi] at h |-
 exact hg r _ caps H R (by rw[List.length_set];exact ho) h
theorem KL {K:Frag} {n nt:Nat} {g:gn} (hg:qw g nt):kn (yi K n g) nt:=by
 rintro x o caps H R ho ⟨a,xs,e,hq,hl,h⟩
 exact⟨a,xs,e,hq,hl,hg xs o caps H R ho h⟩
structure Tg (K:Frag) (g0:TG) (g:D->Env->Option Env) (nt:Nat):Prop where
 je:kn g0 nt
 imp:∀v σ H Q,gD K g v σ H Q->g0 v σ H Q
structure u9 (K:Frag) (g0:gn) (g:List (D->Env->Option Env)) (nt:Nat):Prop where
 je:qw g0 nt
 imp:∀v σ H Q,rq K (fS g) v σ H Q->g0 v σ H Q
theorem bY {K:Frag} (i:Nat) {nt:Nat} (hi:i<nt:=by decide):Tg K (kb i) (gN i) nt:=⟨Jx hi,λv σ H Q aC=>by
 obtain⟨w,env,d,aE,eH,S,eo,dv,eg,k⟩:=aC
 have e:env.set i (some d)=aE:=Option.some.inj eg
 subst e
 exact k _ (eo.set dv i)⟩
theorem wQ {K:Frag} {nt:Nat}:u9 K yh [] nt:=⟨KJ,λvs σ H Q aC=>by
 obtain⟨w,env,ds,aE,eH,S,eo,aw,eg,k⟩:=aC
 cases ds with
 |nil =>
  have e:env=aE:=Option.some.inj eg
  subst e
  exact⟨aw,k _ eo⟩
 |cons d ds=>cases eg⟩
theorem nL {K:Frag} (i:Nat) {nt:Nat} {g0:gn} {gl:List (D->Env->Option Env)} (h:u9 K g0 gl nt) (hi:i<nt:=by decide):u9 K (xI (kb i) g0) (gN i::gl) nt:=⟨Jy hi h.je,λvs σ H Q aC=>by
 obtain⟨w,env,ds,aE,eH,S,eo,aw,eg,k⟩:=aC
 cases ds with
 |nil=>cases eg
 |cons d ds =>
  obtain⟨v,r,rfl,dv,dr⟩:=aw
  exact⟨v,r,rfl,h.imp _ _ _ _ ⟨w,_,ds,aE,eH,S,eo.set dv i,dr,eg,k⟩⟩⟩
theorem xl {K:Frag} {nt n:Nat} {g0:gn} {gl:List (D->Env->Option Env)} (h:u9 K g0 gl nt) (hn:gl.length=n:=by rfl):Tg K (yi K n g0) (gT gl) nt:=⟨KL h.je,λv σ H Q aC=>by
 obtain⟨w,env,d,aE,eH,S,eo,dv,eg,k⟩:=aC
 cases d with
 |tup ds =>
  simp only[DV] at dv
  obtain⟨p,xs,e1,hq,aw⟩:=dv
  subst eH
  exact⟨p,xs,e1,hq,by rw[<- aw.length,v7 eg];exact hn,h.imp _ _ _ _ ⟨w,env,ds,aE,rfl,S,eo,aw,eg,k⟩⟩
 |_=>cases eg⟩
section
variable {X:Cx} {Ξ:Wd->bq->Prop} {e a b c tg el src:Expr} {es rest tests:List Expr} {pos:Pos} {f g h:Env->ae->Res D} {fa:Env->ae->Res (List D)} {ft gt:Env->ae->Res Bool} {st:Stmt} {lD yz:List Stmt} {fs gs:Env->ae->Res Fl}
theorem NH {t t':TT} (h:PF X tests t) (i:∀ σ H Q,t' σ H Q->t σ H Q):PF X tests t':=λpins s σ H Q I hq=>h pins s σ H Q I (i σ H Q hq)
theorem eG {K:Frag}:PF X [] (tT K Ξ cx):=NH Nv fun σ H Q aC=>by
 obtain⟨w,env,eH,S,eo,h⟩:=aC
 subst eH
 exact aG S h
theorem f6 {K:Frag} (h:PT X c (tT K Ξ ft)):PF X [c] (tT K Ξ ft):=Nw h
theorem vI {wi:TI} {nt:Nat} {cap:List Nat} {g0 g1:TG} {tf:TT} {te:TE} (i_:∀v σ H Q,g1 v σ H Q->g0 v σ H Q) {σ:St} {H:Hp} {Q:VK} (wm:∀R R':It->Hp->Prop,(∀J H',R J H'->R' J H')->wi σ H R->wi σ H R') (h:kc wi nt cap g1 tf te σ H Q):kc wi nt cap g0 tf te σ H Q:=by
 refine wm _ _ (λJ H' hc=>?_) h
 obtain⟨W,w0,step⟩:=hc
 refine⟨W,w0,λi m acc H2 hw=>?_⟩
 rcases step i m acc H2 hw with q | ⟨q1,q2,N,q3,q4⟩
 ·exact .inl q
 ·exact .inr ⟨q1,q2,N,q3,λo x H3 ho y=>i_ _ _ _ _ (q4 o x H3 ho y)⟩
theorem v8 {K:Frag} {it:Env->ae->Res (List D)} {σ:St} {H:Hp} (R R':It->Hp->Prop) (i:∀J H',R J H'->R' J H') (h:dC K Ξ it σ H R):dC K Ξ it σ H R':=by
 obtain⟨w,env,eH,S,eo,h⟩:=h
 exact⟨w,env,eH,S,eo,h.mono λw1 ds _ _ h1 J hJ=>i J _ (h1 J hJ)⟩
noncomputable def bo (f:Env->ae->Res D):Env->ae->Res (List D):=λenv s=>au (f env s) λd s=>match d with
 | .lst ds=>ok ds s
 | .tup ds=>ok ds s
 |_=>none
theorem KN {K:Frag} {w:Wd} {a:Addr} {ds:List D} (h:DV K w (.lst ds) (.ref a)):m8 K w (yT K a) ds:=λw' l' S' i=>by
 have h':=l' _ _ h
 simp only[DV] at h'
 obtain⟨p,xs,e,hq,aw⟩:=h'
 cases e
 refine⟨λd ed=>?_,λhl=>⟨xs,hq.sq,by rw[<- aw.length];exact hl⟩⟩
 obtain⟨v,ev,dv⟩:=aw.get' i d ed
 exact⟨⟨xs,v,hq.sq,ev⟩,λx H' ⟨e1,e2⟩=>⟨w',e1.symm,Le.refl _,S',rfl,by
  have q:=e2 xs hq.sq
  rw[ev] at q
  cases q
  exact dv⟩⟩
theorem Mg {K:Frag} {w:Wd} {a:Addr} {ds:List D} (h:DV K w (.tup ds) (.ref a)):m8 K w (yU K a) ds:=λw' l' S' i=>by
 have h':=l' _ _ h
 simp only[DV] at h'
 obtain⟨p,xs,e,hq,aw⟩:=h'
 cases e
 refine⟨λd ed=>?_,λhl=>⟨xs,hq,by rw[<- aw.length];exact hl⟩⟩
 obtain⟨v,ev,dv⟩:=aw.get' i d ed
 exact⟨⟨xs,v,hq,ev⟩,λx H' ⟨e1,e2⟩=>⟨w',e1.symm,Le.refl _,S',rfl,by
  have q:=e2 xs hq
  rw[ev] at q
  cases q
  exact dv⟩⟩
theorem eh (hl:PE X a (tE X.K Ξ f)):PI X tg a (dC X.K Ξ (bo f)):=by
 have both:PI X tg a (fun σ H R=>EW X.K (tE X.K Ξ f) σ H R\/FD X.K (tE X.K Ξ f) σ H R):=λpins s σ H R I h=>h.elim (LF hl pins s σ H R I) (Na hl pins s σ H R I)
 refine n0 both fun σ H R ⟨w,env,eH,S,eo,h⟩=>?_
 subst eH
 simp only[bo] at h
 cases hf:f env w.aI with
 |none=>rw[hf] at h;exact h.elim
 |some r =>
  obtain⟨r,s⟩:=r
  rw[hf] at h
  cases r with
  |error x=>exact .inl ⟨w,env,rfl,S,eo,by rw[hf];exact h⟩
  |ok d =>
   rw[eD] at h
   cases d with
   |lst ds =>
    refine .inl ⟨w,env,rfl,S,eo,?_⟩
    rw[hf]
    intro w1 l1 S1 e1 v dv
    have m7:=dv
    simp only[DV] at dv
    obtain⟨p,xs,rfl,hq,aw⟩:=dv
    exact⟨p,rfl,⟨xs,hq.sq⟩,h w1 l1 S1 e1 _ (KN m7)⟩
   |tup ds =>
    refine .inr ⟨w,env,rfl,S,eo,?_⟩
    rw[hf]
    intro w1 l1 S1 e1 v dv
    have m7:=dv
    simp only[DV] at dv
    obtain⟨p,xs,rfl,hq,aw⟩:=dv
    exact⟨p,rfl,⟨xs,hq⟩,h w1 l1 S1 e1 _ (Mg m7)⟩
   |_=>exact h.elim
noncomputable def bM (lo:Int) (n:Nat):List D:=(List.range n).map λ(i:Nat)=>D.int (lo+(i:Int))
theorem fZ {lo:Int} {n i:Nat}:(bM lo n)[i]?=if i<n then some (.int (lo+i)) else none:=by
 unfold bM
 rw[List.getElem?_map]
 by_cases h:i<n
 ·rw[List.getElem?_range h,if_pos h];rfl
 ·rw[List.getElem?_eq_none (by simp;omega),if_neg h];rfl
theorem cO {lo:Int} {n:Nat}:(bM lo n).length=n:=by simp[bM]
theorem Dq {K:Frag} {w:Wd} {lo:Int} {n:Nat}:m8 K w (qQ lo n) (bM lo n):=λw' l' S' i=>by
 refine⟨λd ed=>?_,λhl=>by rw[cO] at hl;exact hl⟩
 rw[fZ] at ed
 split at ed
 ·cases ed
  exact⟨by assumption,λx H' ⟨e1,e2⟩=>⟨w',e1.symm,Le.refl _,S',rfl,e2⟩⟩
 ·cases ed
noncomputable def iz (j:Int):Bool:=decide (-(2 ^ 62)<=j)&&decide (j<2 ^ 62)
noncomputable def bF (fa:Env->ae->Res (List D)):Env->ae->Res (List D):=λenv s=>au (fa env s) λds s=>match ds with
 | [.int j]=>if iz j=true then ok (bM 0 j.toNat) s else none
 |_=>none
noncomputable def rz (fa:Env->ae->Res (List D)):Env->ae->Res (List D):=λenv s=>au (fa env s) λds s=>match ds with
 | [.int i,.int j]=>if (iz i&&iz j)=true then ok (bM i (j-i).toNat) s else none
 |_=>none
theorem dF {p:Pos} (hg:Gl X "range") (hm:X.mg "range"=none) (ha:PA X [a] (tA X.K Ξ fa)) (hs:starEach [a] X.env=[(false,eval a X.env)]:=by rfl):PI X tg (.Call (.Name "range" p) [a] [] pos) (dC X.K Ξ (bF fa)) :=
 n0 (Jh hg hm ha hs) fun σ H R aC=>by
  obtain⟨w,env,eH,S,eo,h⟩:=aC
  subst eH
  refine⟨w,env,rfl,S,eo,(Out.au h).mono λw1 ds l1 S1 h1 vs aw=>?_⟩
  split at h1
  ·rename_i j
   split at h1
   ·rename_i hj
    simp only[iz,Bool.and_eq_true,decide_eq_true_eq] at hj
    obtain⟨v,r,rfl,dv,dr⟩:=aw
    have e1:v=.int j:=dv
    have e2:r=[]:=dr
    subst e1 e2
    exact⟨j,rfl,hj.1,hj.2,aG S1 h1 _ Dq⟩
   ·exact h1.elim
  ·exact h1.elim
theorem Eh {p:Pos} (hg:Gl X "range") (hm:X.mg "range"=none) (ha:PA X [a,b] (tA X.K Ξ fa)) (hs:starEach [a,b] X.env=[(false,eval a X.env),(false,eval b X.env)]:=by rfl) (dw:starEach [b] X.env=[(false,eval b X.env)]:=by rfl):PI X tg (.Call (.Name "range" p) [a,b] [] pos) (dC X.K Ξ (rz fa)) :=
 n0 (Ji hg hm ha hs dw) fun σ H R aC=>by
  obtain⟨w,env,eH,S,eo,h⟩:=aC
  subst eH
  refine⟨w,env,rfl,S,eo,(Out.au h).mono λw1 ds l1 S1 h1 vs aw=>?_⟩
  split at h1
  ·rename_i i j
   split at h1
   ·rename_i hj
    simp only[iz,Bool.and_eq_true,decide_eq_true_eq] at hj
    obtain⟨v,r,rfl,dv,v2,r2,rfl,jd,dr⟩:=aw
    have e1:v=.int i:=dv
    have e2:v2=.int j:=jd
    have e3:r2=[]:=dr
    subst e1 e2 e3
    exact⟨i,j,rfl,⟨hj.1.1,hj.1.2,hj.2.1,hj.2.2⟩,aG S1 h1 _ Dq⟩
   ·exact h1.elim
  ·exact h1.elim
noncomputable def gb (xs ys:List D):List D:=(xs.zip ys).map λp=>.tup [p.1,p.2]
theorem KO {xs ys:List D} {i:Nat} {d:D} (h:(gb xs ys)[i]?=some d):∃x y,xs[i]?=some x/\ys[i]?=some y/\d=.tup [x,y]:=by
 unfold gb at h
 rw[List.getElem?_map] at h
 cases hz:(xs.zip ys)[i]? with
 |none=>rw[hz] at h;cases h
 |some p =>
  rw[hz] at h
  obtain⟨q1,q2⟩:=List.getElem?_zip_eq_some.mp hz
  exact⟨p.1,p.2,q1,q2,(Option.some.inj h).symm⟩
theorem pK {xs ys:List D}:(gb xs ys).length=min xs.length ys.length:=by simp[gb]
theorem Jz {K:Frag} {w':Wd} {d d2:D} {x y:V} {p:Addr} (S':aM K w') (hp:w'.H p=none) (h1:DV K w' d x) (h2:DV K w' d2 y) :
  ∃w2,w2.H=upd w'.H p (.tup [x,y])/\Le K w' w2/\aM K w2/\w2.aI=w'.aI/\DV K w2 (.tup [d,d2]) (.ref p) :=
 ⟨w'.grow p (.tup [x,y]),rfl,(Fw.grow hp).le,S'.grow hp,rfl,p,[x,y],rfl,aR.of dE,(Fw.grow hp).le.all (aq.two h1 h2)⟩
theorem KP {K:Frag} {w:Wd} {a b:Addr} {ds es:List D} (h:DV K w (.tup ds) (.ref a)) (g:DV K w (.tup es) (.ref b)):m8 K w (yu K a b) (gb ds es):=λw' l' S' i=>by
 have h':=l' _ _ h
 have g':=l' _ _ g
 simp only[DV] at h' g'
 obtain⟨p,xs,e,hq,aw⟩:=h'
 obtain⟨q,ys,e',gq,Gw⟩:=g'
 cases e;cases e'
 refine⟨λd ed=>?_,λhl=>⟨xs,ys,hq,gq,?_⟩⟩
 ·obtain⟨x,y,e1,e2,rfl⟩:=KO ed
  obtain⟨v,ev,dv⟩:=aw.get' i x e1
  obtain⟨u,eu,du⟩:=Gw.get' i y e2
  refine⟨⟨xs,ys,v,u,hq,gq,ev,eu⟩,λz H' ⟨r,x1,y1,hr,ez,eH,Rr⟩=>?_⟩
  obtain⟨q1,q2⟩:=Rr xs ys hq gq
  rw[ev] at q1;rw[eu] at q2
  cases q1;cases q2
  subst ez eH
  exact Jz S' hr dv du
 ·rw[pK] at hl
  have:=aw.length
  have:=Gw.length
  omega
noncomputable def mI (fa:Env->ae->Res (List D)):Env->ae->Res (List D):=λenv s=>au (fa env s) λds s=>match ds with
 | [.tup xs,.tup ys]=>ok (gb xs ys) s
 |_=>none
theorem E1 {p:Pos} {elts:List Expr} {kk:Nat} {ym:Pos} (hg:Gl X "zip") (hm:X.mg "zip"=none) (ha:PA X [a,b] (tA X.K Ξ fa)) (hs:starEach [a,b] X.env=[(false,eval a X.env),(false,eval b X.env)]:=by rfl) (dw:starEach [b] X.env=[(false,eval b X.env)]:=by rfl) :
  PI X (.Tuple elts kk ym) (.Call (.Name "zip" p) [a,b] [] pos) (dC X.K Ξ (mI fa)):=by
 refine n0 (LX hg hm ha hs dw) fun σ H R aC=>?_
 obtain⟨w,env,eH,S,eo,h⟩:=aC
 subst eH
 refine⟨w,env,rfl,S,eo,(Out.au h).mono λw1 ds l1 S1 h vs aw=>?_⟩
 split at h
 ·obtain⟨v,r,rfl,dv,v2,r2,rfl,jd,dr⟩:=aw
  have e3:r2=[]:=dr
  subst e3
  have q1:=dv
  have q2:=jd
  simp only[DV] at q1 q2
  obtain⟨p,xs,rfl,hq,_⟩:=q1
  obtain⟨q,ys,rfl,gq,_⟩:=q2
  exact⟨p,q,xs,ys,rfl,hq,gq,aG S1 h _ (KP dv jd)⟩
 ·exact h.elim
noncomputable def ax (fn:List D->ae->Res D) (fa:Env->ae->Res (List D)):Env->ae->Res D:=λenv s=>au (fa env s) λds s=>ne (fn ds s)
theorem aK {k:Nat} {fA:Addr} {fd:FuncData} {Gx:List Str} {fn:List D->ae->Res D} {x:Str} {p:Pos} (F:aU X.prog X.w X.K X.mg X.base aZ k fA fd Gx (bA X.K fn)) (hr:cq k X.A) (hg:Gl X x) (hm:X.mg x=some (.ref fA)) (hk:PySem.W.keepIn X.K (.ref fA)=true) (hb:Binds X.K fd Gx [])
  (ha:PA X (e::es) (tA X.K Ξ fa)) (ja:(x==("__debug__":Str))=false:=by decide) (he:starEach (e::es) X.env=(false,eval e X.env)::starEach es X.env:=by rfl) (cN:(backTo pos (starEach es X.env)).any (·.1)=false:=by rfl) :
  PE X (.Call (.Name x p) (e::es) [] pos) (tE X.K Ξ (ax fn fa)):=cH (LJ F hr hg hm hk hb .nil OT ha ja he cN) fun σ H Q aC=>by
 obtain⟨w,env,eH,S,eo,h⟩:=aC
 subst eH
 refine⟨w,env,rfl,S,eo,(Out.au h).mono λw1 ds l1 S1 h1 vs aw=>?_⟩
 show bA X.K fn (vs++[]) w1.H Q E0
 rw[List.append_nil]
 exact⟨w1,ds,rfl,S1,aw,h1.ne⟩
theorem aq.env {K:Frag} {w:Wd} {ds:List D} {vs:List V} (h:aq K w ds vs) (n:Nat):bP K w (ds.map some++List.replicate (n-ds.length) none) (vs.map some++List.replicate (n-vs.length) none):=by
 have hl:=h.length
 refine⟨by simp[hl],λi d e=>?_⟩
 by_cases hi:i<ds.length
 ·rw[List.getElem?_append_left (by simpa using hi),List.getElem?_map] at e
  rw[List.getElem?_append_left (by simp;omega),List.getElem?_map]
  cases hd:ds[i]? with
  |none=>rw[hd] at e;cases e
  |some d' =>
   rw[hd] at e
   cases e
   obtain⟨v,ev,dv⟩:=h.get' i d hd
   exact⟨v,by rw[ev];rfl,dv⟩
 ·rw[List.getElem?_append_right (by simpa using Nat.le_of_not_lt hi),List.getElem?_replicate] at e
  split at e<;>cases e
end
theorem bK {P:Program} {w:World} {K:Frag} {mg:Str->Option Value} {base:Heap} {x qual:Str} {st:Stmt} {f:Addr} {fd:FuncData} {N ps:List Str} {k:Nat} {b:Env->ae->Res Fl} (F:mV K x qual st f fd) (S:bB N ps (aY st))
  (hb:∀(aX:Value) (A:Around) (outer:List PySem.Env) (s:Shared) (H:Hp) (E:XK),cq k (A.deeper (PyProof.Rows.envOfC qual (aY st) s.heap.objs.size f aX))->dq (mF aZ P w K mg base N qual (aY st) f aX A outer s H E).qN (j4 st) (tS K cj b)) :
  aU P w K mg base aZ (k+1) f fd ps (bA K (bb ps.length N.length b)):=by
 refine F.ok S (λvs H Q E h=>?_) (λaX A outer s H vs Q E hr h=>?_)
 ·obtain⟨w,ds,rfl,S,aw,h⟩:=h
  rw[<- aw.length]
  unfold bb at h
  split at h
  ·assumption
  ·exact h.elim
 ·obtain⟨w,ds,rfl,S,aw,h⟩:=h
  refine⟨_,hb aX A outer s w.H E hr,?_⟩
  unfold bb at h
  split at h
  ·rename_i hl
   rw[<- hl] at h
   refine⟨w,_,rfl,S,aw.env N.length,(Out.au h).mono λw1 fl l1 S1 h1=>?_⟩
   cases fl with
   |nx env=>intro aT _;exact aG S1 h1 _ rfl
   |rt d=>have q:=aG S1 h1;exact q
   |bk env=>exact h1.elim
   |ct env=>exact h1.elim
  ·exact h.elim
end DI
namespace DI
open PySem L2
mutual
noncomputable def py:D->PyData
 | .aA=>.none
 | .bl b=>.bool b
 | .int i=>.int i
 | .str x=>.str x
 | .tup ds=>.tuple (bT ds)
 | .lst ds=>.list (bT ds)
 | .bp ak=>.dict (ak.map λp=>(oB p.1,PyData.int p.2))
 | .aj _=>.none
 | .ty _=>.none
 | .bC _=>.none
noncomputable def bT:List D->List PyData
 | []=>[]
 |d::ds=>py d::bT ds
end
mutual
noncomputable def plain:D->Bool
 | .aA=>true
 | .bl _=>true
 | .int _=>true
 | .str _=>true
 | .tup ds=>j6 ds
 | .lst ds=>j6 ds
 | .bp _=>true
 | .aj _=>false
 | .ty _=>false
 | .bC _=>false
noncomputable def j6:List D->Bool
 | []=>true
 |d::ds=>plain d&&j6 ds
end
mutual
noncomputable def lay:D->Bool
 | .aA=>true
 | .bl _=>true
 | .int _=>true
 | .str x=>PyData.strOk x
 | .tup ds=>dR ds
 | .lst ds=>dR ds
 | .bp _=>false
 | .aj _=>false
 | .ty _=>false
 | .bC _=>false
noncomputable def dR:List D->Bool
 | []=>true
 |d::ds=>lay d&&dR ds
end
mutual
noncomputable def dep:D->Nat
 | .tup ds=>cJ ds+1
 | .lst ds=>cJ ds+1
 | .bp ak=>1
 | .aA=>0
 | .bl _=>0
 | .int _=>0
 | .str _=>0
 | .aj _=>0
 | .ty _=>0
 | .bC _=>0
noncomputable def cJ:List D->Nat
 | []=>0
 |d::ds=>max (dep d) (cJ ds)
end
mutual
noncomputable def beq:D->D->Bool
 | .aA,.aA=>true
 | .bl a,.bl b=>a==b
 | .bl a,.int j=>(if a then 1 else 0)==j
 | .int i,.bl b=>i==(if b then 1 else 0)
 | .int i,.int j=>i==j
 | .str x,.str y=>x==y
 | .tup xs,.tup ys=>gI xs ys
 | .lst xs,.lst ys=>gI xs ys
 |_,_=>false
noncomputable def gI:List D->List D->Bool
 | [],[]=>true
 |x::xs,y::ys=>beq x y&&gI xs ys
 |_,_=>false
end
mutual
theorem lM:∀(d:D),lay d=true->plain d=true
 | .aA,_=>rfl
 | .bl _,_=>rfl
 | .int _,_=>rfl
 | .str _,_=>rfl
 | .tup ds,h=>by simp only[lay,plain] at h |-;exact lK ds h
 | .lst ds,h=>by simp only[lay,plain] at h |-;exact lK ds h
 | .bp _,h=>by simp[lay] at h
 | .aj _,h=>by simp[lay] at h
 | .ty _,h=>by simp[lay] at h
 | .bC _,h=>by simp[lay] at h
theorem lK:∀(ds:List D),dR ds=true->j6 ds=true
 | [],_=>rfl
 |d::ds,h=>by
  simp only[dR,j6,Bool.and_eq_true] at h |-
  exact⟨lM d h.1,lK ds h.2⟩
end
mutual
theorem iR:∀(d:D),lay d=true->(py d).canLay0=true/\(py d).depth=dep d
 | .aA,_=>⟨rfl,by simp[py,dep,PyData.depth]⟩
 | .bl _,_=>⟨rfl,by simp[py,dep,PyData.depth]⟩
 | .int _,_=>⟨rfl,by simp[py,dep,PyData.depth]⟩
 | .str _,h=>⟨h,by simp[py,dep,PyData.depth]⟩
 | .tup ds,h=>by
  obtain⟨h1,h2⟩:=pL ds (by simpa [lay] using h)
  simp only[py,dep,PyData.depth,PyData.canLay0]
  exact⟨h1,by rw[h2]⟩
 | .lst ds,h=>by
  obtain⟨h1,h2⟩:=pL ds (by simpa [lay] using h)
  simp only[py,dep,PyData.depth,PyData.canLay0]
  exact⟨h1,by rw[h2]⟩
 | .bp _,h=>by simp[lay] at h
 | .aj _,h=>by simp[lay] at h
 | .ty _,h=>by simp[lay] at h
 | .bC _,h=>by simp[lay] at h
theorem pL:∀(ds:List D),dR ds=true->PyData.canLayAll0 (bT ds)=true/\PyData.depthAll (bT ds)=cJ ds
 | [],_=>⟨rfl,rfl⟩
 |d::ds,h=>by
  simp only[dR,Bool.and_eq_true] at h
  obtain⟨a1,a2⟩:=iR d h.1
  obtain⟨b1,b2⟩:=pL ds h.2
  simp only[bT,cJ,PyData.canLayAll0,PyData.depthAll,a1,b1,a2,b2,Bool.and_self,and_self]
end
mutual
theorem n5:∀(d e:D),lay d=true->lay e=true->PyData.eqv (py d) (py e)=beq d e
 | .tup xs,.tup ys,h,g=>by
  simp only[py,beq,PyData.eqv]
  exact v9 xs ys (by simpa [lay] using h) (by simpa [lay] using g)
 | .lst xs,.lst ys,h,g=>by
  simp only[py,beq,PyData.eqv]
  exact v9 xs ys (by simpa [lay] using h) (by simpa [lay] using g)
 | .aA,e,_,g=>by cases e<;>simp_all [py,beq,PyData.eqv,lay]
 | .bl _,e,_,g=>by cases e<;>simp_all [py,beq,PyData.eqv,lay]
 | .int _,e,_,g=>by cases e<;>simp_all [py,beq,PyData.eqv,lay]
 | .str _,e,_,g=>by cases e<;>simp_all [py,beq,PyData.eqv,lay]
 | .tup _,.aA,_,_=>by simp[py,beq,PyData.eqv]
 | .tup _,.bl _,_,_=>by simp[py,beq,PyData.eqv]
 | .tup _,.int _,_,_=>by simp[py,beq,PyData.eqv]
 | .tup _,.str _,_,_=>by simp[py,beq,PyData.eqv]
 | .tup _,.lst _,_,_=>by simp[py,beq,PyData.eqv]
 | .lst _,.aA,_,_=>by simp[py,beq,PyData.eqv]
 | .lst _,.bl _,_,_=>by simp[py,beq,PyData.eqv]
 | .lst _,.int _,_,_=>by simp[py,beq,PyData.eqv]
 | .lst _,.str _,_,_=>by simp[py,beq,PyData.eqv]
 | .lst _,.tup _,_,_=>by simp[py,beq,PyData.eqv]
 | .bp _,_,h,_=>by simp[lay] at h
 | .aj _,_,h,_=>by simp[lay] at h
 | .ty _,_,h,_=>by simp[lay] at h
 | .bC _,_,h,_=>by simp[lay] at h
 |_,.bp _,_,h=>by simp[lay] at h
 |_,.aj _,_,h=>by simp[lay] at h
 |_,.ty _,_,h=>by simp[lay] at h
 |_,.bC _,_,h=>by simp[lay] at h
theorem v9:∀(ds es:List D),dR ds=true->dR es=true->PyData.eqvAll (bT ds) (bT es)=gI ds es
 | [],[],_,_=>rfl
 | [],_::_,_,_=>rfl
 |_::_,[],_,_=>rfl
 |d::ds,e::es,h,g=>by
  simp only[dR,Bool.and_eq_true] at h g
  simp only[bT,gI,PyData.eqvAll,n5 d e h.1 g.1,v9 ds es h.2 g.2]
end
mutual
theorem DV.py {K:Frag} {w:Wd}:∀{d:D} {v:V},DV K w d v->plain d=true->L2.DV K (λ_=>False) w.H (DI.py d) v
 | .aA,_,h,_=>h
 | .bl _,_,h,_=>h
 | .int _,_,h,_=>h
 | .str _,_,h,_=>h
 | .tup ds,v,h,p=>by
  simp only[DV] at h
  obtain⟨a,xs,e,hq,r⟩:=h
  simp only[DI.py,L2.DV]
  exact⟨a,xs,e,hq,aq.py r (by simpa [plain] using p)⟩
 | .lst ds,v,h,p=>by
  simp only[DV] at h
  obtain⟨a,xs,e,hq,r⟩:=h
  simp only[DI.py,L2.DV]
  exact⟨a,xs,e,not_false,hq.2,aq.py r (by simpa [plain] using p)⟩
 | .bp ak,v,h,p=>by
  simp only[DV] at h
  obtain⟨a,e,hz,hq⟩:=h
  simp only[DI.py,L2.DV]
  exact⟨a,_,e,not_false,hq,ak,rfl,rfl⟩
 | .aj _,_,_,p=>by simp[plain] at p
 | .ty _,_,_,p=>by simp[plain] at p
 | .bC _,_,_,p=>by simp[plain] at p
theorem aq.py {K:Frag} {w:Wd}:∀{ds:List D} {vs:List V},aq K w ds vs->j6 ds=true->L2.aq K (λ_=>False) w.H (DI.bT ds) vs
 | [],_,h,_=>h
 |d::ds,vs,h,p=>by
  simp only[aq] at h
  obtain⟨v,r,e,h1,h2⟩:=h
  simp only[j6,Bool.and_eq_true] at p
  exact⟨v,r,e,DV.py h1 p.1,aq.py h2 p.2⟩
end
noncomputable def res (d:D) (s:ae):D:=match d with
 | .aj k=>match s[k]? with
  |some (.lst ds)=>.lst ds
  |_=>d
 |_=>d
theorem DV.res {K:Frag} {w:Wd} {d:D} {v:V} (S:aM K w) (h:DV K w d v) (p:plain (DI.res d w.aI)=true):L2.DV K (λ_=>False) w.H (DI.py (DI.res d w.aI)) v:=by
 cases d with
 |aj k =>
  unfold DI.res at p |-
  simp only at p |-
  split at p<;>rename_i hk
  ·rename_i ds
   obtain⟨a,e1,rfl⟩:=h
   obtain⟨xs,q1,q2⟩:=S.cell k a _ e1 hk
   simp only[DI.py,L2.DV]
   exact⟨a,xs,rfl,not_false,q1,q2.py (by simpa [plain] using p)⟩
  ·simp[plain] at p
 |_=>exact h.py p
noncomputable def o9:D->Bool
 | .str _=>true
 |_=>false
theorem NI {d:D} (h:o9 d=true):∃x,d=.str x:=by cases d<;>first|exact⟨_,rfl⟩|cases h
noncomputable def ml (x y:D):Option Bool:=if (o9 x&&o9 y)=true then some (beq x y) else if (lay x&&lay y&&decide (min (dep x) (dep y)<=100))=true then some (beq x y) else none
noncomputable def aQ (x y:D) (s:ae):Res D:=match ml (res x s) (res y s) with
 |some b=>ok (.bl b) s
 |none=>none
noncomputable def eO (x y:D) (s:ae):Res D:=match ml (res x s) (res y s) with
 |some b=>ok (.bl (!b)) s
 |none=>none
theorem Dr {K:Frag} {w:Wd} {x y:D} {v u:V} {b:Bool} (S:aM K w) (hx:DV K w x v) (hy:DV K w y u) (h:ml (res x w.aI) (res y w.aI)=some b) :
  (yl v u=true/\decide (v=u)=b)\/∃(d e:PyData),L2.DV K (λ_=>False) w.H d v/\L2.DV K (λ_=>False) w.H e u/\d.canLay0=true/\e.canLay0=true/\min d.depth e.depth<=100/\PyData.eqv d e=b:=by
 have str:∀{d:D} {v:V},o9 (res d w.aI)=true->DV K w d v->∃x,res d w.aI=.str x/\v=.str x:=λ{d v} hs hd=>by
  obtain⟨x,e⟩:=NI hs
  cases d with
  |str y=>cases e;exact⟨x,rfl,hd⟩
  |aj k =>
   unfold res at e
   simp only at e
   split at e<;>cases e
  |_=>cases e
 unfold ml at h
 split at h
 ·rename_i hs
  rw[Bool.and_eq_true] at hs
  obtain⟨a,ea,rfl⟩:=str hs.1 hx
  obtain⟨c,ec,rfl⟩:=str hs.2 hy
  rw[ea,ec] at h
  exact .inl ⟨rfl,by rw[<- Option.some.inj h];exact wD⟩
 split at h
 ·rename_i hl
  right
  simp only[Bool.and_eq_true,decide_eq_true_eq] at hl
  obtain⟨⟨l1,l2⟩,l3⟩:=hl
  obtain⟨p1,p2⟩:=iR _ l1
  obtain⟨q1,q2⟩:=iR _ l2
  exact⟨_,_,hx.res S (lM _ l1),hy.res S (lM _ l2),p1,q1,by rw[p2,q2];exact l3,by rw[n5 _ _ l1 l2];exact Option.some.inj h⟩
 ·cases h
section
variable {X:Cx} {Ξ:Wd->bq->Prop}
theorem df {k:Nat} (hr:cq k X.A):bh X (compareOp .Eq) (rO X.K Ξ aQ):=by
 rintro pins s σ H x y v u Q I rx ry ⟨w,dx,dy,rfl,S,hx,hy,h⟩
 unfold aQ at h
 split at h
 ·rename_i b hb
  rcases Dr S hx hy hb with ⟨h1,h2⟩ | ⟨d,e,h1,h2,h3,h4,h5,h6⟩
  ·exact OD pins s σ w.H x y v u Q I rx ry ⟨h1,by rw[h2];exact aG S h _ rfl⟩
  exact Nz hr pins s σ w.H x y v u Q I rx ry ⟨d,e,_,h1,h2,h3,h4,h5,by simp only[Bool.false_eq_true,if_false];rw[h6];exact aG S h _ rfl⟩
 ·exact h.elim
theorem mJ {k:Nat} (hr:cq k X.A):bh X (compareOp .NotEq) (rO X.K Ξ eO):=by
 rintro pins s σ H x y v u Q I rx ry ⟨w,dx,dy,rfl,S,hx,hy,h⟩
 unfold eO at h
 split at h
 ·rename_i b hb
  rcases Dr S hx hy hb with ⟨h1,h2⟩ | ⟨d,e,h1,h2,h3,h4,h5,h6⟩
  ·exact OE pins s σ w.H x y v u Q I rx ry ⟨h1,by rw[h2];exact aG S h _ rfl⟩
  exact NA hr pins s σ w.H x y v u Q I rx ry ⟨d,e,_,h1,h2,h3,h4,h5,by simp only[if_true];rw[h6];exact aG S h _ rfl⟩
 ·exact h.elim
end
end DI
namespace DI
open PySem L2
noncomputable def bx (r:Option D) (s:ae):Res D:=match r with
 |some d=>ok d s
 |none=>none
theorem dW {K:Frag} {Ξ:Wd->bq->Prop} {w:Wd} {r:Option D} {k:Wd->D->Prop} (h:Out K Ξ w (bx r w.aI) k):∃d,r=some d/\Out K Ξ w (ok d w.aI) k:=by
 unfold bx at h
 split at h
 ·exact⟨_,rfl,h⟩
 ·exact h.elim
noncomputable def mK (xs ys:List D):Bool:=decide (xs.length+ys.length<=sizeLine)
noncomputable def mL:D->D->Option D
 | .int i,.int j=>some (.int (i+j))
 | .tup xs,.tup ys=>if mK xs ys=true then some (.tup (xs++ys)) else none
 | .lst xs,.lst ys=>if mK xs ys=true then some (.lst (xs++ys)) else none
 | .str x,.str y=>if decide (x.length+y.length<=sizeLine)=true then some (.str (x++y)) else none
 |_,_=>none
noncomputable def cI (x y:D) (s:ae):Res D:=bx (mL (res x s) (res y s)) s
noncomputable def FO:D->D->Option D
 | .int i,.int j=>some (.int (i-j))
 |_,_=>none
noncomputable def qh (x y:D) (s:ae):Res D:=bx (FO x y) s
noncomputable def qi (i j:Int):Bool:=(decide (-(2 ^ 64)<i)&&decide (i<2 ^ 64))||(decide (-(2 ^ 64)<j)&&decide (j<2 ^ 64))
noncomputable def yB:D->D->Option D
 | .int i,.int j=>if qi i j=true then some (.int (i*j)) else none
 | .tup xs,.int k=>if (!xs.isEmpty&&decide (1<=k)&&decide (xs.length*k.toNat<=sizeLine))=true then some (.tup (List.replicate k.toNat xs).flatten) else none
 | .lst xs,.int k=>if (decide (-(2 ^ 63)<=k)&&decide (k<2 ^ 63)&&decide (xs.length*k.toNat<=sizeLine))=true then some (.lst (List.replicate k.toNat xs).flatten) else none
 |_,_=>none
noncomputable def gW (x y:D) (s:ae):Res D:=bx (yB x y) s
noncomputable def yC:D->D->Option D
 | .int i,.int j=>if decide (0<j)=true then some (.int (i % j)) else none
 |_,_=>none
noncomputable def ke (x y:D) (s:ae):Res D:=bx (yC x y) s
noncomputable def yD:D->D->Option D
 | .int i,.int j=>if (decide (0<j)&&decide (j<1073741824))=true then some (.int (i / j)) else none
 |_,_=>none
noncomputable def qj (x y:D) (s:ae):Res D:=bx (yD x y) s
noncomputable def yE:D->D->Option D
 | .int i,.int j=>if (decide (0<=j)&&decide (j<=1000000)&&decide (i.natAbs<2 ^ 64))=true then some (.int (i ^ j.toNat)) else none
 |_,_=>none
noncomputable def ui (x y:D) (s:ae):Res D:=bx (yE x y) s
noncomputable def FP:D->Option D
 | .int i=>some (.int (-i))
 |_=>none
noncomputable def qk (x:D) (s:ae):Res D:=bx (FP x) s
theorem aq.flat {K:Frag} {w:Wd} {ds:List D} {vs:List V} (h:aq K w ds vs):∀n:Nat,aq K w (List.replicate n ds).flatten (List.replicate n vs).flatten
 |0=>rfl
 |n+1=>by
  rw[List.replicate_succ,List.replicate_succ,List.flatten_cons,List.flatten_cons]
  exact aq.append h (aq.flat h n)
theorem iP {K:Frag} {w:Wd} {d:D} {v:V} {ds:List D} (S:aM K w) (h:DV K w d v) (e:res d w.aI=.lst ds):∃a xs,v=.ref a/\w.H a=some (.lst xs)/\aq K w ds xs:=by
 unfold res at e
 split at e
 ·rename_i k
  split at e
  ·rename_i es hk
   cases e
   obtain⟨a,e1,rfl⟩:=h
   obtain⟨xs,q1,q2⟩:=S.cell k a _ e1 hk
   exact⟨a,xs,rfl,q1,q2⟩
  ·cases e
 ·subst e
  simp only[DV] at h
  obtain⟨a,xs,e,hq,r⟩:=h
  exact⟨a,xs,e,hq.2,r⟩
theorem dM {d e:D} {s:ae} (h:res d s=e) (hl:∀ds,e≠.lst ds):d=e:=by
 unfold res at h
 split at h
 ·split at h
  ·exact absurd h.symm (hl _)
  ·exact h
 ·exact h
section
variable {X:Cx} {Ξ:Wd->bq->Prop}
theorem oE {K:Frag} {w:Wd} {ds:List D} {vs:List V} {Q:VK} (S:aM K w) (aw:aq K w ds vs) (h:Out K Ξ w (ok (D.tup ds) w.aI) λw' d=>∀v,DV K w' d v->Q v w'.H):kh K w.H vs Q:=λa H' e hq =>
 h (w.same H') (Fw.same e).le (S.same e) rfl (.ref a) ⟨a,vs,rfl,hq,(Fw.same e).le.all aw⟩
theorem uL {K:Frag} {w:Wd} {ds:List D} {vs:List V} {Q:VK} (S:aM K w) (aw:aq K w ds vs) (h:Out K Ξ w (ok (D.lst ds) w.aI) λw' d=>∀v,DV K w' d v->Q v w'.H):∀p,w.H p=none->Q (.ref p) (upd w.H p (.lst vs)):=λp hp =>
 h (w.grow p (.lst vs)) (Fw.grow hp).le (S.grow hp) rfl (.ref p) ⟨p,vs,rfl,⟨(show ¬ w.Z p from nZ S hp),dE⟩,(Fw.grow hp).le.all aw⟩
theorem NJ {K:Frag} {w:Wd} {ds:List D} {vs:List V} {Q:VK} (S:aM K w) (aw:aq K w ds vs) (h:Out K Ξ w (ok (D.tup ds) w.aI) λw' d=>∀v,DV K w' d v->Q v w'.H):∀p,w.H p=none->Q (.ref p) (upd w.H p (.tup vs)):=λp hp =>
 h (w.grow p (.tup vs)) (Fw.grow hp).le (S.grow hp) rfl (.ref p) ⟨p,vs,rfl,aR.of dE,(Fw.grow hp).le.all aw⟩
theorem f9:bh X (binaryOp .Add) (rO X.K Ξ cI):=by
 rintro pins s σ H x y v u Q I rx ry ⟨w,dx,dy,rfl,S,hx,hy,h⟩
 obtain⟨d,e,h⟩:=dW h
 unfold mL at e
 split at e
 ·rename_i i j e1 e2
  rw[dM e1 (by intro _ z;cases z)] at hx
  rw[dM e2 (by intro _ z;cases z)] at hy
  cases e;cases hx;cases hy
  exact Nc pins s σ w.H _ _ v u Q I rx ry ⟨i,j,rfl,rfl,aG S h _ rfl⟩
 ·rename_i xs ys e1 e2
  rw[dM e1 (by intro _ z;cases z)] at hx
  rw[dM e2 (by intro _ z;cases z)] at hy
  split at e
  ·rename_i hl
   cases e
   simp only[DV] at hx hy
   obtain⟨a,as,rfl,ha,ik⟩:=hx
   obtain⟨b,bs,rfl,hb,rA⟩:=hy
   exact LV pins s σ w.H _ _ v u Q I rx ry ⟨a,b,as,bs,rfl,rfl,ha,hb,by rw[<- ik.length,<- rA.length];exact of_decide_eq_true hl,oE S (ik.append rA) h⟩
  ·cases e
 ·rename_i xs ys e1 e2
  split at e
  ·rename_i hl
   cases e
   obtain⟨a,as,rfl,ha,ik⟩:=iP S hx e1
   obtain⟨b,bs,rfl,hb,rA⟩:=iP S hy e2
   exact Nt pins s σ w.H _ _ v u Q I rx ry ⟨a,b,as,bs,rfl,rfl,ha,hb,by rw[<- ik.length,<- rA.length];exact of_decide_eq_true hl,uL S (ik.append rA) h⟩
  ·cases e
 ·rename_i i j e1 e2
  rw[dM e1 (by intro _ z;cases z)] at hx
  rw[dM e2 (by intro _ z;cases z)] at hy
  split at e
  ·rename_i hl
   cases e;cases hx;cases hy
   exact Iq pins s σ w.H _ _ v u Q I rx ry ⟨i,j,rfl,rfl,of_decide_eq_true hl,aG S h _ rfl⟩
  ·cases e
 ·cases e
theorem E2:bh X (binaryOp .Sub) (rO X.K Ξ qh):=by
 rintro pins s σ H x y v u Q I rx ry ⟨w,dx,dy,rfl,S,hx,hy,h⟩
 obtain⟨d,e,h⟩:=dW h
 unfold FO at e
 split at e
 ·rename_i i j
  cases e;cases hx;cases hy
  exact Nd pins s σ w.H _ _ v u Q I rx ry ⟨i,j,rfl,rfl,aG S h _ rfl⟩
 ·cases e
theorem ql:bh X (binaryOp .Mult) (rO X.K Ξ gW):=by
 rintro pins s σ H x y v u Q I rx ry ⟨w,dx,dy,rfl,S,hx,hy,h⟩
 obtain⟨d,e,h⟩:=dW h
 unfold yB at e
 split at e
 ·rename_i i j
  split at e
  ·rename_i hm
   cases e;cases hx;cases hy
   refine Nf pins s σ w.H _ _ v u Q I rx ry ⟨i,j,rfl,rfl,?_,aG S h _ rfl⟩
   unfold uC
   simpa [qi] using hm
  ·cases e
 ·rename_i xs k
  split at e
  ·rename_i hm
   cases e;cases hy
   simp only[Bool.and_eq_true,decide_eq_true_eq] at hm
   simp only[DV] at hx
   obtain⟨a,as,rfl,ha,ik⟩:=hx
   have hl:=ik.length
   refine Ma pins s σ w.H _ _ v u Q I rx ry ⟨a,as,k,rfl,rfl,ha,?_,hm.1.2,by rw[<- hl];exact hm.2,oE S (ik.flat _) h⟩
   intro z
   subst z
   cases xs with
   |nil=>simp at hm
   |cons _ _=>cases hl
  ·cases e
 ·rename_i xs k
  split at e
  ·rename_i hm
   cases e;cases hy
   simp only[Bool.and_eq_true,decide_eq_true_eq] at hm
   simp only[DV] at hx
   obtain⟨a,as,rfl,ha,ik⟩:=hx
   exact Nu pins s σ w.H _ _ v u Q I rx ry ⟨a,k,as,rfl,rfl,ha.2,hm.1.1,hm.1.2,by rw[<- ik.length];exact hm.2,uL S (ik.flat _) h⟩
  ·cases e
 ·cases e
theorem oo:bh X (binaryOp .Mod) (rO X.K Ξ ke):=by
 rintro pins s σ H x y v u Q I rx ry ⟨w,dx,dy,rfl,S,hx,hy,h⟩
 obtain⟨d,e,h⟩:=dW h
 unfold yC at e
 split at e
 ·rename_i i j
  split at e
  ·rename_i hm
   cases e;cases hx;cases hy
   exact Ng pins s σ w.H _ _ v u Q I rx ry ⟨i,j,rfl,rfl,of_decide_eq_true hm,aG S h _ rfl⟩
  ·cases e
 ·cases e
theorem E3:bh X (binaryOp .FloorDiv) (rO X.K Ξ qj):=by
 rintro pins s σ H x y v u Q I rx ry ⟨w,dx,dy,rfl,S,hx,hy,h⟩
 obtain⟨d,e,h⟩:=dW h
 unfold yD at e
 split at e
 ·rename_i i j
  split at e
  ·rename_i hm
   simp only[Bool.and_eq_true,decide_eq_true_eq] at hm
   cases e;cases hx;cases hy
   exact LG pins s σ w.H _ _ v u Q I rx ry ⟨i,j,rfl,rfl,hm,aG S h _ rfl⟩
  ·cases e
 ·cases e
theorem O2:bh X (binaryOp .Pow) (rO X.K Ξ ui):=by
 rintro pins s σ H x y v u Q I rx ry ⟨w,dx,dy,rfl,S,hx,hy,h⟩
 obtain⟨d,e,h⟩:=dW h
 unfold yE at e
 split at e
 ·rename_i i j
  split at e
  ·rename_i hm
   simp only[Bool.and_eq_true,decide_eq_true_eq] at hm
   cases e;cases hx;cases hy
   exact Nh pins s σ w.H _ _ v u Q I rx ry ⟨i,j,rfl,rfl,⟨hm.1.1,hm.1.2,hm.2⟩,aG S h _ rfl⟩
  ·cases e
 ·cases e
theorem E4:qT X (unaryOp .USub) (rU X.K Ξ qk):=by
 rintro pins s σ H x v Q I rx ⟨w,dx,rfl,S,hx,h⟩
 obtain⟨d,e,h⟩:=dW h
 unfold FP at e
 split at e
 ·rename_i i
  cases e;cases hx
  exact Ni pins s σ w.H _ v Q I rx ⟨i,rfl,aG S h _ rfl⟩
 ·cases e
noncomputable def oH (p:Int->Int->Bool):D->D->Option D
 | .int i,.int j=>some (.bl (p i j))
 |_,_=>none
noncomputable def qx (x y:D) (s:ae):Res D:=bx (oH (λi j=>decide (i<=j)) x y) s
noncomputable def uM (x y:D) (s:ae):Res D:=bx (oH (λi j=>decide (j<i)) x y) s
noncomputable def uN (x y:D) (s:ae):Res D:=bx (oH (λi j=>decide (j<=i)) x y) s
theorem FQ:bh X (compareOp .LtE) (rO X.K Ξ qx):=by
 rintro pins s σ H x y v u Q I rx ry ⟨w,dx,dy,rfl,S,hx,hy,h⟩
 obtain⟨d,e,h⟩:=dW h
 unfold oH at e
 split at e
 ·rename_i i j
  cases e;cases hx;cases hy
  exact OF pins s σ w.H _ _ v u Q I rx ry ⟨i,j,rfl,rfl,aG S h _ rfl⟩
 ·cases e
theorem Qt:bh X (compareOp .Gt) (rO X.K Ξ uM):=by
 rintro pins s σ H x y v u Q I rx ry ⟨w,dx,dy,rfl,S,hx,hy,h⟩
 obtain⟨d,e,h⟩:=dW h
 unfold oH at e
 split at e
 ·rename_i i j
  cases e;cases hx;cases hy
  exact OG pins s σ w.H _ _ v u Q I rx ry ⟨i,j,rfl,rfl,aG S h _ rfl⟩
 ·cases e
theorem Qu:bh X (compareOp .GtE) (rO X.K Ξ uN):=by
 rintro pins s σ H x y v u Q I rx ry ⟨w,dx,dy,rfl,S,hx,hy,h⟩
 obtain⟨d,e,h⟩:=dW h
 unfold oH at e
 split at e
 ·rename_i i j
  cases e;cases hx;cases hy
  exact OH pins s σ w.H _ _ v u Q I rx ry ⟨i,j,rfl,rfl,aG S h _ rfl⟩
 ·cases e
noncomputable def gL (d i:D) (s:ae):Option D:=match res d s,i with
 | .lst ds,.int i=>dA ds i
 | .tup ds,.int i=>dA ds i
 | .bC ns,.int i=>(dA ns i).map D.int
 | .str x,.int i=>if decide (x.length<=sizeLine)=true then (dA x.cps.toList i).map λc=>.str ⟨#[c]⟩ else none
 |_,_=>none
noncomputable def ar (x y:D) (s:ae):Res D:=bx (gL x y s) s
theorem aq.at {K:Frag} {w:Wd} {ds:List D} {vs:List V} {i:Int} {d:D} (h:aq K w ds vs) (e:dA ds i=some d):∃v,dA vs i=some v/\DV K w d v:=by
 unfold dA at e |-
 rw[h.length] at e
 cases hi:fg vs.length i with
 |none=>rw[hi] at e;cases e
 |some j =>
  rw[hi] at e
  exact h.get' j d e
theorem Qv:qZ X (rO X.K Ξ ar):=by
 rintro value slice pins s σ H x y v u Q I rx ry ⟨w,dx,dy,rfl,S,hx,hy,h⟩ hs
 obtain⟨d,e,h2⟩:=dW h
 clear h
 unfold gL at e
 split at e
 ·rename_i ds i e1
  cases hy
  obtain⟨a,xs,rfl,ha,aw⟩:=iP S hx e1
  obtain⟨z,ez,dz⟩:=aw.at e
  exact De value slice pins s σ w.H _ _ v u Q I rx ry ⟨a,xs,i,z,rfl,rfl,bG.of ha,ez,aG S h2 _ dz⟩ hs
 ·rename_i ds i e1
  cases hy
  rw[dM e1 (by intro _ z;cases z)] at hx
  simp only[DV] at hx
  obtain⟨a,xs,rfl,ha,aw⟩:=hx
  obtain⟨z,ez,dz⟩:=aw.at e
  exact Nn value slice pins s σ w.H _ _ v u Q I rx ry ⟨a,xs,i,z,rfl,rfl,ha,ez,aG S h2 _ dz⟩ hs
 ·rename_i ns i e1
  cases hy
  rw[dM e1 (by intro _ z;cases z)] at hx
  simp only[DV] at hx
  obtain⟨a,rfl,ha⟩:=hx
  cases hn:dA ns i with
  |none=>rw[hn] at e;cases e
  |some n =>
   rw[hn] at e
   cases e
   refine De value slice pins s σ w.H _ _ v u Q I rx ry ⟨a,ns.map V.int,i,.int n,rfl,rfl,ha.sq,?_,aG S h2 _ rfl⟩ hs
   unfold dA at hn |-
   rw[List.length_map]
   cases hj:fg ns.length i with
   |none=>rw[hj] at hn;cases hn
   |some j =>
    rw[hj] at hn
    show (ns.map V.int)[j]?=some (.int n)
    rw[List.getElem?_map,show ns[j]?=some n from hn]
    rfl
 ·rename_i z i e1
  cases hy
  rw[dM e1 (by intro _ z;cases z)] at hx
  cases hx
  split at e
  ·rename_i hl
   cases hc:dA z.cps.toList i with
   |none=>rw[hc] at e;cases e
   |some c =>
    rw[hc] at e
    cases e
    exact Np value slice pins s σ w.H _ _ v u Q I rx ry ⟨z,i,c,rfl,rfl,of_decide_eq_true hl,hc,aG S h2 _ rfl⟩ hs
  ·cases e
 ·cases e
theorem aV {a b:Expr} {pos:Pos} {f g:Env->ae->Res D} (ha:PE X a (tE X.K Ξ f)) (hb:PE X b (tE X.K Ξ g)) (hs:Dd b:=by intro _ _;rfl):PE X (.Subscript a b pos) (tE X.K Ξ (e2 ar f g)):=cH (OO Qv ha hb hs) tm
noncomputable def uO (d:D) (s:ae):Option D:=match res d s with
 | .lst ds=>some (.int ds.length)
 | .tup ds=>some (.int ds.length)
 | .bC ns=>some (.int ns.length)
 | .str x=>if decide (x.length<=sizeLine)=true then some (.int x.length) else none
 |_=>none
noncomputable def eQ (ds:List D) (s:ae):Res D:=match ds with
 | [d]=>bx (uO d s) s
 |_=>none
theorem lY {K:Frag} {w:Wd} {d:D} {vs:List V} (h:aq K w [d] vs):∃v,vs=[v]/\DV K w d v:=by
 obtain⟨v,r,rfl,dv,dr⟩:=h
 have e:r=[]:=dr
 subst e
 exact⟨v,rfl,dv⟩
theorem pW {K:Frag} {w:Wd} {d e:D} {vs:List V} (h:aq K w [d,e] vs):∃v u,vs=[v,u]/\DV K w d v/\DV K w e u:=by
 obtain⟨v,r,rfl,dv,h⟩:=h
 obtain⟨u,rfl,du⟩:=lY h
 exact⟨v,u,rfl,dv,du⟩
theorem mm:bV X (.builtin "len") (rC X.K Ξ eQ):=by
 rintro pins s σ H xs us Q I r ⟨w,ds,rfl,S,aw,h⟩
 unfold eQ at h
 split at h
 ·obtain⟨v,rfl,dv⟩:=lY aw
  obtain⟨d,e,h⟩:=dW h
  unfold uO at e
  split at e
  ·rename_i ys e1
   cases e
   obtain⟨a,xs,rfl,ha,aw⟩:=iP S dv e1
   exact vz pins s σ w.H _ us Q I r ⟨a,xs,rfl,.inl (bG.of ha),by rw[<- aw.length];exact aG S h _ rfl⟩
  ·rename_i ys e1
   cases e
   rw[dM e1 (by intro _ z;cases z)] at dv
   simp only[DV] at dv
   obtain⟨a,xs,rfl,ha,aw⟩:=dv
   exact vz pins s σ w.H _ us Q I r ⟨a,xs,rfl,.inr ha,by rw[<- aw.length];exact aG S h _ rfl⟩
  ·rename_i ns e1
   cases e
   rw[dM e1 (by intro _ z;cases z)] at dv
   simp only[DV] at dv
   obtain⟨a,rfl,ha⟩:=dv
   exact vz pins s σ w.H _ us Q I r ⟨a,ns.map V.int,rfl,.inl ha.sq,by rw[List.length_map];exact aG S h _ rfl⟩
  ·rename_i z e1
   rw[dM e1 (by intro _ z;cases z)] at dv
   cases dv
   split at e
   ·rename_i hl
    cases e
    exact Ht pins s σ w.H _ us Q I r ⟨z,rfl,of_decide_eq_true hl,aG S h _ rfl⟩
   ·cases e
  ·cases e
 ·exact h.elim
noncomputable def gy:List D->Option (List Bool)
 | []=>some []
 | .bl b::ds=>(gy ds).map λr=>b::r
 |_::_=>none
theorem xm:∀{ds:List D} {bs:List Bool},gy ds=some bs->ds=bs.map D.bl
 | [],bs,h=>by cases h;rfl
 | .bl b::ds,bs,h=>by
  simp only[gy] at h
  cases hd:gy ds with
  |none=>rw[hd] at h;cases h
  |some r=>rw[hd] at h;cases h;rw[xm hd];rfl
 | .aA::_,_,h=>by cases h
 | .int _::_,_,h=>by cases h
 | .str _::_,_,h=>by cases h
 | .tup _::_,_,h=>by cases h
 | .lst _::_,_,h=>by cases h
 | .bp _::_,_,h=>by cases h
 | .aj _::_,_,h=>by cases h
 | .ty _::_,_,h=>by cases h
 | .bC _::_,_,h=>by cases h
theorem Mh {bs:List Bool}:gy (bs.map D.bl)=some bs:=by
 induction bs with
 |nil=>rfl
 |cons b bs ih=>simp only[List.map_cons,gy,ih,Option.map_some]
noncomputable def mM (ds:List D) (s:ae):Res D:=match ds with
 | [d]=>match res d s with
  | .lst es=>bx ((gy es).map λbs=>.bl (bs.all id)) s
  |_=>none
 |_=>none
noncomputable def oI (ds:List D) (s:ae):Res D:=match ds with
 | [d]=>match res d s with
  | .lst es=>bx ((gy es).map λbs=>.bl (bs.any id)) s
  |_=>none
 |_=>none
theorem uj (hc:X.calm=true):bV X (.builtin "all") (rC X.K Ξ mM):=by
 rintro pins s σ H xs us Q I r ⟨w,ds,rfl,S,aw,h⟩
 unfold mM at h
 split at h
 ·obtain⟨v,rfl,dv⟩:=lY aw
  split at h
  ·rename_i es e1
   obtain⟨d,e,h⟩:=dW h
   cases hb:gy es with
   |none=>rw[hb] at e;cases e
   |some bs =>
    rw[hb] at e
    cases e
    obtain⟨a,xs,rfl,ha,aw⟩:=iP S dv e1
    rw[xm hb] at aw
    rw[aw.wM] at ha
    exact Kp hc pins s σ w.H _ us Q I r ⟨a,bs,rfl,bG.of ha,aG S h _ rfl⟩
  ·exact h.elim
 ·exact h.elim
theorem E5 (hc:X.calm=true):bV X (.builtin "any") (rC X.K Ξ oI):=by
 rintro pins s σ H xs us Q I r ⟨w,ds,rfl,S,aw,h⟩
 unfold oI at h
 split at h
 ·obtain⟨v,rfl,dv⟩:=lY aw
  split at h
  ·rename_i es e1
   obtain⟨d,e,h⟩:=dW h
   cases hb:gy es with
   |none=>rw[hb] at e;cases e
   |some bs =>
    rw[hb] at e
    cases e
    obtain⟨a,xs,rfl,ha,aw⟩:=iP S dv e1
    rw[xm hb] at aw
    rw[aw.wM] at ha
    exact Kq hc pins s σ w.H _ us Q I r ⟨a,bs,rfl,bG.of ha,aG S h _ rfl⟩
  ·exact h.elim
 ·exact h.elim
noncomputable def mq (ds:List D) (s:ae):Res D:=match ds with
 | [.int i,.int j]=>ok (.int (if j > i then j else i)) s
 |_=>none
noncomputable def qm (ds:List D) (s:ae):Res D:=match ds with
 | [.int i,.int j]=>ok (.int (if j<i then j else i)) s
 |_=>none
theorem Ei (hc:X.calm=true):bV X (.builtin "max") (rC X.K Ξ mq):=by
 rintro pins s σ H xs us Q I r ⟨w,ds,rfl,S,aw,h⟩
 unfold mq at h
 split at h
 ·rename_i i j
  obtain⟨v,u,rfl,dv,du⟩:=pW aw
  cases dv;cases du
  exact Jj hc pins s σ w.H _ us Q I r ⟨i,j,rfl,aG S h _ rfl⟩
 ·exact h.elim
theorem NK (hc:X.calm=true):bV X (.builtin "min") (rC X.K Ξ qm):=by
 rintro pins s σ H xs us Q I r ⟨w,ds,rfl,S,aw,h⟩
 unfold qm at h
 split at h
 ·rename_i i j
  obtain⟨v,u,rfl,dv,du⟩:=pW aw
  cases dv;cases du
  exact Jk hc pins s σ w.H _ us Q I r ⟨i,j,rfl,aG S h _ rfl⟩
 ·exact h.elim
noncomputable def cv (ds:List D) (s:ae):Res D:=match ds with
 | [d]=>match res d s with
  | .lst es=>ok (.tup es) s
  | .tup es=>ok (.tup es) s
  |_=>none
 |_=>none
theorem jn:bV X (.type "tuple") (rC X.K Ξ cv):=by
 rintro pins s σ H xs us Q I r ⟨w,ds,rfl,S,aw,h⟩
 unfold cv at h
 split at h
 ·obtain⟨v,rfl,dv⟩:=lY aw
  split at h
  ·rename_i es e1
   obtain⟨a,xs,rfl,ha,aw⟩:=iP S dv e1
   exact AM pins s σ w.H _ us Q I r ⟨a,xs,rfl,.inl ⟨bG.of ha,NJ S aw h⟩⟩
  ·rename_i es e1
   rw[dM e1 (by intro _ z;cases z)] at dv
   have m7:=dv
   simp only[DV] at dv
   obtain⟨a,xs,rfl,ha,aw⟩:=dv
   exact AM pins s σ w.H _ us Q I r ⟨a,xs,rfl,.inr ⟨ha,aG S h _ m7⟩⟩
  ·exact h.elim
 ·exact h.elim
end
end DI
namespace DI
open PySem L2
noncomputable def oq (n:Nat) (x:D) (ds:List D):Bool:=lay x&&dR ds&&decide (dep x<=n)
noncomputable def inD (x:D) (ds:List D):Option Bool:=if oq 100 x ds=true then some (ds.any λy=>beq y x) else none
noncomputable def mr (d:D) (s:ae):Option (List D):=match res d s with
 | .lst ds=>some ds
 | .tup ds=>some ds
 |_=>none
noncomputable def cg (x y:D) (s:ae):Res D:=match mr y s with
 |some ds=>bx ((inD x ds).map D.bl) s
 |none=>none
noncomputable def dX (x y:D) (s:ae):Res D:=match mr y s with
 |some ds=>bx ((inD x ds).map λb=>D.bl (!b)) s
 |none=>none
theorem CB {K:Frag} {w:Wd} {d:D} {v:V} {ds:List D} (S:aM K w) (h:DV K w d v) (e:mr d w.aI=some ds):∃a xs,v=.ref a/\(w.H a=some (.lst xs)\/aR K w.H a xs)/\aq K w ds xs:=by
 unfold mr at e
 split at e
 ·rename_i es e1
  cases e
  obtain⟨a,xs,rfl,ha,aw⟩:=iP S h e1
  exact⟨a,xs,rfl,.inl ha,aw⟩
 ·rename_i es e1
  cases e
  rw[dM e1 (by intro _ z;cases z)] at h
  simp only[DV] at h
  obtain⟨a,xs,rfl,ha,aw⟩:=h
  exact⟨a,xs,rfl,.inr ha,aw⟩
 ·cases e
section
variable {X:Cx} {Ξ:Wd->bq->Prop} {pins:List (Addr×Obj)} {σ:St} {s:Shared}
theorem xn {x:D} (lx:lay x=true):∀{ds:List D},dR ds=true->((bT ds).any λy=>PyData.eqv y (py x))=ds.any λy=>beq y x
 | [],_=>rfl
 |d::ds,h=>by
  simp only[dR,Bool.and_eq_true] at h
  simp only[bT,List.any_cons,n5 d x h.1 lx,xn lx h.2]
theorem Ej {x:D} {ds:List D} {b:Bool} (h:inD x ds=some b):lay x=true/\dR ds=true/\dep x<=100/\(ds.any λy=>beq y x)=b:=by
 unfold inD oq at h
 split at h
 ·rename_i hl
  simp only[Bool.and_eq_true,decide_eq_true_eq] at hl
  exact⟨hl.1.1,hl.1.2,hl.2,Option.some.inj h⟩
 ·cases h
theorem gg {k:Nat} (hr:cq k X.A):bh X (compareOp .In) (rO X.K Ξ cg):=by
 rintro pins s σ H x y v u Q I rx ry ⟨w,dx,dy,rfl,S,hx,hy,h⟩
 unfold cg at h
 split at h
 ·rename_i ds hd
  obtain⟨d,e,h⟩:=dW h
  cases hb:inD dx ds with
  |none=>rw[hb] at e;cases e
  |some b =>
   rw[hb] at e
   cases e
   obtain⟨l1,l2,l3,l4⟩:=Ej hb
   obtain⟨p1,p2⟩:=iR _ l1
   obtain⟨q1,q2⟩:=pL _ l2
   obtain⟨bs,rd⟩:=(hx.py (lM _ l1)).reads I rx
   have hu:X.A.units+1+min (PyData.depthAll (bT ds)) (py dx).depth<cLine:=by
    have:=hr.un
    rw[p2]
    omega
   obtain⟨a,xs,rfl,ha,aw⟩:=CB S hy hd
   have fin:EP X pins σ Q (.bool ((bT ds).any λy=>PyData.eqv y (py dx))) s:=⟨.bl b,w.H,I,by rw[xn l1 l2,l4];rfl,aG S h _ rfl⟩
   rcases ha with ha|ha
   ·obtain⟨cs,rc⟩:=(show L2.DV X.K (λ_=>False) w.H (.list (bT ds)) (.ref a) by simp only[L2.DV];exact⟨a,xs,rfl,not_false,ha,aw.py (lK _ l2)⟩).reads I ry
    exact SeqAt.in_list_reads rc rd q1 p1 hu fin
   ·obtain⟨cs,rc⟩:=(show L2.DV X.K (λ_=>False) w.H (.tuple (bT ds)) (.ref a) by simp only[L2.DV];exact⟨a,xs,rfl,ha,aw.py (lK _ l2)⟩).reads I ry
    exact SeqAt.in_tuple_reads rc rd q1 p1 hu fin
 ·exact h.elim
theorem pP {k:Nat} (hr:cq k X.A):bh X (compareOp .NotIn) (rO X.K Ξ dX):=by
 rintro pins s σ H x y v u Q I rx ry ⟨w,dx,dy,rfl,S,hx,hy,h⟩
 unfold dX at h
 split at h
 ·rename_i ds hd
  obtain⟨d,e,h⟩:=dW h
  cases hb:inD dx ds with
  |none=>rw[hb] at e;cases e
  |some b =>
   rw[hb] at e
   cases e
   obtain⟨l1,l2,l3,l4⟩:=Ej hb
   obtain⟨p1,p2⟩:=iR _ l1
   obtain⟨q1,q2⟩:=pL _ l2
   obtain⟨bs,rd⟩:=(hx.py (lM _ l1)).reads I rx
   have hu:X.A.units+1+min (PyData.depthAll (bT ds)) (py dx).depth<cLine:=by
    have:=hr.un
    rw[p2]
    omega
   obtain⟨a,xs,rfl,ha,aw⟩:=CB S hy hd
   have fin:EP X pins σ Q (.bool (!(bT ds).any λy=>PyData.eqv y (py dx))) s:=⟨.bl (!b),w.H,I,by rw[xn l1 l2,l4];rfl,aG S h _ rfl⟩
   rcases ha with ha|ha
   ·obtain⟨cs,rc⟩:=(show L2.DV X.K (λ_=>False) w.H (.list (bT ds)) (.ref a) by simp only[L2.DV];exact⟨a,xs,rfl,not_false,ha,aw.py (lK _ l2)⟩).reads I ry
    exact SeqAt.notIn_list_reads rc rd q1 p1 hu fin
   ·obtain⟨cs,rc⟩:=(show L2.DV X.K (λ_=>False) w.H (.tuple (bT ds)) (.ref a) by simp only[L2.DV];exact⟨a,xs,rfl,ha,aw.py (lK _ l2)⟩).reads I ry
    exact SeqAt.notIn_tuple_reads rc rd q1 p1 hu fin
 ·exact h.elim
noncomputable def tP (K:Frag) (Ξ:Wd->bq->Prop) (f:Env->ae->Res (Option Int)):TO:=fun σ H Q=>∃w env,w.H=H/\aM K w/\bP K w env σ/\Out K Ξ w (f env w.aI) λw' i=>Q i w'.H
noncomputable def jK:Env->ae->Res (Option Int):=λ_ s=>ok none s
noncomputable def jz (f:Env->ae->Res D):Env->ae->Res (Option Int):=λenv s=>au (f env s) λd s=>match d with
 | .int i=>ok (some i) s
 |_=>none
variable {e a b:Expr} {lo hi:Option Expr} {pos p2 p3 p4:Pos} {f g:Env->ae->Res D}
theorem Ek {lo:Option Expr} {t t':TO} (h:PO X lo t) (i:∀ σ H Q,t' σ H Q->t σ H Q):PO X lo t':=λpins s σ H Q I hq=>h pins s σ H Q I (i σ H Q hq)
theorem yF:PO X none (tP X.K Ξ jK):=Ek LN fun σ H Q aC=>by
 obtain⟨w,env,eH,S,eo,h⟩:=aC
 subst eH
 exact aG S h
theorem xQ (he:PE X e (tE X.K Ξ f)):PO X (some e) (tP X.K Ξ (jz f)):=Ek (LO he) fun σ H Q aC=>by
 obtain⟨w,env,eH,S,eo,h⟩:=aC
 subst eH
 refine⟨w,env,rfl,S,eo,(Out.au h).mono λw1 d l1 S1 h1 v dv=>?_⟩
 cases d with
 |int i=>exact⟨i,dv,aG S1 h1⟩
 |_=>exact h1.elim
noncomputable def cutD (xs:List D) (lo hi:Option Int):List D:=(xs.drop (HT.aP xs.length 0 lo)).take (HT.aP xs.length xs.length hi-HT.aP xs.length 0 lo)
noncomputable def lZ (d:D) (lo hi:Option Int) (s:ae):Res D:=match res d s with
 | .tup ds=>ok (.tup (cutD ds lo hi)) s
 | .lst ds=>ok (.lst (cutD ds lo hi)) s
 |_=>none
noncomputable def jL (f:Env->ae->Res D) (l h:Env->ae->Res (Option Int)):Env->ae->Res D:=λenv s=>au (f env s) λd s=>au (l env s) λlo s=>au (h env s) λhi s=>lZ d lo hi s
noncomputable def Rt (K:Frag) (Ξ:Wd->bq->Prop):V->Option Int->Option Int->Hp->VK->Prop:=λx lo hi H Q=>∃w dx,w.H=H/\aM K w/\DV K w dx x/\Out K Ξ w (lZ dx lo hi w.aI) λw' d=>∀v,DV K w' d v->Q v w'.H
theorem NL:qY X (Rt X.K Ξ):=by
 rintro pins s σ H x v vl vu lo hi sl Q I rx hs pl pu ⟨w,dx,rfl,S,hx,h⟩
 unfold lZ at h
 split at h
 ·rename_i ds e1
  rw[dM e1 (by intro _ z;cases z)] at hx
  simp only[DV] at hx
  obtain⟨a,xs,rfl,ha,aw⟩:=hx
  refine LU pins s σ w.H _ v vl vu lo hi sl Q I rx hs pl pu ⟨a,xs,rfl,ha,oE S ?_ h⟩
  unfold cutD iX
  rw[aw.length]
  exact(aw.drop _).take _
 ·rename_i ds e1
  obtain⟨a,xs,rfl,ha,aw⟩:=iP S hx e1
  refine LQ pins s σ w.H _ v vl vu lo hi sl Q I rx hs pl pu ⟨a,xs,rfl,bG.of ha,uL S ?_ h⟩
  unfold cutD iX
  rw[aw.length]
  exact(aw.drop _).take _
 ·exact h.elim
theorem yG {fl fh:Env->ae->Res (Option Int)} (he:PE X e (tE X.K Ξ f)) (hl:PO X lo (tP X.K Ξ fl)) (hu:PO X hi (tP X.K Ξ fh)):PE X (.Subscript e (.Slice lo hi none p2) pos) (tE X.K Ξ (jL f fl fh)) :=
 cH (Kk NL he hl hu) fun σ H Q aC=>by
  obtain⟨w,env,eH,S,eo,h⟩:=aC
  subst eH
  exact⟨w,env,rfl,S,eo,(Out.au h).mono λw1 d l1 S1 h1 v dv=>⟨w1,env,rfl,S1,eo.le l1,(Out.au h1).mono λw2 i l2 S2 h2=>⟨w2,env,rfl,S2,eo.le (l1.trans l2),(Out.au h2).mono λw3 j l3 S3 h3=>⟨w3,d,rfl,S3,(l2.trans l3) _ _ dv,h3⟩⟩⟩⟩
noncomputable def iE (d x:D) (s:ae):Res D:=match d with
 | .aj k=>match s[k]? with
  |some (.lst ds)=>if decide (ds.length<sizeLine)=true then ok .aA (s.set k (.lst (ds++[x]))) else none
  |_=>none
 |_=>none
noncomputable def hU (d:D) (s:ae):Bool:=match d with
 | .aj k=>match s[k]? with
  |some (.lst _)=>true
  |_=>false
 |_=>false
noncomputable def gJ (f g:Env->ae->Res D):Env->ae->Res D:=λenv s=>au (f env s) λd s=>if hU d s=true then au (g env s) λx s=>iE d x s else none
theorem Mi {K:Frag} {w:Wd} {d:D} {v:V} (S:aM K w) (dv:DV K w d v) (h:hU d w.aI=true):∃k a ds xs,d=.aj k/\v=.ref a/\w.ρ[k]?=some a/\w.aI[k]?=some (.lst ds)/\w.H a=some (.lst xs)/\aq K w ds xs:=by
 unfold hU at h
 split at h
 ·rename_i k
  split at h
  ·rename_i ds hk
   obtain⟨a,e1,rfl⟩:=dv
   obtain⟨xs,q1,q2⟩:=S.cell k a _ e1 hk
   exact⟨k,a,ds,xs,rfl,rfl,e1,hk,q1,q2⟩
  ·cases h
 ·cases h
theorem NM {K:Frag} {w:Wd} {d y:D} {v u:V} {q:Wd->D->Prop} (S:aM K w) (dv:DV K w d v) (du:DV K w y u) (h:Out K Ξ w (iE d y w.aI) q):∃a xs,v=.ref a/\w.H a=some (.lst xs)/\xs.length<sizeLine/\∃w',w'.H=upd w.H a (.lst (xs++[u]))/\q w' .aA:=by
 unfold iE at h
 split at h
 ·rename_i k
  split at h
  ·rename_i ds hk
   split at h
   ·rename_i hl
    obtain⟨a,e1,rfl⟩:=dv
    obtain⟨xs,q1,q2⟩:=S.cell k a _ e1 hk
    have nd:(Cell.lst ds)≠.dead:=by intro z;cases z
    have le:=(Fw.put (K:=K) (o:=.lst (xs++[u])) (c:=.lst (ds++[y])) S e1 hk nd).le
    refine⟨a,xs,rfl,q1,by rw[<- q2.length];exact of_decide_eq_true hl,w.put k a (.lst (xs++[u])) (.lst (ds++[y])),rfl,?_⟩
    exact h _ le (S.yx e1 hk nd ⟨_,dE,le.all (q2.append (aq.one du))⟩) rfl
   ·exact h.elim
  ·exact h.elim
 ·exact h.elim
theorem qo {o:Expr} {apos cY:Pos} (ho:PE X o (tE X.K Ξ f)) (ha:PE X a (tE X.K Ξ g))
  (xK:attributeBase o "append" X.env (eval o X.env)=eval o X.env:=by rfl)
  (yn:((backTo cY (starEach [a] X.env)).all (λx=>!x.1)&&(backToKw cY (keywordEach [] X.env)).all (λx=>x.1.isSome)
   && decide (([a]:List Expr).length+([]:List Keyword).length+(if ([]:List Keyword).isEmpty then 0 else 1)<30))=true:=by rfl)
  (xM:(apos.endLine==cY.line)=true:=by rfl) (hs:starEach [a] X.env=(false,eval a X.env)::starEach [] X.env:=by rfl) (xi:(backTo cY (starEach [] X.env)).any (·.1)=false:=by rfl) :
  PE X (.Call (.Attribute o "append" apos) [a] [] cY) (tE X.K Ξ (gJ f g)) :=
 cH (OQ PySem.F.plainAttrs_list PySem.F.slot_list_append PySem.F.type_list_append Jm ho (j3 ha lV hs) xK yn xM hs xi) fun σ H Q aC=>by
  obtain⟨w,env,eH,S,eo,h⟩:=aC
  subst eH
  refine⟨w,env,rfl,S,eo,(Out.au h).mono λw1 d l1 S1 h1 v dv=>?_⟩
  split at h1
  ·rename_i hl
   obtain⟨k,p,ds,xs,rfl,rfl,e1,e2,e3,e4⟩:=Mi S1 dv hl
   refine⟨.inl ⟨rfl,xs,bG.of e3⟩,w1,env,rfl,S1,eo.le l1,(Out.au h1).mono λw2 y l2 S2 h2 u du=>?_⟩
   obtain⟨a',ys,ea,q1,q2,w3,eH,q3⟩:=NM S2 (l2 _ _ dv) du h2
   refine⟨a',ys,u,ea,rfl,q1,q2,?_⟩
   rw[<- eH]
   exact q3 _ rfl
  ·exact h1.elim
noncomputable def gj (d i x:D) (s:ae):Option ae:=match d,i with
 | .aj k,.int n=>match s[k]? with
  |some (.lst ds)=>(fg ds.length n).map λj=>s.set k (.lst (ds.set j x))
  |_=>none
 |_,_=>none
noncomputable def fT (f o i:Env->ae->Res D):Env->ae->Res Fl:=λenv s=>au (f env s) λx s=>au (o env s) λd s=>au (i env s) λn s=>match gj d n x s with
 |some s'=>ok (.nx env) s'
 |none=>none
theorem NN {K:Frag} {w:Wd} {d i x:D} {v n u:V} {s':ae} (S:aM K w) (dv:DV K w d v) (dn:DV K w i n) (du:DV K w x u) (h:gj d i x w.aI=some s'):∃a xs k j,v=.ref a/\n=.int k/\w.H a=some (.lst xs)/\fg xs.length k=some j/\∃w',w'.H=upd w.H a (.lst (xs.set j u))/\w'.aI=s'/\Le K w w'/\aM K w':=by
 unfold gj at h
 split at h
 ·rename_i k m
  split at h
  ·rename_i ds hk
   cases hj:fg ds.length m with
   |none=>rw[hj] at h;cases h
   |some j =>
    rw[hj] at h
    cases h
    obtain⟨a,e1,rfl⟩:=dv
    obtain⟨xs,q1,q2⟩:=S.cell k a _ e1 hk
    have nd:(Cell.lst ds)≠.dead:=by intro z;cases z
    have le:=(Fw.put (K:=K) (o:=.lst (xs.set j u)) (c:=.lst (ds.set j x)) S e1 hk nd).le
    exact⟨a,xs,m,j,rfl,dn,q1,by rw[<- q2.length];exact hj,w.put k a (.lst (xs.set j u)) (.lst (ds.set j x)),rfl,rfl,le,S.yx e1 hk nd ⟨_,dE,le.all (q2.set du j)⟩⟩
  ·cases h
 ·cases h
theorem mv {o i:Expr} {fU:Pos} {fo fi:Env->ae->Res D} (he:PE X e (tE X.K Ξ f)) (ho:PE X o (tE X.K Ξ fo)) (hi:PE X i (tE X.K Ξ fi))
  (ha:∀v,assign (.Subscript o i fU) X.env v=(do
   let ov <- holding [v] (eval o X.env)
   let iv <- holding [v,ov] (eval i X.env)
   standAt fU
   holding [v,ov,iv] (setItem ov iv v)
   release [v,ov,iv] []):=by intro _;rfl)
  (hs:swapsWithSole [.Subscript o i fU] e pos.line X.env=pure false:=by rfl) (hw:swappedStores [.Subscript o i fU] e X.env=pure none:=by rfl)
  (h1:(assignEach [.Subscript o i fU] X.env).map (·.2)=[assign (.Subscript o i fU) X.env]:=by rfl):PS X (.Assign [.Subscript o i fU] e pos) (tS X.K Ξ (fT f fo fi)) :=
 iw (xg he (D2 ho hi set_list ha) hs hw h1) λD0 σ H aC=>by
  obtain⟨w,env,eH,S,eo,h⟩:=aC
  subst eH
  refine⟨w,env,rfl,S,eo,(Out.au h).mono λw1 x l1 S1 h1 u du=>?_⟩
  refine⟨w1,env,rfl,S1,eo.le l1,(Out.au h1).mono λw2 d l2 S2 h2 v dv=>?_⟩
  refine⟨w2,env,rfl,S2,eo.le (l1.trans l2),(Out.au h2).mono λw3 n l3 S3 h3 m dm=>?_⟩
  cases hd:gj d n x w3.aI with
  |none=>rw[hd] at h3;exact h3.elim
  |some s' =>
   rw[hd] at h3
   obtain⟨a,xs,k,j,e1,e2,q1,q2,w4,eH,es,le,S4⟩:=NN S3 (l3 _ _ dv) dm ((l2.trans l3) _ _ du) hd
   refine⟨a,xs,k,j,e1,e2,q1,q2,?_⟩
   rw[<- eH]
   exact h3 w4 le S4 es σ (eo.le (l1.trans (l2.trans (l3.trans le))))
end
end DI
namespace DI
open PySem L2
noncomputable def kd (d:D) (s:ae):Option Kn:=match res d s with
 | .aA=>some .aA
 | .bl _=>some .bl
 | .int _=>some .int
 | .str _=>some .str
 | .tup _=>some .tup
 | .lst _=>some .lst
 | .bp _=>some .bp
 |_=>none
theorem E6 {K:Frag} {w:Wd} {d:D} {v:V} {k:Kn} (S:aM K w) (h:DV K w d v) (e:kd d w.aI=some k):lq K w.H v k:=by
 unfold kd at e
 split at e<;>rename_i e1<;>first | (cases e;done) | (try cases e)
 ·rw[dM e1 (by intro _ z;cases z)] at h;cases h;trivial
 ·rw[dM e1 (by intro _ z;cases z)] at h;cases h;trivial
 ·rw[dM e1 (by intro _ z;cases z)] at h;cases h;trivial
 ·rw[dM e1 (by intro _ z;cases z)] at h;cases h;trivial
 ·rw[dM e1 (by intro _ z;cases z)] at h
  simp only[DV] at h
  obtain⟨a,xs,rfl,ha,_⟩:=h
  exact⟨xs,ha⟩
 ·obtain⟨a,xs,rfl,ha,_⟩:=iP S h e1
  exact⟨xs,bG.of ha⟩
 ·rw[dM e1 (by intro _ z;cases z)] at h
  simp only[DV] at h
  obtain⟨a,rfl,_,ha⟩:=h
  exact⟨_,ha⟩
noncomputable def E7 (T:String):Bool:=T=="int"||T=="bool"||T=="str"||T=="tuple"||T=="list"
noncomputable def cE (ds:List D) (s:ae):Res D:=match ds with
 | [d,.ty T]=>if E7 T=true then bx ((kd d s).map λk=>.bl (oA k T)) s else none
 |_=>none
section
variable {X:Cx} {Ξ:Wd->bq->Prop} {e a b:Expr} {es:List Expr} {pos:Pos} {f g:Env->ae->Res D} {fa:Env->ae->Res (List D)}
theorem iA:bV X (.builtin "isinstance") (rC X.K Ξ cE):=by
 rintro pins s σ H xs us Q I r ⟨w,ds,rfl,S,aw,h⟩
 unfold cE at h
 split at h
 ·rename_i d T
  obtain⟨v,u,rfl,dv,du⟩:=pW aw
  have eu:u=.ty T:=du
  subst eu
  split at h
  ·rename_i hT
   obtain⟨d',e,h⟩:=dW h
   cases hk:kd d w.aI with
   |none=>rw[hk] at e;cases e
   |some k =>
    rw[hk] at e
    cases e
    have rB:=E6 S dv hk
    simp only[E7,Bool.or_eq_true,beq_iff_eq] at hT
    rcases hT with (((rfl|rfl)|rfl)|rfl)|rfl
    ·exact Hu pins s σ w.H _ us Q I r ⟨v,k,rfl,rB,aG S h _ rfl⟩
    ·exact Hi pins s σ w.H _ us Q I r ⟨v,k,rfl,rB,aG S h _ rfl⟩
    ·exact Hv pins s σ w.H _ us Q I r ⟨v,k,rfl,rB,aG S h _ rfl⟩
    ·exact G8 pins s σ w.H _ us Q I r ⟨v,k,rfl,rB,aG S h _ rfl⟩
    ·exact Hj pins s σ w.H _ us Q I r ⟨v,k,rfl,rB,aG S h _ rfl⟩
  ·exact h.elim
 ·exact h.elim
theorem iF {x:Str} {T:String} (hv:bootBuiltins x=some (.type T)) (hg:Gl X x) (hm:X.mg x=none) (hn:x≠"__name__":=by decide) (hd:(x==("__debug__":Str))=false:=by decide):PE X (.Name x pos) (tE X.K Ξ (eC (.ty T))):=qf (v:=.ty T) (wC hg hm hv rfl hn hd) λ_=>rfl
theorem fF {x:Str} {i:Int} (g:∃t,X.mg x=some (.int i t)) (hg:Gl X x) (hd:(x==("__debug__":Str))=false:=by decide):PE X (.Name x pos) (tE X.K Ξ (eC (.int i))):=by
 obtain⟨t,e⟩:=g
 exact qf (v:=.int i) (Lz hg e ⟨t,rfl⟩ hd) λ_=>rfl
noncomputable def qy (d:D) (s:ae):Res D:=bx ((kd d s).map λk=>.bl (decide (k=.tup)||decide (k=.lst))) s
theorem Mj {p p1 p2 p3:Pos} {x1} (ha:PE X a (tE X.K Ξ f)) (hg:Gl X "isinstance") (hm:X.mg "isinstance"=none) (hv:bootBuiltins "isinstance"=some (.builtin "isinstance")) (h1:PE X (.Name "tuple" p1) (tC (.ty "tuple"))) (h2:PE X (.Name "list" p2) (tC (.ty "list")))
  (he:starEach (a::[.Tuple [.Name "tuple" p1,.Name "list" p2] x1 p3]) X.env=(false,eval a X.env)::starEach [.Tuple [.Name "tuple" p1,.Name "list" p2] x1 p3] X.env:=by rfl) :
  PE X (.Call (.Name "isinstance" p) [a,.Tuple [.Name "tuple" p1,.Name "list" p2] x1 p3] [] pos) (tE X.K Ξ (e1 qy f)) :=
 cH (vX HR hg hm hv (j3 ha (j3 (Ko (j3 h1 (j3 h2 lV))) lV) he) (by decide) (by decide) he) fun σ H Q aC=>by
  obtain⟨w,env,eH,S,eo,h⟩:=aC
  subst eH
  refine⟨w,env,rfl,S,eo,(Out.au h).mono λw1 d l1 S1 h1 v dv=>?_⟩
  refine⟨["tuple","list"],rfl,(by show 2<=sizeLine;decide),λp hp=>?_⟩
  obtain⟨d',e,h1⟩:=dW h1
  cases hk:kd d w1.aI with
  |none=>rw[hk] at e;cases e
  |some k =>
   rw[hk] at e
   cases e
   have S2:=S1.grow (o:=.ext (oh p ["tuple","list"])) hp
   have l2:=(Fw.grow (K:=X.K) (o:=.ext (oh p ["tuple","list"])) hp).le
   exact⟨v,k,p,rfl,E6 (w:=w1.grow p _) S2 (l2 _ _ dv) hk,dE,h1 _ l2 S2 rfl _ rfl⟩
noncomputable def qp (d:D):Bool:=plain d&&(py d).showable&&(!(py d).hasDict||(match py d with | .tuple ds=>oF ds | .dict _=>true | _=>false))&&decide ((py d).depth<=100)&&decide ((py d).shown.length<=sizeLine)
noncomputable def kU (ds:List D) (s:ae):Res D:=match ds with
 | [d]=>if qp (res d s)=true then ok (.str (py (res d s)).shown) s else none
 |_=>none
theorem El {k:Nat} (hr:cq k X.A):bV X (.builtin "repr") (rC X.K Ξ kU):=by
 rintro pins s σ H xs us Q I r ⟨w,ds,rfl,S,aw,h⟩
 unfold kU at h
 split at h
 ·rename_i d
  obtain⟨v,rfl,dv⟩:=lY aw
  split at h
  ·rename_i hk
   simp only[qp,Bool.and_eq_true,decide_eq_true_eq] at hk
   obtain⟨⟨⟨⟨h1,h2⟩,h3⟩,h4⟩,h5⟩:=hk
   have dp:=dv.res S h1
   have fin:=aG S h _ rfl
   generalize hp:py (res d w.aI)=P at *
   cases P with
   |tuple ps =>
    refine II hr pins s σ w.H _ us Q I r ⟨v,ps,_,rfl,dp,h2,?_,h4,h5,fin⟩
    simpa using h3
   |dict ak=>exact BL hr pins s σ w.H _ us Q I r ⟨v,_,_,rfl,dp,h2,.inr rfl,h4,h5,fin⟩
   |_ =>
    refine BL hr pins s σ w.H _ us Q I r ⟨v,_,_,rfl,dp,h2,.inl ?_,h4,h5,fin⟩
    simpa using h3
  ·exact h.elim
 ·exact h.elim
noncomputable def mw:List D->Option (List Int)
 | []=>some []
 | .int i::ds=>(mw ds).map λr=>i::r
 |_::_=>none
theorem CC:∀{ds:List D} {ns:List Int},mw ds=some ns->ds=ns.map D.int
 | [],ns,h=>by cases h;rfl
 | .int b::ds,ns,h=>by
  simp only[mw] at h
  cases hd:mw ds with
  |none=>rw[hd] at h;cases h
  |some r=>rw[hd] at h;cases h;rw[CC hd];rfl
 | .aA::_,_,h=>by cases h
 | .bl _::_,_,h=>by cases h
 | .str _::_,_,h=>by cases h
 | .tup _::_,_,h=>by cases h
 | .lst _::_,_,h=>by cases h
 | .bp _::_,_,h=>by cases h
 | .aj _::_,_,h=>by cases h
 | .ty _::_,_,h=>by cases h
 | .bC _::_,_,h=>by cases h
theorem JA {ns:List Int}:mw (ns.map D.int)=some ns:=by
 induction ns with
 |nil=>rfl
 |cons b bs ih=>simp only[List.map_cons,mw,ih,Option.map_some]
noncomputable def jA (i:Int):List Int->List Int
 | []=>[i]
 |j::r=>if i<j then i::j::r else if i=j then j::r else j::jA i r
noncomputable def fy:List Int->List Int
 | []=>[]
 |i::r=>jA i (fy r)
theorem wa {i k:Int}:∀{l:List Int},k∈jA i l↔k=i\/k∈l
 | []=>by simp[jA]
 |j::r=>by
  unfold jA
  split
  ·simp
  ·split
   ·rename_i h;subst h;simp
   ·rw[List.mem_cons,wa,List.mem_cons]
    constructor
    ·rintro (h|h|h)
     ·exact .inr (.inl h)
     ·exact .inl h
     ·exact .inr (.inr h)
    ·rintro (h|h|h)
     ·exact .inr (.inl h)
     ·exact .inl h
     ·exact .inr (.inr h)
theorem A8 {i:Int}:∀{l:List Int},l.Pairwise (· < ·)->(jA i l).Pairwise (· < ·)
 | [],_=>by simp[jA]
 |j::r,h=>by
  obtain⟨h1,h2⟩:=List.pairwise_cons.mp h
  unfold jA
  split
  ·rename_i dH
   refine List.pairwise_cons.mpr ⟨λk hk=>?_,h⟩
   rcases List.mem_cons.mp hk with rfl|hk
   ·exact dH
   ·have:=h1 k hk;omega
  ·split
   ·exact h
   ·refine List.pairwise_cons.mpr ⟨λk hk=>?_,A8 h2⟩
    rcases wa.mp hk with rfl|hk
    ·omega
    ·exact h1 k hk
theorem pG {k:Int}:∀{l:List Int},k∈fy l↔k∈l
 | []=>by simp[fy]
 |i::r=>by simp[fy,wa,pG]
theorem AV:∀(l:List Int),(fy l).Pairwise (· < ·)
 | []=>List.Pairwise.nil
 |i::r=>A8 (AV r)
theorem AN:∀{l m:List Int},l.Pairwise (· < ·)->m.Pairwise (· < ·)->(∀k,k∈l↔k∈m)->l=m
 | [],[],_,_,_=>rfl
 | [],j::m,_,_,h=>by have:=(h j).mpr List.mem_cons_self;cases this
 |i::l,[],_,_,h=>by have:=(h i).mp List.mem_cons_self;cases this
 |i::l,j::m,hl,hm,h=>by
  obtain⟨l1,l2⟩:=List.pairwise_cons.mp hl
  obtain⟨m1,m2⟩:=List.pairwise_cons.mp hm
  have e:i=j:=by
   rcases List.mem_cons.mp ((h i).mp List.mem_cons_self) with e|e
   ·exact e
   ·rcases List.mem_cons.mp ((h j).mpr List.mem_cons_self) with e'|e'
    ·exact e'.symm
    ·have:=m1 i e;have:=l1 j e';omega
  subst e
  congr 1
  refine AN l2 m2 λk=>?_
  constructor
  ·intro hk
   rcases List.mem_cons.mp ((h k).mp (List.mem_cons_of_mem _ hk)) with e|e
   ·subst e;have:=l1 k hk;omega
   ·exact e
  ·intro hk
   rcases List.mem_cons.mp ((h k).mpr (List.mem_cons_of_mem _ hk)) with e|e
   ·subst e;have:=m1 k hk;omega
   ·exact e
noncomputable def nM (d:D) (s:ae):Res D:=match d with
 | .lst ds=>match mw ds with
  |some ns=>if decide (ns.length<64)=true then ok (.lst ((fy ns).map D.int)) s else none
  |none=>none
 |_=>none
theorem IM {p p2 i4:Pos} (ha:PE X a (tE X.K Ξ f)) (hc:X.calm=true) (hg:Gl X "sorted") (hm:X.mg "sorted"=none) (hv:bootBuiltins "sorted"=some (.builtin "sorted")) (zy:Gl X "set") (zz:X.mg "set"=none) (Ru:bootBuiltins "set"=some (.type "set"))
  (he:starEach [a] X.env=(false,eval a X.env)::starEach [] X.env:=by rfl) (cN:(backTo i4 (starEach [] X.env)).any (·.1)=false:=by rfl)
  (va:starEach [.Call (.Name "set" p2) [a] [] i4] X.env=(false,eval (.Call (.Name "set" p2) [a] [] i4) X.env)::starEach [] X.env:=by rfl) (Qw:(backTo pos (starEach [] X.env)).any (·.1)=false:=by rfl) :
  PE X (.Call (.Name "sorted" p) [.Call (.Name "set" p2) [a] [] i4] [] pos) (tE X.K Ξ (e1 nM f)) :=
 cH (vX (Hx hc) hg hm hv (j3 (vL (IH hc) zy zz Ru (j3 ha lV he) (by decide) (by decide) he cN) lV va) (by decide) (by decide) va Qw) fun σ H Q aC=>by
  obtain⟨w,env,eH,S,eo,h⟩:=aC
  subst eH
  refine⟨w,env,rfl,S,eo,(Out.au h).mono λw1 d l1 S1 h1 v dv=>?_⟩
  unfold nM at h1
  split at h1
  ·rename_i ds
   split at h1
   ·rename_i ns hn
    split at h1
    ·rename_i hl
     have hl:=of_decide_eq_true hl
     simp only[DV] at dv
     obtain⟨p,xs,rfl,hp,aw⟩:=dv
     rw[CC hn] at aw
     rw[aw.Cy] at hp
     refine⟨p,ns,rfl,hp.sq,by omega,λq hq=>?_⟩
     refine⟨q,ns,rfl,dE,hl,λl ms yY hs hk=>?_⟩
     have e:=AN hs (AV ns) λk=>(hk k).trans pG.symm
     subst e
     have zA:(w1.grow q (.ext (jw X.prog X.w q ns))).H l=none:=yY
     have S2:=S1.grow (o:=.ext (jw X.prog X.w q ns)) hq
     exact h1 ((w1.grow q (.ext (jw X.prog X.w q ns))).grow l (.lst ((fy ns).map V.int))) ((Fw.grow hq).le.trans (Fw.grow zA).le) (S2.grow zA) rfl (.ref l) ⟨l,_,rfl,⟨(show ¬ (w1.grow q (.ext (jw X.prog X.w q ns))).Z l from nZ S2 zA),dE⟩,aq.ints _⟩
    ·exact h1.elim
   ·exact h1.elim
  ·exact h1.elim
noncomputable def qz (i j:Nat) (fa:Env->ae->Res (List D)):Env->ae->Res Fl:=λenv s=>au (fa env s) λds s=>match ds with
 | [x,y]=>ok (.nx ((env.set i (some x)).set j (some y))) s
 |_=>none
theorem NO (i j:Nat) {x y:Str} {px py pt:Pos} {kt k2 gp} (hc:X.calm=true) (hN:X.N.Nodup) (ha:PA X [a,b] (tA X.K Ξ fa)) (hi:X.N[i]?=some x:=by rfl) (hj:X.N[j]?=some y:=by rfl) (dH:i≠j:=by decide)
  (hx:X.env.scope.names.lookup x=some .local:=by rfl) (hy:X.env.scope.names.lookup y=some .local:=by rfl)
  (hw:swappedStores [.Tuple [.Name x px,.Name y py] kt pt] (.Tuple [a,b] k2 gp) X.env=pure (some [x,y]):=by rfl)
  (hs:swapsWithSole [.Tuple [.Name x px,.Name y py] kt pt] (.Tuple [a,b] k2 gp) pos.line X.env=pure false:=by rfl) :
  PS X (.Assign [.Tuple [.Name x px,.Name y py] kt pt] (.Tuple [a,b] k2 gp) pos) (tS X.K Ξ (qz i j fa)):=iw (M9 hc hN hi hj dH hx hy ha hw hs) λD0 σ H aC=>by
 obtain⟨w,env,eH,S,eo,h⟩:=aC
 subst eH
 refine⟨w,env,rfl,S,eo,(Out.au h).mono λw1 ds l1 S1 h1 vs aw=>?_⟩
 split at h1
 ·obtain⟨v,u,rfl,dv,du⟩:=pW aw
  exact⟨v,u,rfl,aG S1 h1 _ (((eo.le l1).set dv i).set du j)⟩
 ·exact h1.elim
end
end DI
namespace L2
open PySem PySem.Spec PyProof.Rows
structure DS (Y:Cx) (D:Addr) (pins:List (Addr×Obj)):Prop where
 loc:D≠Y.env.locals
 fs:D∉Y.fs
 new:Y.cM.heap.objs.size<=D
 cell:∀x c,Y.env.cells.lookup x=some c->c≠D
 pin:∀p∈Y.pn++pins,p.1≠D
structure m9 (Y:Cx) (D:Addr) (nt:Nat) (caps:St) (pins:List (Addr×Obj)) (o:St) (H:Hp) (s:Shared) (acc:List V):Prop where
 inv:Inv Y pins (o++caps) H s
 len:o.length=nt
 lst:∃ys,s.heap.PlainList D ys/\Vals acc ys.toList
 free:H D=none
 lA:acc.length<=sizeLine
noncomputable abbrev hV:=St->Hp->List V->(St->List V->Hp->Prop)->Prop
def qA (Y:Cx) (D:Addr) (nt:Nat) (caps:St) (c:Code) (m:Sem PySem.Fin) (ta:hV):Prop :=
 ∀(pins:List (Addr×Obj)) (o:St) (H:Hp) (s:Shared) (acc:List V) (Q:St->List V->Hp->Prop),DS Y D pins->m9 Y D nt caps pins o H s acc->ta (o++caps) H acc Q ->
  wpAny (model Y.prog Y.w) Y.A m (λfn s'=>fn=.again c/\∃o' H' eJ,m9 Y D nt caps pins o' H' s' eJ/\Q (o'++caps) eJ H') (λ_ _=>False) s
def CA (J:It) (g:TG) (tf:TT) (ta:hV) (τ:St) (acc:List V) (H:Hp) (Q:St->List V->Hp->Prop):Prop:=∃W:Nat->Nat->St->List V->Hp->Prop,(∃m,W 0 m τ acc H) /\
 ∀i m τ acc H2,W i m τ acc H2->(J.stop i H2/\Q τ acc H2) \/
  (J.go i H2/\∃N:St->List V->Hp->Prop,(∀ cy eJ H',N cy eJ H'->∃m',m' < m/\W (i+1) m' cy eJ H') /\
   ∀x H3,J.qP i H2 x H3->g x τ H3 fun mW H4=>tf mW H4 λb H5=>if b=true then ta mW H5 acc N else N mW acc H5)
noncomputable def E8 (te:TE):hV:=fun τ H acc Q=>acc.length+1<=sizeLine/\te τ H λv H'=>Q τ (acc++[v]) H'
noncomputable def E9 (wi:TI) (g:TG) (tf:TT) (ta:hV):hV:=fun τ H acc Q=>wi τ H λJ H1=>CA J g tf ta τ acc H1 Q
section
variable {Y:Cx} {D:Addr} {nt:Nat} {caps:St}
theorem DS.obj {pins:List (Addr×Obj)} {o:St} {H:Hp} {s:Shared} {acc:List V} (ds:DS Y D pins) (B:m9 Y D nt caps pins o H s acc):∃oD ys nn,s.heap.get? D=some oD/\oD={ cls:=.type "list",data:=.seq ys nn }/\Vals acc ys.toList/\Inv Y (pins++[(D,oD)]) (o++caps) H s:=by
 obtain⟨ys,⟨nn,ho⟩,rv⟩:=B.lst
 refine⟨_,ys,nn,ho,rfl,rv,B.inv.j0 λp hp=>?_⟩
 rcases List.mem_append.mp hp with z|z
 ·exact B.inv.pin p (List.mem_append_right _ z)
 ·have e:p=(D,{ cls:=.type "list",data:=.seq ys nn }):=by simpa using z
  subst e
  exact⟨ho,B.free,ds.loc,ds.fs,λv z=>by cases z⟩
theorem CD {el:Expr} {te:TE} {c:Code} (hx:Y.xe=λ_ _=>False) (hE:PE Y el te):qA Y D nt caps c ((do let _ <- call (.builtin "list.append") [.ref D,<- eval el Y.env]:Sem Unit) >>= λ_=>again c) (E8 te):=by
 intro pins o H s acc Q ds B h
 obtain⟨hz,h⟩:=h
 obtain⟨oD,ys,nn,ho,eo,rv,I⟩:=ds.obj B
 have q:=hE _ s _ H _ I h
 rw[hx] at q
 refine wpAny_bind (wpAny_bind (aJ q λy s8 h8=>?_))
 obtain⟨v,H8,I8,r8,q9⟩:=h8
 have pD:=I8.pin (D,oD) (List.mem_append_right _ (List.mem_append_right _ (by simp)))
 have zB:s8.heap.PlainList D ys:=⟨nn,by rw[<- eo];exact pD.1⟩
 have zC:ys.size<=sizeLine:=by
  have e:=rv.length
  simp only[Array.length_toList] at e
  omega
 refine wpAny_bind (wpAny_list_append_plain (hsz:=zC) zB λh9 zD vc=>wpAny_pure (wpAny_pure ⟨rfl,?_⟩))
 have zE:Inv Y pins (o++caps) H8 s8:=I8.jX
 have I9:Inv Y pins (o++caps) H8 { s8 with heap:=h9,toks:=s8.toks }:=zE.turned (it:=D) (λb o hb e=>(vc.2 b hb).trans e) pD.2.1 ds.loc (.inr ds.new) ds.cell ds.pin
 refine⟨o,H8,acc++[v],⟨I9,B.len,⟨ys.push y,zD,?_⟩,pD.2.1,by rw[List.length_append];simpa using hz⟩,q9⟩
 rw[Array.toList_push]
 exact Vals.append rv (.cons r8 .nil)
theorem Bp {e tg:Expr} {tests:List Expr} {d:Nat} {it:Addr} {J:It} {fp:List Addr} {tn:Nat->Heap->Prop} {g:TG} {tf:TT} {ta:hV} {act:Sem PySem.Fin} {p0:Pos} {pins:List (Addr×Obj)} {o:St} {H:Hp} {s:Shared} {acc:List V} {Q:St->List V->Hp->Prop} (hx:Y.xe=λ_ _=>False) (hc:Y.calm=true)
  (T:Turn Y.prog Y.w Y.K tg J fp it tn) (Rv:tn 0 s.heap) (hf:∀b∈fp,fC Y pins H b) (kA:D∉fp) (hG:PG Y tg g) (fM:kn g nt) (hF:PF Y tests tf) (hA:qA Y D nt caps (.compLoop e d (.ref it) (.ref D) Y.env) act ta) (ds:DS Y D pins) (B:m9 Y D nt caps pins o H s acc) (hq:(Code.compLoop e d (.ref it) (.ref D) Y.env).quiet=true)
  (Qx:∀(M:Model) (A:Around) (Q':Fin->Shared->Prop) (E':Value->Shared->Prop) (s':Shared),wpAny (model Y.prog Y.w) A (compTurn e d (.ref it) (.ref D) Y.env) Q' (λ_ _=>False) s'->wpAny (model Y.prog Y.w) (A.under (.compLoop e d (.ref it) (.ref D) Y.env)) ((model Y.prog Y.w).den (.compLoop e d (.ref it) (.ref D) Y.env)) Q' E' s')
  (ht:compTurn e d (.ref it) (.ref D) Y.env=(do
   standAt p0
   match <- pyNext (.ref it) with
   |none=>pure (.done .next)
   |some v =>
    letOwnedTupleGo tg (.ref it) v
    assign tg Y.env v
    let mut ok:=true
    for c in tests do
     if ok then ok <- isTrue c Y.env (eval c Y.env)
    if ok then act else again (.compLoop e d (.ref it) (.ref D) Y.env)))
  (h:CA J g tf ta (o++caps) acc H Q) :
  codeAny (model Y.prog Y.w) Y.A (.compLoop e d (.ref it) (.ref D) Y.env) (λr s'=>r=.ok .next/\∃o' H' eJ,m9 Y D nt caps pins o' H' s' eJ/\Q (o'++caps) eJ H') s:=by
 obtain⟨W,⟨m0,w0⟩,turn⟩:=h
 have kB:∀{H':Hp} {pl:List (Addr×Obj)},(∀b∈fp,H' b=none)->(∀p∈pl,p.1∉fp)->∀b∈fp,fC Y (pins++pl) H' b:=λ{H' pl} hn hp b hb=>by
  obtain⟨_,f1,ng,f3,f4,f5⟩:=hf b hb
  refine⟨hn b hb,f1,ng,f3,f4,λp rD=>?_⟩
  rcases List.mem_append.mp rD with z|z
  ·exact f5 p (List.mem_append_left _ z)
  ·rcases List.mem_append.mp z with z|z
   ·exact f5 p (List.mem_append_right _ z)
   ·exact λe=>hp p z (e ▸ hb)
 refine codeAny_loop hq (λn s'=>∃i acc o H',m9 Y D nt caps pins o H' s' acc/\tn i s'.heap/\(∀b∈fp,H' b=none)/\W i n (o++caps) acc H') (λn s3 hJ=>?_) m0 ⟨0,acc,o,H,B,Rv,λb hb=>(hf b hb).1,w0⟩
 obtain⟨i,acc,o3,H3,B3,k9,lb,w3⟩:=hJ
 refine Qx (model Y.prog Y.w) _ _ _ _ ?_
 rw[ht]
 obtain⟨oD,ys,nn,ho,eo,lE,rE⟩:=ds.obj B3
 have nh:∀p∈[(D,oD)],p.1∉fp:=λp hp=>by
  have e:p=(D,oD):=by simpa using hp
  subst e
  exact kA
 have pb:∀{pl:List (Addr×Obj)} {cy:St} {H':Hp} {s':Shared},Inv Y (pins++[(D,oD)]++pl) cy H' s'->s'.heap.PlainList D ys/\H' D=none:=λ{pl cy H' s'} I'=>by
  have q:=I'.pin (D,oD) (List.mem_append_right _ (List.mem_append_left _ (List.mem_append_right _ (by simp))))
  exact⟨⟨nn,by rw[<- eo];exact q.1⟩,q.2.1⟩
 refine wpAny_bind (wpAny_standAt (wpAny_bind ?_))
 rcases turn i n _ acc H3 w3 with ⟨stop,q⟩ | ⟨go,N',hN,step⟩
 ·have hd:=T.done Y rfl rfl rfl hc i _ s3 _ H3 (λ_ _=>False) rE (kB lb nh) k9 stop
  refine aJ hd λr s4 h4=>?_
  obtain⟨hr,I4⟩:=h4
  subst hr
  obtain⟨zF,n4⟩:=pb (pl:=[]) (by simpa using I4)
  exact wpAny_pure ⟨rfl,o3,H3,acc,⟨I4.jX,B3.len,⟨ys,zF,lE⟩,n4,B3.lA⟩,q⟩
 ·have hd:=T.item Y rfl rfl rfl hc i _ s3 _ H3 (λ_ _=>False) rE (kB lb nh) k9 go
  refine aJ hd λr s4 h4=>?_
  obtain⟨u,hr,h4⟩:=h4
  subst hr
  refine wpAny_bind (aJ h4 λ_ s5 h5=>?_)
  obtain⟨x,H5,I5,r5,y5,i8,qR⟩:=h5
  have qS:=I5.pinned (kB qR nh) (T.obj _ _ i8)
  have q5:=hG _ s5 _ H5 x u _ qS r5 (fM x o3 _ H5 _ B3.len (step x H5 y5))
  rw[hx] at q5
  refine wpAny_bind (aJ q5 λ_ s6 h6=>?_)
  obtain⟨pd,H6,I6,⟨o6,rF,uP⟩,q6⟩:=h6
  have q7:=hF _ s6 pd H6 _ I6 q6
  rw[hx] at q7
  refine wpAny_bind (aJ q7 λb s7 h7=>?_)
  obtain⟨H7,I7,q7⟩:=h7
  subst uP
  obtain⟨vd,n7⟩:=pb I7
  have zG:Inv Y (pins++kM fp s5.heap) (o6++caps) H7 s7:=I7.j0 λp hp=>by
   rcases List.mem_append.mp hp with z|z
   ·exact I7.pin p (List.mem_append_right _ (List.mem_append_left _ (List.mem_append_left _ z)))
   ·exact I7.pin p (List.mem_append_right _ (List.mem_append_right _ z))
  have qB:∀{cy:St} {H':Hp} {s':Shared},Inv Y (pins++kM fp s5.heap) cy H' s'->tn (i+1) s'.heap/\∀b∈fp,H' b=none:=λ{cy H' s'} I'=>by
   refine⟨T.keep _ _ _ i8 λb hb o e=>(I'.pin (b,o) (List.mem_append_right _ (List.mem_append_right _ (nH hb e)))).1,λb hb=>?_⟩
   obtain⟨o,e,_⟩:=T.obj _ _ i8 b hb
   exact(I'.pin (b,o) (List.mem_append_right _ (List.mem_append_right _ (nH hb e)))).2.1
  cases b with
  |false =>
   rw[if_neg Bool.false_ne_true] at q7
   obtain⟨m',hm,w7⟩:=hN _ _ _ q7
   obtain⟨t7,f7⟩:=qB zG
   exact wpAny_pure ⟨rfl,m',hm,i+1,acc,o6,H7,⟨zG.jX,rF,⟨ys,vd,lE⟩,n7,B3.lA⟩,t7,f7,w7⟩
  |true =>
   rw[if_pos rfl] at q7
   have Rx:DS Y D (pins++kM fp s5.heap):=⟨ds.loc,ds.fs,ds.new,ds.cell,λp hp=>by
    rcases List.mem_append.mp hp with z|z
    ·exact ds.pin p (List.mem_append_left _ z)
    ·rcases List.mem_append.mp z with z|z
     ·exact ds.pin p (List.mem_append_right _ z)
     ·exact λe=>kA (e ▸ (BE z).1)⟩
   refine aJ (hA _ o6 H7 s7 acc N' Rx ⟨zG,rF,⟨ys,vd,lE⟩,n7,B3.lA⟩ q7) λfn s8 h8=>?_
   obtain⟨Ry,o8,H8,Qy,B8,q8⟩:=h8
   subst Ry
   obtain⟨m',hm,w8⟩:=hN _ _ _ q8
   obtain⟨t8,f8⟩:=qB B8.inv
   exact⟨rfl,m',hm,i+1,Qy,o8,H8,⟨B8.inv.jX,B8.len,B8.lst,B8.free,B8.lA⟩,t8,f8,w8⟩
end
end L2
namespace L2
open PySem PySem.Spec PyProof.Rows
theorem Em {P:Program} {w:World} {el:Expr} {gens:List Comprehension} {sc:Scope} {ps:Pos} {d:Nat} {gr av:Value} {ce:Env} (A:Around) (Q':Fin->Shared->Prop) (E':Value->Shared->Prop) (s':Shared)
  (h:wpAny (model P w) A (compTurn (.ListComp el gens sc ps) d gr av ce) Q' (λ_ _=>False) s'):wpAny (model P w) (A.under (.compLoop (.ListComp el gens sc ps) d gr av ce)) ((model P w).den (.compLoop (.ListComp el gens sc ps) d gr av ce)) Q' E' s':=by
 show wpAny _ A ((compTurn (.ListComp el gens sc ps) d gr av ce).onRaise (λx=>do noteFrame x ce;theTreesLotGoes x)) _ _ s'
 exact wpAny_noted (wpAny_mono h (λ_ _ q=>q) λ_ _ z=>z.elim)
theorem KQ {P:Program} {w:World} {A:Around} {R:Result->Shared->Prop} {s:Shared} {el target iter:Expr} {ifs:List Expr} {gens:List Comprehension} {sc:Scope} {ps:Pos} {d:Nat} {it acc:Value} {env:Env} (hd:gens[d]?=some ⟨target,iter,ifs,0⟩)
  (h0:codeAny (model P w) A (.compLoop (.ListComp el gens sc ps) d it acc env) R s)
  (h:wpAny (model P w) A (pyIter it) (λlF s'=>codeAny (model P w) A (.compLoop (.ListComp el gens sc ps) d lF acc env) R s') (λ_ _=>False) s) :
  codeAny (model P w) A (.compStart (.ListComp el gens sc ps) d it acc env) R s:=by
 refine codeAny_of_tree ?_
 show wpAny _ _ ((compStart (.ListComp el gens sc ps) d it acc env).onRaise (λx=>do noteFrame x env;standAt theWindowsPlace)) _ _ s
 refine wpAny_notedAt ?_
 have gm:(clausesOf (.ListComp el gens sc ps))[d]?=some ⟨target,iter,ifs,0⟩:=hd
 unfold compStart
 rw[gm]
 show wpAny _ _ (ask >>= _) _ _ s
 refine wpAny_bind (wpAny_askSetting (wpAny_ite ?_))
 split
 ·first
   |exact wpAny_bind (wpAny_pure (wpAny_pure (And.intro rfl h0)))
   |exact wpAny_pure (And.intro rfl h0)
 ·refine wpAny_bind (wpAny_rule ?_)
  show wpAny _ _ (standAt iter.pos >>= _) _ _ s
  exact wpAny_bind (wpAny_standAt (wpAny_bind (wpAny_mono h (λlF s' h'=>wpAny_pure (And.intro rfl h')) λ_ _ x=>x.elim)))
section
variable {Y:Cx} {D:Addr} {nt:Nat} {caps:St}
theorem wb {el tg src:Expr} {gens:List Comprehension} {sc:Scope} {ps:Pos} {tests:List Expr} {d:Nat} {wi:TI} {g:TG} {tf:TT} {ta:hV} {act:Addr->Sem PySem.Fin} {c:Code} (hx:Y.xe=λ_ _=>False) (hc:Y.calm=true) (hd:gens[d]?=some ⟨tg,src,tests,0⟩)
  (hi:PI Y tg src wi) (hG:PG Y tg g) (fM:kn g nt) (hF:PF Y tests tf) (hA:∀it:Addr,qA Y D nt caps (.compLoop (.ListComp el gens sc ps) d (.ref it) (.ref D) Y.env) (act it) ta)
  (ht:∀it:Addr,compTurn (.ListComp el gens sc ps) d (.ref it) (.ref D) Y.env=(do
   standAt src.pos
   match <- pyNext (.ref it) with
   |none=>pure (.done .next)
   |some v =>
    letOwnedTupleGo tg (.ref it) v
    assign tg Y.env v
    let mut ok:=true
    for c in tests do
     if ok then ok <- isTrue c Y.env (eval c Y.env)
    if ok then act it else again (.compLoop (.ListComp el gens sc ps) d (.ref it) (.ref D) Y.env)))
  (hs:∀x,foldedSetIterable src Y.env x=pure x) :
  qA Y D nt caps c (do
   let x <- eval src Y.env
   standAt src.pos
   let x <- foldedSetIterable src Y.env x
   let _ <- runOwn (.compStart (.ListComp el gens sc ps) d (<- holding [x] (pyIter x)) (.ref D) Y.env) Y.env
   again c) (E9 wi g tf ta):=by
 intro pins o H s acc Q ds B h
 obtain⟨oD,ys,nn,ho,eo,rv,I⟩:=ds.obj B
 have q:=hi _ s _ H _ I h
 rw[hx] at q
 refine wpAny_bind (aJ q λv s1 h1=>wpAny_bind (wpAny_standAt ?_))
 rw[hs]
 refine wpAny_bind (wpAny_pure (wpAny_bind (wpAny_holding (aJ h1 λgr s2 h2=>?_))))
 obtain⟨it,fp,tn,J,H2,e,I2,T,iH,f2,ca⟩:=h2
 subst e
 have pD:=I2.pin (D,oD) (List.mem_append_right _ (List.mem_append_right _ (by simp)))
 have kA:D∉fp:=λz=>(f2 D z).2.2.2.2.2 (D,oD) (List.mem_append_right _ (List.mem_append_right _ (by simp))) rfl
 have ng:∀b∈fp,fC Y pins H2 b:=λb hb=>by
  obtain⟨a1,a2,a3,a4,a5,a6⟩:=f2 b hb
  refine⟨a1,a2,a3,a4,a5,λp hp=>a6 p ?_⟩
  rcases List.mem_append.mp hp with z|z
  ·exact List.mem_append_left _ z
  ·exact List.mem_append_right _ (List.mem_append_left _ z)
 have B2:m9 Y D nt caps pins o H2 s2 acc:=⟨I2.jX,B.len,⟨ys,⟨nn,by rw[<- eo];exact pD.1⟩,rv⟩,pD.2.1,B.lA⟩
 have loop:=Bp (e:=.ListComp el gens sc ps) (d:=d) hx hc T iH ng kA hG fM hF (hA it) ds B2 rfl (λ_ A Q' E' s' h=>Em A Q' E' s' h) (ht it) ca
 refine wpAny_bind (wpAny_runOwn ?_)
 refine codeAny_mono (KQ hd loop (T.self _ _ _ _ _ iH loop)) λr s' hr=>?_
 obtain⟨e,q⟩:=hr
 subst e
 exact wpAny_pure ⟨rfl,q⟩
end
noncomputable def En (wi:TI) (nt:Nat) (cap:List Nat) (g:TG) (tf:TT) (ta:hV):TE:=fun σ H Q=>wi σ H λJ H1=>CA J g tf ta (List.replicate nt none++kR cap σ) [] H1 λ_ acc H2=>∀D,H2 D=none->Q (.ref D) (upd H2 D (.lst acc))
section
variable {X:Cx}
theorem CF {el tg src:Expr} {tests:List Expr} {rest:List Comprehension} {sc:Scope} {ps:Pos} {N:List Str} {nt:Nat} {cap:List Nat} {wi:TI} {g:TG} {tf:TT} {ta:hV} {act:Env->Addr->Addr->Sem PySem.Fin} (hc:X.calm=true) (S:pT X sc N nt cap) (fM:kn g nt) (hi:PI X tg src wi)
  (hY:∀(cl:List (Str×Addr)) (C:Addr) (s:Shared) (H:Hp) (ex:List Addr) (pn:List (Addr×Obj)),PG (dh X N sc cl C s H ex pn) tg g/\PF (dh X N sc cl C s H ex pn) tests tf/\∀D caps it,qA (dh X N sc cl C s H ex pn) D nt caps (.compLoop (.ListComp el (⟨tg,src,tests,0⟩::rest) sc ps) 0 (.ref it) (.ref D) (compEnvC sc cl C X.env)) (act (compEnvC sc cl C X.env) D it) ta)
  (ht:∀(it D:Addr) (ce:Env),compTurn (.ListComp el (⟨tg,src,tests,0⟩::rest) sc ps) 0 (.ref it) (.ref D) ce=(do
   standAt src.pos
   match <- pyNext (.ref it) with
   |none=>pure (.done .next)
   |some v =>
    letOwnedTupleGo tg (.ref it) v
    assign tg ce v
    let mut ok:=true
    for c in tests do
     if ok then ok <- isTrue c ce (eval c ce)
    if ok then act ce D it else again (.compLoop (.ListComp el (⟨tg,src,tests,0⟩::rest) sc ps) 0 (.ref it) (.ref D) ce)))
  (hs:∀x,foldedSetIterable src X.env x=pure x:=by intro _;rfl):PE X (.ListComp el (⟨tg,src,tests,0⟩::rest) sc ps) (En wi nt cap g tf ta):=by
 intro pins s σ H Q I h
 obtain⟨cl,xR,cU⟩:=D8 (env:=X.env) (sc:=sc) λn hn=>I.ok.has n (S.frees _ hn rfl).2
 rw[eval_ListComp]
 refine wpAny_comprehension_free (use:=none) rfl hs xR S.kind S.names (aJ (hi pins s σ H _ I h) λxv s1 h1=>aJ h1 λgr s2 h2=>?_)
 obtain⟨it,fp,tn,J,H2,e,I2,T,iH,f2,ca⟩:=h2
 subst e
 refine wpAny_newObj_type (wpAny_newFunctionEnv S.D9 (by intro y hy;simp at hy) (λh3 i5 oJ=>?_) S.kind)
 dsimp only at i5 oJ |-
 generalize hD:s2.heap.objs.size=D at i5 oJ |-
 generalize hG:s2.heap.push { cls:=.type "list",dict:=none,data:=.seq ([]:List Value).toArray }=G at i5 oJ |-
 generalize zH:G.objs.size=C at i5 oJ |-
 have hC:C=D+1:=by rw[<- zH,<- hG,Heap.size_push,hD]
 have ni:D≠C:=by omega
 have fG:s2.heap.objs.size<=D:=Nat.le_of_eq hD
 have gk:s2.heap.objs.size<=C:=by omega
 have old:∀b o,s2.heap.get? b=some o->h3.get? b=some o:=λb o e=>oJ.extBut b o (Nat.ne_of_lt (Nat.lt_of_lt_of_le (Heap.lt_size e) gk)) (Heap.get?_push_of_some _ (hG ▸ Heap.get?_push_of_some _ e))
 have jv:h3.PlainList D #[]:=⟨_,oJ.extBut _ _ ni (Heap.get?_push_of_some _ (hG ▸ hD ▸ Heap.get?_push_size _ rfl))⟩
 have ig:∀b∈fp,b<s2.heap.objs.size:=λb hb=>by
  obtain⟨o,e,_⟩:=T.obj _ _ iH b hb
  exact Heap.lt_size e
 have IB:=I2.block (t':=s2.toks+([]:List (Str×Value)).length) S cU f2 ig old gk ⟨_,i5⟩
 have zI:D∉fV X.stack:=λz=>by
  rcases List.mem_cons.mp (I2.j5 D z) with e|e
  ·exact absurd (Nat.lt_of_lt_of_le I2.lt fG) (by rw[e];exact Nat.lt_irrefl _)
  ·exact I2.qv fG e
 have kA:D∉fp:=λz=>absurd (Nat.lt_of_lt_of_le (ig D z) fG) (Nat.lt_irrefl _)
 have xo:∀x c,cl.lookup x=some c->c≠D:=λx c e z=>by
  obtain⟨v,o,ho,_⟩:=I2.cell x c ((cU x c).mp e).2
  exact absurd (Nat.lt_of_lt_of_le (Heap.lt_size ho) (by rw[z];exact fG)) (Nat.lt_irrefl _)
 have xS:∀p∈X.pn++pins,p.1≠D:=λp hp z=>absurd (Nat.lt_of_lt_of_le (Heap.lt_size (I2.pin p hp).1) (by rw[z];exact fG)) (Nat.lt_irrefl _)
 have fin:∀(s':Shared) (τ:St) (H':Hp) (acc:List V) (ys:Array Value),Inv (dh X N sc cl C s2 H2 fp (X.pn++pins)) [] τ H' s'->s'.heap.PlainList D ys->Vals acc ys.toList->H' D=none->acc.length<=sizeLine->(∀D,H' D=none->Q (.ref D) (upd H' D (.lst acc))) ->
   compPost (model X.prog X.w) X.A X.xe none (EP X pins σ Q) (.ref D) C (.ok .next) s':=by
  intro s' τ H' acc ys I' pl rv hn hz q
  obtain⟨m,hm,_⟩:=id I'.loc
  refine⟨m,hm,λh' sb=>?_⟩
  have yH:bX X.prog X.w H' h':=I'.aH.but I'.free sb
  obtain⟨n,ho⟩:=pl
  have dg:h'.get? D=some { cls:=.type "list",data:=.seq ys n }:=(sb.2 D ni).trans ho
  have new:cQ X.prog X.w (upd H' D (.lst acc)) h' D (.lst acc):=⟨hz,ys.toList,n,rv,by simpa using dg⟩
  have u:=(I'.base.but gk sb).adopt (o:=.lst acc) fG hn
  refine⟨.ref D,upd H' D (.lst acc),I2.xH (s':={ s' with heap:=h' }) (ch:=fp) I'.os u (yH.adopt hn new) I'.bare (λb hb=>?_),rfl,q D hn⟩
  obtain⟨_,f1,_,f3,f4,f5⟩:=f2 b hb
  exact⟨f3,f1,f4,f5⟩
 have kB:∀b∈fp,fC (dh X N sc cl C s2 H2 fp (X.pn++pins)) [] H2 b:=λb hb=>by
  obtain⟨f0,f1,ng,f3,f4,f5⟩:=f2 b hb
  refine⟨f0,Nat.ne_of_lt (Nat.lt_of_lt_of_le (ig b hb) gk),λz=>?_,.inl hb,λx c e=>f4 x c ((cU x c).mp e).2,λp rD=>?_⟩
  ·rcases List.mem_cons.mp (I2.j5 b z) with e|e
   ·exact f1 e
   ·exact ng e
  ·exact f5 p (by simpa using rD)
 obtain⟨zJ,zK,Rz⟩:=hY cl C s2 H2 fp (X.pn++pins)
 have loop:=Bp (Y:=dh X N sc cl C s2 H2 fp (X.pn++pins)) (D:=D) (nt:=nt) (caps:=kR cap σ) (e:=.ListComp el (⟨tg,src,tests,0⟩::rest) sc ps) (d:=0) (pins:=[]) (o:=List.replicate nt none) (acc:=[]) rfl hc T
  (T.keep _ _ _ iH λb _ o e=>old b o e) kB kA zJ fM zK (Rz D _ it) ⟨ni,zI,fG,xo,λp hp=>xS p (by simpa using hp)⟩ ⟨IB,by simp,⟨#[],jv,.nil⟩,I2.aH.fresh fG,Nat.zero_le _⟩ rfl (λ_ A Q' E' s' h=>Em A Q' E' s' h) (ht it D _) ca
 have Fb:=codeAny_mono loop (R':=compPost (model X.prog X.w) X.A X.xe none (EP X pins σ Q) (.ref D) C) λr s' hr=>by
  obtain⟨e,o',H',eJ,B',q'⟩:=hr
  subst e
  obtain⟨ys,pl,rv⟩:=B'.lst
  exact fin s' _ H' eJ ys B'.inv pl rv B'.free B'.lA q'
 exact codeAny_compStart_list Fb (T.self _ _ _ _ _ (T.keep _ _ _ iH λb _ o e=>old b o e) Fb)
end
end L2
namespace DI
open PySem L2
theorem gR:bootBuiltins "isinstance"=some (.builtin "isinstance"):=by decide +kernel
theorem O3:bootBuiltins "int"=some (.type "int"):=by decide +kernel
theorem xp:bootBuiltins "bool"=some (.type "bool"):=by decide +kernel
theorem fu:bootBuiltins "tuple"=some (.type "tuple"):=by decide +kernel
theorem pX:bootBuiltins "list"=some (.type "list"):=by decide +kernel
theorem O4:bootBuiltins "set"=some (.type "set"):=by decide +kernel
theorem uk:bootBuiltins "all"=some (.builtin "all"):=by decide +kernel
theorem Fc:bootBuiltins "any"=some (.builtin "any"):=by decide +kernel
theorem mx:bootBuiltins "len"=some (.builtin "len"):=by decide +kernel
theorem Eo:bootBuiltins "repr"=some (.builtin "repr"):=by decide +kernel
theorem Fd:bootBuiltins "max"=some (.builtin "max"):=by decide +kernel
theorem O5:bootBuiltins "min"=some (.builtin "min"):=by decide +kernel
theorem wc:bootBuiltins "sorted"=some (.builtin "sorted"):=by decide +kernel
structure Gd (K:Frag) (mg:Str->Option Value) (x:Str) (st:Stmt) (ps:List Str) (f:Addr) (fd:FuncData):Prop where
 mg:mg x=some (.ref f)
 fn:mV K x x st f fd
 b:Binds K fd ps []
theorem O6 {P:Program} {w:World} {K:Frag} {mg:Str->Option Value} {base:Heap} {k:Nat} {f:Addr} {fd:FuncData} {ps:List Str} {g:List D->ae->Res D} (h:∀ds s,g ds s=none):aU P w K mg base aZ k f fd ps (bA K g) :=
 ⟨λvs H Q E h'=>by obtain⟨w,ds,_,_,_,q⟩:=h';rw[h] at q;exact q.elim,λA outer s H args us vs Q E _ _ _ _ h'=>by obtain⟨w,ds,_,_,_,q⟩:=h';rw[h] at q;exact q.elim⟩
noncomputable def uq (K:Frag):Sp:=λvs H Q _=>∃(a:Addr) (ns:List Int),vs=[.ref a]/\bG K H a (ns.map V.int)/\ns.length<=63/\∀H',Q (.bl true) H'
theorem NP {P:Program} {w:World} {K:Frag} {mg:Str->Option Value} {base:Heap} {k:Nat} {f:Addr} {fd:FuncData} {x:Str} {g:List D->ae->Res D} (F:aU P w K mg base aZ k f fd [x] (bA K g))
  (h:∀ns:List Int,ns.length<=63->∃s,g [.bC ns] []=some (.ok (.bl true),s)):aU P w K mg base aZ k f fd [x] (uq K):=F.imp λvs H Q E ⟨a,ns,e,hS,hl,q⟩=>by
 subst e
 obtain⟨s,hs⟩:=h ns hl
 have nz:∀b,¬ (⟨[],[],H⟩:Wd).Z b:=λb ⟨k,c,e1,_,_⟩=>by simp at e1
 refine⟨⟨[],[],H⟩,[.bC ns],rfl,⟨rfl,List.nodup_nil,λk a e=>by simp at e,λk a c e=>by simp at e⟩,aq.one ⟨a,rfl,?_⟩,?_⟩
 ·rcases hS with hS|hS
  ·exact .inl ⟨nz a,hS⟩
  ·exact .inr hS
 ·show Out K cj _ (g [.bC ns] []) _
  rw[hs]
  intro w' _ _ _ v dv
  have e:v=.bl true:=dv
  subst e
  exact q _
end DI
namespace DI
open PySem L2
noncomputable def iG (g:D->Env->Option Env) (t:Env->ae->Res Bool) (act:Env->ae->Res (List D)) (kW:Env):List D->ae->Res (List D)
 | [],s=>ok [] s
 |d::ds,s=>match g d kW with
  |none=>none
  |some env=>au (ne (t env s)) λb s=>if b=true then au (ne (act env s)) λxs s=>au (iG g t act kW ds s) λys s=>ok (xs++ys) s
   else iG g t act kW ds s
noncomputable def emit (f:Env->ae->Res D):Env->ae->Res (List D):=λenv s=>au (f env s) λx s=>ok [x] s
noncomputable def more (it:Env->ae->Res (List D)) (g:D->Env->Option Env) (t:Env->ae->Res Bool) (act:Env->ae->Res (List D)):Env->ae->Res (List D):=λenv s=>au (it env s) λds s=>iG g t act env ds s
noncomputable def pY (nt:Nat) (cap:List Nat) (it:Env->ae->Res (List D)) (g:D->Env->Option Env) (t:Env->ae->Res Bool) (act:Env->ae->Res (List D)):Env->ae->Res D:=λenv s =>
 au (it env s) λds s=>au (ne (iG g t act (List.replicate nt none++fx cap env) ds s)) λxs s=>gG xs (ok (.lst xs) s)
def Sl (g:D->Env->Option Env) (sl:List Nat):Prop:=∀d env aE,g d env=some aE->aE.length=env.length/\∀i,i∉sl->aE[i]?=env[i]?
theorem tu (i:Nat):Sl (gN i) [i]:=λd env aE h=>by
 have e:env.set i (some d)=aE:=Option.some.inj h
 subst e
 refine⟨List.length_set ..,λj hj=>?_⟩
 rw[List.getElem?_set_ne (λz=>hj (by simp[z]))]
theorem Fe:∀(is:List Nat) (ds:List D) (env aE:Env),fS (is.map gN) ds env=some aE->aE.length=env.length/\∀i,i∉is->aE[i]?=env[i]?
 | [],[],env,aE,h=>by
  have e:env=aE:=Option.some.inj h
  rw[e]
  exact⟨rfl,λ_ _=>rfl⟩
 | [],_::_,_,_,h=>by cases h
 |_::_,[],_,_,h=>by cases h
 |j::is,d::ds,env,aE,h=>by
  have h':fS (is.map gN) ds (env.set j (some d))=some aE:=h
  obtain⟨h1,h2⟩:=Fe is ds _ aE h'
  refine⟨by rw[h1,List.length_set],λi hi=>?_⟩
  rw[h2 i (λz=>hi (List.mem_cons_of_mem _ z)),List.getElem?_set_ne (λz=>hi (by rw[z];exact List.mem_cons_self ..))]
theorem xh (is:List Nat):Sl (gT (is.map gN)) is:=λd env aE h=>by
 cases d with
 |tup ds=>exact Fe is ds env aE h
 |_=>cases h
theorem len_same {g:D->Env->Option Env} {sl:List Nat} {d:D} {env aE:Env} (hs:Sl g sl) (hg:g d env=some aE):aE.length=env.length:=(hs d env aE hg).1
def fX (sl:List Nat) (env:Env):Prop:=∀i∈sl,∀d,env[i]?≠some (some d)
theorem bP.back {K:Frag} {w:Wd} {env aE:Env} {σ:St} {g:D->Env->Option Env} {sl:List Nat} {d:D} (hs:Sl g sl) (hf:fX sl env) (hg:g d env=some aE) (hl:env.length=σ.length) (h:bP K w aE σ):bP K w env σ :=
 ⟨hl,λi x e=>by
  by_cases hi:i∈sl
  ·exact absurd e (hf i hi x)
  ·exact h.val i x (by rw[(hs d env aE hg).2 i hi];exact e)⟩
def qq (K:Frag) (Pre:Env->Prop) (ta:hV) (act:Env->ae->Res (List D)):Prop:=∀(w:Wd) (env:Env) (τ:St) (acc:List V) (accD xs:List D) (s':ae) (Q:St->List V->Hp->Prop),Pre env->aM K w->bP K w env τ->aq K w accD acc ->
 act env w.aI=some (.ok xs,s')->acc.length+xs.length<=sizeLine->(∀w' cy vs,Le K w w'->aM K w'->w'.aI=s'->bP K w' env cy->aq K w' (accD++xs) vs->Q cy vs w'.H)->ta τ w.H acc Q
theorem nN {α β:Type} {r:Res α} {k:α->ae->Res β} {b:β} {s':ae} (h:au r k=some (.ok b,s')):∃a s,r=some (.ok a,s)/\k a s=some (.ok b,s'):=by
 match r,h with
 |some (.ok a,s),h=>exact⟨a,s,rfl,h⟩
theorem wR {α:Type} {r:Res α} {a:α} {s:ae} (h:ne r=some (.ok a,s)):r=some (.ok a,s):=by
 match r,h with
 |some (.ok b,s2),h=>exact h
theorem A9 {K:Frag} {f:Env->ae->Res D}:qq K (λ_=>True) (E8 (tE K cj f)) (emit f):=by
 intro w env τ acc accD xs s' Q _ S eo da h hl hQ
 obtain⟨x,s1,h1,h2⟩:=nN h
 cases h2
 refine⟨by simpa using hl,w,env,rfl,S,eo,?_⟩
 rw[h1]
 intro w' le S' e' v dv
 exact hQ w' τ (acc++[v]) le S' e' (eo.le le) (aq.append (le.all da) (aq.one dv))
theorem BV {K:Frag} {Pre:Env->Prop} {g0:TG} {g:D->Env->Option Env} {nt:Nat} {sl:List Nat} {t:Env->ae->Res Bool} {act:Env->ae->Res (List D)} {ta:hV} {env:Env} {w1:Wd} {J:It} {ds xs accD:List D} {s':ae} {τ:St} {acc:List V} {Q:St->List V->Hp->Prop}
  (T:Tg K g0 g nt) (hs:Sl g sl) (hf:fX sl env) (hp:∀d aE,g d env=some aE->Pre aE) (hA:qq K Pre ta act) (hJ:m8 K w1 J ds) (S1:aM K w1) (eo:bP K w1 env τ) (da:aq K w1 accD acc)
  (h:iG g t act env ds w1.aI=some (.ok xs,s')) (hl:acc.length+xs.length<=sizeLine) (hQ:∀w' cy vs,Le K w1 w'->aM K w'->w'.aI=s'->bP K w' env cy->aq K w' (accD++xs) vs->Q cy vs w'.H) :
  CA J g0 (tT K cj t) ta τ acc w1.H Q:=by
 refine⟨λi m τ acc H'=>m=ds.length-i/\i<=ds.length/\∃w' accD xs,w'.H=H'/\Le K w1 w'/\aM K w'/\bP K w' env τ/\aq K w' accD acc/\iG g t act env (ds.drop i) w'.aI=some (.ok xs,s')/\acc.length+xs.length<=sizeLine /\
   (∀w2 cy vs,Le K w' w2->aM K w2->w2.aI=s'->bP K w2 env cy->aq K w2 (accD++xs) vs->Q cy vs w2.H),
  ⟨ds.length,rfl,Nat.zero_le _,w1,accD,xs,rfl,Le.refl _,S1,eo,da,h,hl,hQ⟩,?_⟩
 rintro i m τ acc H' ⟨rfl,hi,w',accD,xs,rfl,l',S',iM,ve,h',lG,lr⟩
 by_cases bg:i<ds.length
 ·right
  obtain⟨fM,hy⟩:=(hJ w' l' S' i).1 _ (List.getElem?_eq_getElem bg)
  rw[List.drop_eq_getElem_cons bg] at h'
  simp only[iG] at h'
  cases hg:g ds[i] env with
  |none=>rw[hg] at h';cases h'
  |some iD =>
   rw[hg] at h'
   obtain⟨b,s2,hb,h2⟩:=nN h'
   have hb:=wR hb
   refine⟨fM,fun τ acc H2=>∃w' accD xs,w'.H=H2/\Le K w1 w'/\aM K w'/\bP K w' env τ/\aq K w' accD acc/\iG g t act env (ds.drop (i+1)) w'.aI=some (.ok xs,s')/\acc.length+xs.length<=sizeLine /\
    (∀w2 cy vs,Le K w' w2->aM K w2->w2.aI=s'->bP K w2 env cy->aq K w2 (accD++xs) vs->Q cy vs w2.H),fun mW uK H2 q=>⟨ds.length-(i+1),by omega,rfl,bg,q⟩,λx H3 y=>?_⟩
   obtain⟨w2,rfl,l2,S2,es,dv⟩:=hy x H3 y
   refine T.imp _ _ _ _ ⟨w2,env,ds[i],iD,rfl,S2,iM.le l2,dv,hg,fun kj jJ=>⟨w2,iD,rfl,S2,jJ,?_⟩⟩
   have hlen:∀{jF:St},jF.length=kj.length->iD.length=jF.length:=λe=>by rw[jJ.len,e]
   have el:env.length=iD.length\/True:=.inr trivial
   rw[es,hb]
   intro w3 l3 S3 e3
   cases b with
   |true =>
    rw[if_pos rfl] at h2 |-
    obtain⟨ys,s3,vf,h3⟩:=nN h2
    have vf:=wR vf
    obtain⟨zs,s4,hz,h4⟩:=nN h3
    cases h4
    rw[<- e3] at vf
    refine hA w3 iD kj acc accD ys s3 _ (hp _ _ hg) S3 (jJ.le l3) ((l2.trans l3).all ve) vf (by rw[List.length_append] at lG;omega) λw4 Tt vs l4 S4 e4 Gy FR=>?_
    have lv:=FR.length
    refine⟨w4,accD++ys,zs,rfl,l'.trans (l2.trans (l3.trans l4)),S4,Gy.back hs hf hg ?_,FR,by rw[e4];exact hz,?_,λw5 zL zM l5 S5 e5 zN yI=>lr w5 zL zM (l2.trans (l3.trans (l4.trans l5))) S5 e5 zN (by rw[<- List.append_assoc];exact yI)⟩
    ·rw[<- Gy.len]
     exact(len_same hs hg).symm
    ·rw[List.length_append] at lG lv
     have:=ve.length
     omega
   |false =>
    rw[if_neg Bool.false_ne_true] at h2 |-
    exact⟨w3,accD,xs,rfl,l'.trans (l2.trans l3),S3,(jJ.le l3).back hs hf hg (by rw[<- jJ.len];exact(len_same hs hg).symm),(l2.trans l3).all ve,by rw[e3];exact h2,lG,λw5 zL zM l5 S5 e5 zN yI=>lr w5 zL zM (l2.trans (l3.trans l5)) S5 e5 zN yI⟩
 ·left
  have e:i=ds.length:=by omega
  subst e
  rw[List.drop_length] at h'
  cases h'
  exact⟨(hJ w' l' S' _).2 (Nat.le_refl _),lr w' τ acc (Le.refl _) S' rfl iM (by rw[List.append_nil];exact ve)⟩
theorem vC {K:Frag} {Pre Pre':Env->Prop} {g0:TG} {g:D->Env->Option Env} {nt:Nat} {sl:List Nat} {it:Env->ae->Res (List D)} {t:Env->ae->Res Bool} {act:Env->ae->Res (List D)} {ta:hV} (T:Tg K g0 g nt) (hs:Sl g sl) (hA:qq K Pre ta act)
  (h1:∀env,Pre' env->fX sl env) (h2:∀d env aE,Pre' env->g d env=some aE->Pre aE):qq K Pre' (E9 (dC K cj it) g0 (tT K cj t) ta) (more it g t act):=by
 intro w env τ acc accD xs s' Q hp S eo da h hl hQ
 obtain⟨ds,s1,hd,h3⟩:=nN h
 refine⟨w,env,rfl,S,eo,?_⟩
 rw[hd]
 intro w1 l1 S1 e1 J hJ
 exact BV T hs (h1 env hp) (λd aE hg=>h2 d env aE hp hg) hA hJ S1 (eo.le l1) (l1.all da) (by rw[e1];exact h3) hl λw' cy vs l' S' e' iM aw=>hQ w' cy vs (l1.trans l') S' e' iM aw
theorem BW {K:Frag} {Ξ:Wd->bq->Prop} {Pre:Env->Prop} {nt:Nat} {cap:List Nat} {it:Env->ae->Res (List D)} {g0:TG} {g:D->Env->Option Env} {sl:List Nat} {t:Env->ae->Res Bool} {act:Env->ae->Res (List D)} {ta:hV} (T:Tg K g0 g nt) (hs:Sl g sl) (nj:∀i∈sl,i<nt) (hA:qq K Pre ta act)
  (hp:∀d caps aE,g d (List.replicate nt none++caps)=some aE->Pre aE) (σ:St) (H:Hp) (Q:VK) :
  tE K Ξ (pY nt cap it g t act) σ H Q->En (dC K Ξ it) nt cap g0 (tT K cj t) ta σ H Q:=by
 rintro ⟨w,env,rfl,S,eo,h⟩
 refine⟨w,env,rfl,S,eo,(Out.au h).mono λw1 ds l1 S1 h1 J hJ=>?_⟩
 cases hr:iG g t act (List.replicate nt none++fx cap env) ds w1.aI with
 |none=>rw[hr] at h1;exact h1.elim
 |some r =>
  obtain⟨r,s'⟩:=r
  rw[hr] at h1
  cases r with
  |error x=>exact h1.elim
  |ok xs =>
   have h1:Out K Ξ w1 (gG xs (ok (D.lst xs) s')) (λw' d=>∀v,DV K w' d v->Q v w'.H):=h1
   obtain⟨hz,h1⟩:=pJ h1
   have eb:=(eo.le l1).block nt cap (List.replicate nt none) (by simp)
   refine BV T hs (λi hi d e=>?_) (λd aE hg=>hp d _ aE hg) hA hJ S1 eb (accD:=[]) rfl hr (by simpa using hz) λw' cy vs l' S' e' iM aw p vh=>?_
   ·rw[List.getElem?_append_left (by simpa using nj i hi),List.getElem?_replicate,if_pos (nj i hi)] at e
    cases e
   ·exact h1 (w'.grow p (.lst vs)) (l'.trans (Fw.grow vh).le) (S'.grow vh) e' (.ref p) ⟨p,vs,rfl,⟨(show ¬ w'.Z p from nZ S' vh),dE⟩,(Fw.grow vh).le.all aw⟩
theorem fX.of {nt:Nat} {g:D->Env->Option Env} {sl cG:List Nat} (hs:Sl g sl) (hd:∀i∈cG,i<nt/\i∉sl) {d:D} {caps aE:Env} (hg:g d (List.replicate nt none++caps)=some aE):fX cG aE:=λi hi x e=>by
 obtain⟨h1,h2⟩:=hd i hi
 rw[(hs _ _ _ hg).2 i h2,List.getElem?_append_left (by simpa using h1),List.getElem?_replicate,if_pos h1] at e
 cases e
theorem fX.on {g:D->Env->Option Env} {sl cG:List Nat} (hs:Sl g sl) (hd:∀i∈cG,i∉sl) {d:D} {env aE:Env} (hf:fX cG env) (hg:g d env=some aE):fX cG aE:=λi hi x e=>by
 rw[(hs _ _ _ hg).2 i (hd i hi)] at e
 exact hf i hi x e
section
variable {X:Cx} {Ξ:Wd->bq->Prop} {el tg src jf hX pf mO:Expr} {tests j7 pZ:List Expr} {sc:Scope} {ps pos:Pos} {N:List Str} {nt:Nat} {cap:List Nat} {it ij vi:Env->ae->Res (List D)} {gd ph zO:D->Env->Option Env} {g0 vj Gz:TG} {sl cG rG:List Nat} {ft jc GA:Env->ae->Res Bool} {f:Env->ae->Res D}
noncomputable abbrev Ep (nt:Nat) (cap:List Nat) (it:Env->ae->Res (List D)) (g:D->Env->Option Env) (t:Env->ae->Res Bool) (ij:Env->ae->Res (List D)) (g2:D->Env->Option Env) (t2:Env->ae->Res Bool) (f:Env->ae->Res D):Env->ae->Res D:=pY nt cap it g t (more ij g2 t2 (emit f))
noncomputable abbrev Er (nt:Nat) (cap:List Nat) (it:Env->ae->Res (List D)) (g:D->Env->Option Env) (t:Env->ae->Res Bool) (ij:Env->ae->Res (List D)) (g2:D->Env->Option Env) (t2:Env->ae->Res Bool) (vi:Env->ae->Res (List D)) (g3:D->Env->Option Env) (t3:Env->ae->Res Bool) (f:Env->ae->Res D):Env->ae->Res D:=pY nt cap it g t (more ij g2 t2 (more vi g3 t3 (emit f)))
noncomputable def apart (nt:Nat) (sl cG:List Nat):Bool:=cG.all (λi=>decide (i<nt)&&!sl.contains i)
theorem nO {nt:Nat} {sl cG:List Nat} (h:apart nt sl cG=true):∀i∈cG,i<nt/\i∉sl:=λi hi=>by
 have:=List.all_eq_true.mp h i hi
 simp only[Bool.and_eq_true,decide_eq_true_eq,Bool.not_eq_true',List.contains_eq_mem,decide_eq_false_iff_not] at this
 exact this
noncomputable abbrev FT (e el:Expr) (d:Nat):PySem.Env->Addr->Addr->Sem PySem.Fin:=λce D it=>(do let _ <- call (.builtin "list.append") [.ref D,<- eval el ce]:Sem Unit) >>= λ_=>again (.compLoop e d (.ref it) (.ref D) ce)
noncomputable abbrev yJ (e src:Expr) (d:Nat):PySem.Env->Addr->Addr->Sem PySem.Fin:=λce D it=>do
 let x <- eval src ce
 standAt src.pos
 let x <- foldedSetIterable src ce x
 let _ <- runOwn (.compStart e (d+1) (<- holding [x] (pyIter x)) (.ref D) ce) ce
 again (.compLoop e d (.ref it) (.ref D) ce)
theorem Ml (hc:X.calm=true) (S:pT X sc N nt cap) (T:Tg X.K g0 gd nt) (fL:Sl gd sl) (T2:Tg X.K vj ph nt) (dw:Sl ph cG) (hi:PI X tg src (dC X.K Ξ it))
  (hY:∀(cl:List (Str×Addr)) (C:Addr) (s:Shared) (H:Hp) (ex:List Addr) (pn:List (Addr×Obj)),PG (dh X N sc cl C s H ex pn) tg g0/\PF (dh X N sc cl C s H ex pn) tests (tT X.K cj ft)/\PI (dh X N sc cl C s H ex pn) jf hX (dC X.K cj ij)/\PG (dh X N sc cl C s H ex pn) jf vj/\PF (dh X N sc cl C s H ex pn) j7 (tT X.K cj jc)/\PE (dh X N sc cl C s H ex pn) el (tE X.K cj f))
  (oV:apart nt sl cG=true:=by rfl) (oW:apart nt [] sl=true:=by rfl)
  (hs:∀x,foldedSetIterable src X.env x=pure x:=by intro _;rfl) (zP:∀ce x,foldedSetIterable hX ce x=pure x:=by intro _ _;rfl):PE X (.ListComp el [⟨tg,src,tests,0⟩,⟨jf,hX,j7,0⟩] sc ps) (tE X.K Ξ (Ep nt cap it gd ft ij ph jc f)) :=
 cH (CF (act:=yJ (.ListComp el [⟨tg,src,tests,0⟩,⟨jf,hX,j7,0⟩] sc ps) hX 0) hc S T.je hi (λcl C s H ex pn=>by
   obtain⟨y1,y2,y3,y4,y5,y6⟩:=hY cl C s H ex pn
   exact⟨y1,y2,λD caps it=>wb (d:=1) (act:=λlF=>FT (.ListComp el [⟨tg,src,tests,0⟩,⟨jf,hX,j7,0⟩] sc ps) el 1 _ D lF) rfl hc rfl y3 y4 T2.je y5 (λlF=>CD rfl y6) (λ_=>rfl) (zP _)⟩) (λ_ _ _=>rfl) hs)
  (BW (Pre:=fX cG) T fL (λi hi=>(nO oW i hi).1) (vC T2 dw A9 (λ_ h=>h) (λ_ _ _ _ _=>trivial)) λd caps aE hg=>fX.of fL (nO oV) hg)
theorem Mm (hc:X.calm=true) (S:pT X sc N nt cap) (T:Tg X.K g0 gd nt) (fL:Sl gd sl) (T2:Tg X.K vj ph nt) (dw:Sl ph cG) (T3:Tg X.K Gz zO nt) (RA:Sl zO rG) (hi:PI X tg src (dC X.K Ξ it))
  (hY:∀(cl:List (Str×Addr)) (C:Addr) (s:Shared) (H:Hp) (ex:List Addr) (pn:List (Addr×Obj)),PG (dh X N sc cl C s H ex pn) tg g0/\PF (dh X N sc cl C s H ex pn) tests (tT X.K cj ft)/\PI (dh X N sc cl C s H ex pn) jf hX (dC X.K cj ij)/\PG (dh X N sc cl C s H ex pn) jf vj/\PF (dh X N sc cl C s H ex pn) j7 (tT X.K cj jc) /\
   PI (dh X N sc cl C s H ex pn) pf mO (dC X.K cj vi)/\PG (dh X N sc cl C s H ex pn) pf Gz/\PF (dh X N sc cl C s H ex pn) pZ (tT X.K cj GA)/\PE (dh X N sc cl C s H ex pn) el (tE X.K cj f))
  (oV:apart nt sl cG=true:=by rfl) (RB:apart nt sl rG=true:=by rfl) (RC:apart nt cG rG=true:=by rfl) (oW:apart nt [] sl=true:=by rfl)
  (hs:∀x,foldedSetIterable src X.env x=pure x:=by intro _;rfl) (zP:∀ce x,foldedSetIterable hX ce x=pure x:=by intro _ _;rfl) (RD:∀ce x,foldedSetIterable mO ce x=pure x:=by intro _ _;rfl):PE X (.ListComp el [⟨tg,src,tests,0⟩,⟨jf,hX,j7,0⟩,⟨pf,mO,pZ,0⟩] sc ps) (tE X.K Ξ (Er nt cap it gd ft ij ph jc vi zO GA f)) :=
 cH (CF (act:=yJ (.ListComp el [⟨tg,src,tests,0⟩,⟨jf,hX,j7,0⟩,⟨pf,mO,pZ,0⟩] sc ps) hX 0) hc S T.je hi (λcl C s H ex pn=>by
   obtain⟨y1,y2,y3,y4,y5,y6,y7,y8,y9⟩:=hY cl C s H ex pn
   exact⟨y1,y2,λD caps it=>wb (d:=1) (act:=λlF=>yJ (.ListComp el [⟨tg,src,tests,0⟩,⟨jf,hX,j7,0⟩,⟨pf,mO,pZ,0⟩] sc ps) mO 1 _ D lF) rfl hc rfl y3 y4 T2.je y5 (λlF=>wb (d:=2) (act:=λij=>FT (.ListComp el [⟨tg,src,tests,0⟩,⟨jf,hX,j7,0⟩,⟨pf,mO,pZ,0⟩] sc ps) el 2 _ D ij) rfl hc rfl y6 y7 T3.je y8 (λij=>CD rfl y9) (λ_=>rfl) (RD _)) (λ_=>rfl) (zP _)⟩) (λ_ _ _=>rfl) hs)
  (BW (Pre:=λenv=>fX cG env/\fX rG env) T fL (λi hi=>(nO oW i hi).1) (vC T2 dw (vC (Pre':=fX rG) T3 RA A9 (λ_ h=>h) (λ_ _ _ _ _=>trivial)) (λ_ h=>h.1) (λd env aE h hg=>fX.on dw (λi hi=>(nO RC i hi).2) h.2 hg)) λd caps aE hg=>⟨fX.of fL (nO oV) hg,fX.of fL (nO RB) hg⟩)
end
end DI
namespace L2
open PySem PySem.Spec PyProof.Rows
end L2
namespace HT
open PySem PyProof.Rows
def yK (A:Around) (s:Shared) (y x:Value) (b:Bool):Prop:=∀(prog:Program) (w:World) (E:Value->Shared->Prop) (Q:Value->Shared->Prop),Q (.bool b) s->wpAny (model prog w) A (richCompare .Lt y x) Q E s
inductive gU (A:Around) (s:Shared):List Value->List Value->Bool->Prop where
 |nn:gU A s [] [] false
 |nc (y:Value) (ys:List Value):gU A s [] (y::ys) true
 |cn (x:Value) (xs:List Value):gU A s (x::xs) [] false
 |eq {x y:Value} {xs ys:List Value} {b:Bool}:SeqAt.EqAt A s x y true->gU A s xs ys b->gU A s (x::xs) (y::ys) b
 |lt {x y:Value} {xs ys:List Value} {b:Bool}:SeqAt.EqAt A s x y false->yK A s x y b->gU A s (x::xs) (y::ys) b
section
open PySem.SeqAt
open PySem.AutoSeq1 (wpAny_loadPart')
open PySem.MeetsSeq PySem.MeetsSeq2 PySem.MeetsSeq3
theorem IQ (l b:Addr) (items j8:Array Value) (n n2:Nat) (dd lj:Option Addr) (sl cG:Array (Option Value)) (jM:Bool) :
  Meets (Builtin.«tuple.__lt__» ⟨[.ref l,.ref b],[]⟩)
   (λA R s=>s.heap.get? l=some { cls:=.type "tuple",dict:=dd,data:=.seq items n,slots:=sl }/\s.heap.get? b=some { cls:=.type "tuple",dict:=lj,data:=.seq j8 n2,slots:=cG } /\
    gU A.in1 s items.toList j8.toList jM/\R (.ok (.ret (.bool jM))) s) :=
 .of_wp λprog w A R s h=>by
  obtain⟨hp,g,d,tk,os⟩:=s;obtain⟨hl,hb,hA,h⟩:=h
  have f2:=AutoSeq1.sub_tuple_tuple
  wp_walk using wpAny_loadPart' hl,wpAny_loadPart' hb,wpAny_forIn_list _ (λrest b s'=>b.1=none/\s'=⟨hp,g,d,tk,os⟩/\∃(vs ws:List Value),rest=vs.zip ws /\
   gU A.in1 ⟨hp,g,d,tk,os⟩ vs ws jM/\vs.length+j8.size=ws.length+items.size) _
  case turn =>
   rintro ⟨y,x⟩ rest b s' ⟨fK,rfl,vs,ws,hz,ha,hlen⟩
   cases ha with
   |nn=>cases hz
   |nc _ _=>cases hz
   |cn _ _=>cases hz
   |eq he hr =>
    rw[List.zip_cons_cons] at hz
    injection hz with zQ Ff
    injection zQ with hy hx
    subst hy hx
    simp only[List.length_cons] at hlen
    refine wpAny_bind (he prog w _ _ ?_)
    wp_walk
    exact⟨rfl,rfl,_,_,Ff,hr,by omega⟩
   |lt he hr =>
    rw[List.zip_cons_cons] at hz
    injection hz with zQ Ff
    injection zQ with hy hx
    subst hy hx
    refine wpAny_bind (he prog w _ _ ?_)
    have RE:=hr prog w
    wp_walk using RE
    exact⟨_,rfl,by simpa using h⟩
  case fin =>
   rintro ⟨b1,b2⟩ s' ⟨fK,rfl,vs,ws,hz,ha,hlen⟩
   simp only at fK
   subst fK
   have hv:jM=decide (items.size<j8.size):=by
    cases ha with
    |nn=>simp only[List.length_nil] at hlen;exact(decide_eq_false (by omega)).symm
    |nc _ _=>simp only[List.length_nil,List.length_cons] at hlen;exact(decide_eq_true (by omega)).symm
    |cn _ _=>simp only[List.length_nil,List.length_cons] at hlen;exact(decide_eq_false (by omega)).symm
    |eq _ _=>rw[List.zip_cons_cons] at hz;cases hz
    |lt _ _=>rw[List.zip_cons_cons] at hz;cases hz
   rw[hv] at h
   wp_walk
   exact⟨_,rfl,by simpa [Builtin.Tuple.tupleCompareSizes] using h⟩
  case h =>
   exact⟨rfl,rfl,items.toList,j8.toList,rfl,hA,by simp only[Array.length_toList];omega⟩
end
end HT
namespace HT
open PySem PyProof.Rows PySem.SeqAt PySem.MeetsSeq
section
variable {prog:Program} {w:World} {A:Around} {E:Value->Shared->Prop} {s:Shared}
theorem Ds {l b:Addr} {items j8:Array Value} {jM:Bool} {Q:Value->Shared->Prop} (hl:IsTup s.heap l items) (hb:IsTup s.heap b j8) (hA:∀A':Around,A'.units<=A.units+4->gU A' s items.toList j8.toList jM)
  (hu:A.units<cLine) (h:Q (.bool jM) s):wpAny (model prog w) A (richCompare .Lt (.ref l) (.ref b)) Q E s:=by
 obtain⟨⟨cls,dd,data,sl⟩,ho,hc,n,hd⟩:=id hl
 obtain⟨⟨FG,lj,data2,cG⟩,iJ,lp,n2,hd2⟩:=id hb
 simp only at hc hd lp hd2
 subst hc hd lp hd2
 refine richCompare_meets_room (op:=.Lt) ⟨_,ho,rfl⟩ ⟨_,iJ,rfl⟩ PySem.F.slot_tuple_lt PySem.F.entry_tuple_lt (PySem.F.args_tuple_lt_2 _ _) (IQ l b items j8 n n2 dd lj sl cG jM)
  ⟨ho,iJ,hA _ ?_,show Value.bool jM≠Value.notImplemented/\Q (.bool jM) s from ⟨(λx=>nomatch x),h⟩⟩ hu
 show A.units+1<=A.units+4
 omega
end
end HT
namespace DI
open PySem L2 HT
mutual
noncomputable def gM:D->D->Option Bool
 | .int i,.int j=>some (decide (i<j))
 | .str x,.str y=>some (decide (x.cps.toList<y.cps.toList))
 | .tup xs,.tup ys=>hZ xs ys
 |_,_=>none
noncomputable def hZ:List D->List D->Option Bool
 | [],[]=>some false
 | [],_::_=>some true
 |_::_,[]=>some false
 |x::xs,y::ys=>if beq x y=true then hZ xs ys else gM x y
end
section
variable {X:Cx} {Ξ:Wd->bq->Prop} {pins:List (Addr×Obj)} {σ:St} {s:Shared} {w:Wd}
theorem O7 (I:Inv X pins σ w.H s) (A:Around) {x y:D} {v u:V} {vx vy:Value} (lx:lay x=true) (ly:lay y=true) (hu:A.units+dep x<cLine) (hx:DV X.K w x v) (hy:DV X.K w y u) (rx:RelV v vx) (ry:RelV u vy):SeqAt.EqAt A s vx vy (beq x y):=by
 obtain⟨as,r1⟩:=(hx.py (lM _ lx)).reads I rx
 obtain⟨bs,r2⟩:=(hy.py (lM _ ly)).reads I ry
 obtain⟨p1,p2⟩:=iR _ lx
 obtain⟨q1,q2⟩:=iR _ ly
 have:=SeqAt.eqAt_reads _ _ A s vx vy as bs r1 r2 p1 q1 (by rw[p2];omega)
 rw[n5 _ _ lx ly] at this
 exact this
mutual
theorem Fg (I:Inv X pins σ w.H s):∀(A:Around) (x y:D) (b:Bool) (v u:V) (vx vy:Value),gM x y=some b->lay x=true->lay y=true->A.units+5*dep x+5<cLine->DV X.K w x v->DV X.K w y u->RelV v vx->RelV u vy->yK A s vx vy b
 |A,.int i,.int j,b,v,u,vx,vy,h,_,_,_,hx,hy,rx,ry=>by
  cases h;cases hx;cases hy
  obtain⟨t,rfl⟩:=rx
  obtain⟨t',rfl⟩:=ry
  intro prog w E Q q
  exact Cs A s i t j t' prog w E Q q
 |A,.str i,.str j,b,v,u,vx,vy,h,_,_,hu,hx,hy,rx,ry=>by
  cases h;cases hx;cases hy
  obtain⟨t,rfl⟩:=rx
  obtain⟨t',rfl⟩:=ry
  intro prog w E Q q
  exact(PyProof.Rows.lt_str q:wpAny (model prog w) A (compareOp .Lt (.str i t) (.str j t')) Q E s)
 |A,.tup xs,.tup ys,b,v,u,vx,vy,h,lx,ly,hu,hx,hy,rx,ry=>by
  simp only[gM] at h
  simp only[DV] at hx hy
  obtain⟨a,as,rfl,ha,ik⟩:=hx
  obtain⟨c,cs,rfl,hc,RF⟩:=hy
  cases rx;cases ry
  obtain⟨its,r1,p1,_⟩:=I.tuple ha
  obtain⟨mG,r2,p2,_⟩:=I.tuple hc
  intro prog w' E Q q
  simp only[dep] at hu
  exact Ds p1 p2 (λA' Tu=>by
   have:=Es I A' xs ys b as cs its mG h (by simpa [lay] using lx) (by simpa [lay] using ly) (by omega) ik RF r1 r2
   simpa using this) (by omega) q
 |_,.aA,_,_,_,_,_,_,h,_,_,_,_,_,_,_=>by cases h
 |_,.bl _,_,_,_,_,_,_,h,_,_,_,_,_,_,_=>by cases h
 |_,.lst _,_,_,_,_,_,_,h,_,_,_,_,_,_,_=>by cases h
 |_,.bp _,_,_,_,_,_,_,h,_,_,_,_,_,_,_=>by cases h
 |_,.aj _,_,_,_,_,_,_,h,_,_,_,_,_,_,_=>by cases h
 |_,.ty _,_,_,_,_,_,_,h,_,_,_,_,_,_,_=>by cases h
 |_,.bC _,_,_,_,_,_,_,h,_,_,_,_,_,_,_=>by cases h
 |_,.int _,.aA,_,_,_,_,_,h,_,_,_,_,_,_,_=>by cases h
 |_,.int _,.bl _,_,_,_,_,_,h,_,_,_,_,_,_,_=>by cases h
 |_,.int _,.str _,_,_,_,_,_,h,_,_,_,_,_,_,_=>by cases h
 |_,.int _,.tup _,_,_,_,_,_,h,_,_,_,_,_,_,_=>by cases h
 |_,.int _,.lst _,_,_,_,_,_,h,_,_,_,_,_,_,_=>by cases h
 |_,.int _,.bp _,_,_,_,_,_,h,_,_,_,_,_,_,_=>by cases h
 |_,.int _,.aj _,_,_,_,_,_,h,_,_,_,_,_,_,_=>by cases h
 |_,.int _,.ty _,_,_,_,_,_,h,_,_,_,_,_,_,_=>by cases h
 |_,.int _,.bC _,_,_,_,_,_,h,_,_,_,_,_,_,_=>by cases h
 |_,.str _,.aA,_,_,_,_,_,h,_,_,_,_,_,_,_=>by cases h
 |_,.str _,.bl _,_,_,_,_,_,h,_,_,_,_,_,_,_=>by cases h
 |_,.str _,.int _,_,_,_,_,_,h,_,_,_,_,_,_,_=>by cases h
 |_,.str _,.tup _,_,_,_,_,_,h,_,_,_,_,_,_,_=>by cases h
 |_,.str _,.lst _,_,_,_,_,_,h,_,_,_,_,_,_,_=>by cases h
 |_,.str _,.bp _,_,_,_,_,_,h,_,_,_,_,_,_,_=>by cases h
 |_,.str _,.aj _,_,_,_,_,_,h,_,_,_,_,_,_,_=>by cases h
 |_,.str _,.ty _,_,_,_,_,_,h,_,_,_,_,_,_,_=>by cases h
 |_,.str _,.bC _,_,_,_,_,_,h,_,_,_,_,_,_,_=>by cases h
 |_,.tup _,.aA,_,_,_,_,_,h,_,_,_,_,_,_,_=>by cases h
 |_,.tup _,.bl _,_,_,_,_,_,h,_,_,_,_,_,_,_=>by cases h
 |_,.tup _,.int _,_,_,_,_,_,h,_,_,_,_,_,_,_=>by cases h
 |_,.tup _,.str _,_,_,_,_,_,h,_,_,_,_,_,_,_=>by cases h
 |_,.tup _,.lst _,_,_,_,_,_,h,_,_,_,_,_,_,_=>by cases h
 |_,.tup _,.bp _,_,_,_,_,_,h,_,_,_,_,_,_,_=>by cases h
 |_,.tup _,.aj _,_,_,_,_,_,h,_,_,_,_,_,_,_=>by cases h
 |_,.tup _,.ty _,_,_,_,_,_,h,_,_,_,_,_,_,_=>by cases h
 |_,.tup _,.bC _,_,_,_,_,_,h,_,_,_,_,_,_,_=>by cases h
theorem Es (I:Inv X pins σ w.H s):∀(A:Around) (xs ys:List D) (b:Bool) (vs us:List V) (ps qs:List Value),hZ xs ys=some b->dR xs=true->dR ys=true->A.units+5*cJ xs+5<cLine->aq X.K w xs vs->aq X.K w ys us->Vals vs ps->Vals us qs->gU A s ps qs b
 |A,[],[],b,vs,us,ps,qs,h,_,_,_,hx,hy,rx,ry=>by
  cases h;cases hx;cases hy;cases rx;cases ry
  exact .nn
 |A,[],y::ys,b,vs,us,ps,qs,h,_,_,_,hx,hy,rx,ry=>by
  cases h;cases hx;cases rx
  obtain⟨u,r,rfl,_,_⟩:=hy
  cases ry
  exact .nc _ _
 |A,x::xs,[],b,vs,us,ps,qs,h,_,_,_,hx,hy,rx,ry=>by
  cases h;cases hy;cases ry
  obtain⟨u,r,rfl,_,_⟩:=hx
  cases rx
  exact .cn _ _
 |A,x::xs,y::ys,b,vs,us,ps,qs,h,lx,ly,hu,hx,hy,rx,ry=>by
  obtain⟨v,r,rfl,dx,dr⟩:=hx
  obtain⟨u,r',rfl,dy,RG⟩:=hy
  simp only[dR,Bool.and_eq_true] at lx ly
  simp only[cJ] at hu
  have m1:=Nat.le_max_left (dep x) (cJ xs)
  have m2:=Nat.le_max_right (dep x) (cJ xs)
  cases rx with
  |cons rx RH =>
   cases ry with
   |cons ry RJ =>
    have he:=O7 I A lx.1 ly.1 (by omega) dx dy rx ry
    simp only[hZ] at h
    split at h
    ·rename_i hb
     rw[hb] at he
     exact .eq he (Es I A xs ys b _ _ _ _ h lx.2 ly.2 (by omega) dr RG RH RJ)
    ·rename_i hb
     rw[Bool.not_eq_true] at hb
     rw[hb] at he
     exact .lt he (Fg I A x y b _ _ _ _ h lx.1 ly.1 (by omega) dx dy rx ry)
end
noncomputable def jB (x y:D) (s:ae):Res D:=if (lay x&&lay y&&decide (dep x<=30))=true then bx ((gM x y).map D.bl) s else none
theorem uQ {k:Nat} (hr:cq k X.A):bh X (compareOp .Lt) (rO X.K Ξ jB):=by
 rintro pins s σ H x y v u Q I rx ry ⟨w,dx,dy,rfl,S,hx,hy,h⟩
 unfold jB at h
 split at h
 ·rename_i hl
  simp only[Bool.and_eq_true,decide_eq_true_eq] at hl
  obtain⟨d,e,h⟩:=dW h
  cases hb:gM dx dy with
  |none=>rw[hb] at e;cases e
  |some b =>
   rw[hb] at e
   cases e
   exact Fg I X.A dx dy b x y v u hb hl.1.1 hl.1.2 (by have:=hr.un;have:=hl.2;have:cLine=9900:=rfl;omega) hx hy rx ry _ _ _ _ ⟨.bl b,w.H,I,rfl,aG S h _ rfl⟩
 ·exact h.elim
end
end DI
namespace DI
open PySem L2
section
variable {X:Cx} {Ξ:Wd->bq->Prop} {e:Expr} {p pos Tv Tw P6 Tb:Pos} {f:Env->ae->Res D}
end
end DI
namespace DI
open PySem L2
noncomputable def pC:List D->ae->Res D:=bb 2 2 (az (bS (aF (e2 jB (aa 1) (eB eQ (af (aa 0) ai)))) (aS (e2 ar (aa 0) (aa 1))) cu) (aS (eC (.int 0))))
noncomputable def sO:List D->ae->Res D:=bb 2 3 (az (aO (ax pC (af (aa 0) (af (aa 1) ai))) (gN 2)) (aS (eNew (af (eB mq (af (eC (.int 0)) (af (e2 qh (aa 2) (e2 ui (eC (.int 10)) (eC (.int 18)))) ai))) (af (e2 ke (aa 2) (eC (.int 2147483647))) ai)))))
noncomputable def ba:List D->ae->Res D:=bb 2 4 (az (bS (aF (e2 uM (e2 ar (aa 0) (eC (.int 0))) (eC (.int 0)))) (az (aO (e2 ke (e2 ar (aa 0) (eC (.int 0))) (aa 1)) (gN 2)) (az (fT (e2 qj (e2 ar (aa 0) (eC (.int 0))) (aa 1)) (aa 0) (eC (.int 0))) (aS (aa 2)))) cu) (az (fT (e2 ke (e2 cI (e2 gW (e2 ar (aa 0) (eC (.int 1))) (eC (.int 48271))) (eC (.int 29))) (eC (.int 2147483647))) (aa 0) (eC (.int 1))) (az (aO (e2 ke (e2 cI (e2 cI (e2 gW (e2 ar (aa 0) (eC (.int 1))) (e2 ar (aa 0) (eC (.int 1)))) (e2 gW (eC (.int 39373)) (e2 ar (aa 0) (eC (.int 1))))) (eC (.int 7))) (eC (.int 2147483629))) (gN 3)) (az (aO (e2 ke (e2 cI (e2 gW (aa 3) (aa 3)) (e2 gW (eC (.int 16807)) (aa 3))) (eC (.int 2147483587))) (gN 3)) (aS (e2 ke (e2 qj (aa 3) (eC (.int 8))) (aa 1)))))))
noncomputable def kH:List D->ae->Res D:=bb 2 3 (az (aO (e2 cI (eC (.int 1)) (ax ba (af (aa 0) (af (eC (.int 4)) ai)))) (gN 2)) (aS (eB cv (af (aW 1 [0,2] (bF (af (aa 1) ai)) (gN 0) (aF (e2 aQ (ax ba (af (aa 1) (af (e2 cI (aa 2) (eC (.int 1))) ai))) (eC (.int 0)))) (aa 0)) ai))))
noncomputable def gS:Nat->List D->ae->Res D
 |0=>λ_ _=>none
 |n+1=>bb 2 2 (az (bS (cR (e1 qy (aa 1))) (az (bS (fW (aF (e2 eO (eB cE (af (aa 0) (af (eC (.ty "tuple")) ai))) (eB cE (af (aa 1) (af (eC (.ty "tuple")) ai))))) (aF (e2 eO (eB cE (af (aa 0) (af (eC (.ty "list")) ai))) (eB cE (af (aa 1) (af (eC (.ty "list")) ai)))))) (aS (eC (.bl false))) cu) (aS (de (e2 aQ (eB eQ (af (aa 0) ai)) (eB eQ (af (aa 1) ai))) (eB mM (af (aW 2 [] (mI (af (aa 0) (af (aa 1) ai))) (gT [gN 0,gN 1]) cx (ax (gS n) (af (aa 0) (af (aa 1) ai)))) ai))))) cu) (aS (de (e2 aQ (eB cE (af (aa 0) (af (eC (.ty "bool")) ai))) (eB cE (af (aa 1) (af (eC (.ty "bool")) ai)))) (e2 aQ (aa 0) (aa 1)))))
noncomputable def lL:List D->ae->Res D:=bb 1 1 (aS (eB mM (af (aW 2 [] (mI (af (aa 0) (af (jL (aa 0) (jz (eC (.int 1))) jK) ai))) (gT [gN 0,gN 1]) cx (e2 jB (aa 0) (aa 1))) ai)))
noncomputable def vD:List D->ae->Res D:=bb 1 1 (aS (de (eB cE (af (aa 0) (af (eC (.ty "int")) ai))) (de (mH (eB cE (af (aa 0) (af (eC (.ty "bool")) ai)))) (e2 uN (aa 0) (eC (.int 0))))))
noncomputable def nI:List D->ae->Res D:=bb 2 2 (aS (de (ax vD (af (aa 0) ai)) (e2 jB (aa 0) (aa 1))))
noncomputable def pH:List D->ae->Res D:=bb 1 1 (aS (ax nI (af (aa 0) (af (eC (.int (8))) ai))))
noncomputable def pB:List D->ae->Res D:=bb 1 1 (aS (de (eB cE (af (aa 0) (af (eC (.ty "tuple")) ai))) (de (eB mM (af (aW 1 [] (bo (aa 0)) (gN 0) cx (ax pH (af (aa 0) ai))) ai)) (ax lL (af (aa 0) ai)))))
end DI
namespace ST
open PySem PySem.W PyProof.Rows
structure Ord (α:Type) where
 lt:α->α->Bool
 zR:∀a,lt a a=false
 tr:∀a b c,lt a b=true->lt b c=true->lt a c=true
 rH:∀a b,lt a b=false->lt b a=false->a=b
section
variable {α:Type} (O:Ord α)
def Ord.le (a b:α):Prop:=O.lt b a=false
variable {O}
theorem Ord.le_refl (a:α):O.le a a:=O.zR a
theorem Ord.le_of_lt {a b:α} (h:O.lt a b=true):O.le a b:=by
 unfold Ord.le
 cases hb:O.lt b a with
 |false=>rfl
 |true=>have:=O.tr _ _ _ h hb;rw[O.zR] at this;cases this
theorem Ord.ot {a b c:α} (h:O.le a b) (g:O.le b c):O.le a c:=by
 unfold Ord.le at *
 cases hc:O.lt c a with
 |false=>rfl
 |true =>
  cases hb:O.lt a b with
  |true=>have:=O.tr _ _ _ hc hb;rw[g] at this;cases this
  |false =>
   have e:=O.rH a b hb h
   subst e
   rw[g] at hc;cases hc
theorem Ord.Fh {a b:α} (h:O.le a b) (g:O.le b a):a=b:=O.rH _ _ g h
end
noncomputable def ok {β:Type} (c:Nat->Nat->Bool) (n:Nat):KasT β->(β->Prop)->Prop
 | .ret a,Q=>Q a
 | .ask i j k,Q=>i<n/\j<n/\ok c n (k (c i j)) Q
theorem iQ {β:Type} {c:Nat->Nat->Bool} {n:Nat} {Q R:β->Prop}:∀{t:KasT β},ok c n t Q->(∀a,Q a->R a)->ok c n t R
 | .ret a,h,i=>i a h
 | .ask _ _ k,h,i=>⟨h.1,h.2.1,iQ (t:=k _) h.2.2 i⟩
theorem nS {β γ:Type} {c:Nat->Nat->Bool} {n:Nat} {f:β->KasT γ} {Q:γ->Prop}:∀{t:KasT β},ok c n t (λa=>ok c n (f a) Q)->ok c n (t.bind f) Q
 | .ret _,h=>h
 | .ask _ _ k,h=>⟨h.1,h.2.1,nS (t:=k _) h.2.2⟩
theorem Fi {β:Type} {c:Nat->Nat->Bool} {n:Nat} {cmp:Nat->Nat->(Bool->Shared->Prop)->Shared->Prop} {s:Shared} (hc:∀i j C,i<n->j<n->C (c i j) s->cmp i j C s) {Q:β->Shared->Prop}:∀{t:KasT β},ok c n t (λa=>Q a s)->t.kasWp cmp Q s
 | .ret _,h=>h
 | .ask _ _ k,h=>hc _ _ _ h.1 h.2.1 (Fi hc (t:=k _) h.2.2)
section
variable {α:Type} {O:Ord α} {x:Nat->α} {n:Nat}
noncomputable def ky (x:Nat->α) (p:Array Nat) (i:Nat):α:=x (p.getD i 0)
def Pm (n:Nat) (p:Array Nat):Prop:=p.size=n/\p.toList.Perm (List.range n)
def Up (O:Ord α) (f:Nat->α) (k:Nat):Prop:=∀i j,i<j->j<k->O.le (f i) (f j)
def Dn (O:Ord α) (f:Nat->α) (k:Nat):Prop:=∀i j,i<j->j<k->O.le (f j) (f i)
theorem Up.more {f:Nat->α} {k:Nat} (h:Up O f k) (hk:1<=k) (h1:O.le (f (k-1)) (f k)):Up O f (k+1):=λi j dH hj=>by
 by_cases e:j=k
 ·subst e
  by_cases e':i=j-1
  ·subst e';exact h1
  ·exact Ord.ot (h i (j-1) (by omega) (by omega)) h1
 ·exact h i j dH (by omega)
theorem Dn.more {f:Nat->α} {k:Nat} (h:Dn O f k) (hk:1<=k) (h1:O.le (f k) (f (k-1))):Dn O f (k+1):=λi j dH hj=>by
 by_cases e:j=k
 ·subst e
  by_cases e':i=j-1
  ·subst e';exact h1
  ·exact Ord.ot h1 (h i (j-1) (by omega) (by omega))
 ·exact h i j dH (by omega)
theorem Pm.lt {p:Array Nat} (h:Pm n p) {i:Nat} (hi:i<n):p.getD i 0<n:=by
 have hs:i<p.size:=by rw[h.1];exact hi
 have:p[i]∈p.toList:=by simp
 have e:p.getD i 0=p[i]:=by simp[Array.getD,hs]
 rw[e]
 exact List.mem_range.mp (h.2.mem_iff.mp this)
theorem Pm.rev {p:Array Nat} (h:Pm n p) (i j:Nat):Pm n (kas_rev p i j):=⟨by rw[kas_rev_size];exact h.1,(Array.perm_iff_toList_perm.mp (mirror_perm p i j _)).trans h.2⟩
theorem Pm.RK {p:Array Nat} (h:Pm n p) (i j:Nat):Pm n (bubble p i j):=⟨by rw[bubble_size];exact h.1,(Array.perm_iff_toList_perm.mp (bubble_perm p i j)).trans h.2⟩
theorem pQ {p q:Array Nat} {i j:Nat} (h:p[i]?=q[j]?):p.getD i 0=q.getD j 0:=by
 rw[Array.getD_eq_getD_getElem?,Array.getD_eq_getD_getElem?,h]
theorem xq {p:Array Nat} {i j:Nat} (hj:j<=p.size) (k:Nat):ky x (kas_rev p i j) k=if i<=k/\k<j then ky x p (i+j-1-k) else ky x p k:=by
 have e:=getElem?_mirror_all (i:=i) hj k
 unfold ky kas_rev
 split<;>rename_i h
 ·rw[if_pos h] at e;rw[pQ e]
 ·rw[if_neg h] at e;rw[pQ e]
theorem Et {p:Array Nat} {k d:Nat} (hk:k<p.size) (hd:d<=k) (i:Nat):ky x (bubble p k d) i=if i=k-d then ky x p k else if k-d<i/\i<=k then ky x p (i-1) else ky x p i:=by
 have e:=getElem?_bubble hk d hd i
 by_cases h:i=k-d
 ·rw[if_pos h] at e |-;exact congrArg x (pQ e)
 ·rw[if_neg h] at e |-
  by_cases h2:k-d<i/\i<=k
  ·rw[if_pos h2] at e |-;exact congrArg x (pQ e)
  ·rw[if_neg h2] at e |-;exact congrArg x (pQ e)
theorem Dt {p:Array Nat} {i j:Nat} (hj:j<=p.size) (he:∀k,i<=k->k<j->ky x p k=ky x p (j-1)):ky x (kas_rev p i j)=ky x p:=funext λk=>by
 rw[xq hj]
 split
 ·rw[he _ (by omega) (by omega),he k (by omega) (by omega)]
 ·rfl
noncomputable abbrev asks (O:Ord α) (x:Nat->α) (i j:Nat):Bool:=O.lt (x i) (x j)
theorem xr {p:Array Nat} (hp:Pm n p):∀(f m:Nat),1<=m->m+f<=n->Up O (ky x p) m->ok (asks O x) n (kas_asc p f m) λr=>m<=r/\r<=m+f/\Up O (ky x p) r/\(r<m+f->O.lt (ky x p r) (ky x p (r-1))=true)
 |0,m,h1,h2,hu=>⟨Nat.le_refl _,Nat.le_refl _,hu,λz=>absurd z (Nat.lt_irrefl _)⟩
 |f+1,m,h1,h2,hu=>by
  refine⟨hp.lt (by omega),hp.lt (by omega),?_⟩
  show ok _ _ (if O.lt (ky x p m) (ky x p (m-1))=true then _ else _) _
  cases hc:O.lt (ky x p m) (ky x p (m-1)) with
  |true =>
   rw[if_pos rfl]
   exact⟨Nat.le_refl _,by omega,hu,λ_=>hc⟩
  |false =>
   rw[if_neg Bool.false_ne_true]
   refine iQ (xr hp f (m+1) (by omega) (by omega) (hu.more h1 hc)) λr hr=>⟨by omega,by omega,hr.2.2.1,λz=>hr.2.2.2 (by omega)⟩
structure DS (O:Ord α) (x:Nat->α) (n:Nat) (p:Array Nat) (m q:Nat):Prop where
 pm:Pm n p
 q1:q+1<=m
 mn:m<=n
 dn:Dn O (ky x p) m
 bl:∀k,m-(q+1)<=k->k<m->ky x p k=ky x p (m-1)
theorem DS.turn {p:Array Nat} {m q:Nat} (D:DS O x n p m q):Pm n (kas_rev p (m-(q+1)) m)/\ky x (kas_rev p (m-(q+1)) m)=ky x p :=
 ⟨D.pm.rev _ _,Dt (by rw[D.pm.1];exact D.mn) D.bl⟩
theorem tw:∀(f:Nat) (p:Array Nat) (m q:Nat),m+f<=n->DS O x n p m q->ok (asks O x) n (kas_desc f p m q) λr=>m<=r.2.1/\DS O x n r.1 r.2.1 r.2.2
 |0,p,m,q,_,D=>⟨Nat.le_refl _,D⟩
 |f+1,p,m,q,hm,D=>by
  have q1:=D.q1
  refine⟨D.pm.lt (by omega),D.pm.lt (by omega),?_⟩
  show ok _ _ (if O.lt (ky x p m) (ky x p (m-1))=true then _ else _) _
  cases hc:O.lt (ky x p m) (ky x p (m-1)) with
  |true =>
   rw[if_pos rfl]
   have one:∀p',Pm n p'->ky x p'=ky x p->DS O x n p' (m+1) 0:=λp' h1 h2=>⟨h1,by omega,by omega,by rw[h2];exact D.dn.more (by omega) (Ord.le_of_lt hc),λk k1 k2=>by rw[show k=m+1-1 by omega]⟩
   by_cases hq:q > 0
   ·rw[if_pos hq]
    exact iQ (tw f _ (m+1) 0 (by omega) (one _ D.turn.1 D.turn.2)) λr hr=>⟨by omega,hr.2⟩
   ·rw[if_neg hq]
    exact iQ (tw f _ (m+1) 0 (by omega) (one _ D.pm rfl)) λr hr=>⟨by omega,hr.2⟩
  |false =>
   rw[if_neg Bool.false_ne_true]
   refine⟨D.pm.lt (by omega),D.pm.lt (by omega),?_⟩
   show ok _ _ (if O.lt (ky x p (m-1)) (ky x p m)=true then _ else _) _
   cases hd:O.lt (ky x p (m-1)) (ky x p m) with
   |true =>
    rw[if_pos rfl]
    exact⟨Nat.le_refl _,D⟩
   |false =>
    rw[if_neg Bool.false_ne_true]
    have e:ky x p m=ky x p (m-1):=O.rH _ _ hc hd
    refine iQ (tw f p (m+1) (q+1) (by omega) ⟨D.pm,by omega,by omega,D.dn.more (by omega) (by rw[e];exact Ord.le_refl _),λk k1 k2=>?_⟩) λr hr=>⟨by omega,hr.2⟩
    show _=ky x p m
    by_cases hk:k=m
    ·rw[hk]
    ·rw[D.bl k (by omega) (by omega),e]
theorem Du {p:Array Nat} {m:Nat} (hp:Pm n p) (h1:1<=m) (hm:m<=n) (hd:Dn O (ky x p) m):ok (asks O x) n (kas_tail3 m n p) λr=>1<=r.1/\r.1<=n/\Pm n r.2/\Up O (ky x r.2) r.1:=by
 refine nS ?_
 have hu:Up O (ky x (kas_rev p 0 m)) m:=λi j dH hj=>by
  rw[xq (by rw[hp.1];exact hm),xq (by rw[hp.1];exact hm),if_pos ⟨by omega,by omega⟩,if_pos ⟨by omega,hj⟩]
  exact hd _ _ (by omega) (by omega)
 exact iQ (xr (hp.rev 0 m) (n-m) m h1 (by omega) hu) λr hr=>⟨by show 1<=r;omega,by show r<=n;omega,hp.rev 0 m,hr.2.2.1⟩
theorem Ba {p:Array Nat} {m:Nat} (hp:Pm n p) (h1:1<=m) (hm:m+1<=n) (hd:Dn O (ky x p) (m+1)):ok (asks O x) n (kas_descPart m n p) λr=>1<=r.1/\r.1<=n/\Pm n r.2/\Up O (ky x r.2) r.1:=by
 refine nS (iQ (tw (n-(m+1)) p (m+1) 0 (by omega) ⟨hp,by omega,hm,hd,λk k1 k2=>by rw[show k=m+1-1 by omega]⟩) λr hr=>?_)
 obtain⟨h2,D⟩:=hr
 split
 ·exact Du D.turn.1 (by have:=D.q1;omega) D.mn (by rw[D.turn.2];exact D.dn)
 ·exact Du D.pm (by have:=D.q1;omega) D.mn D.dn
theorem KR {p:Array Nat} (hp:Pm n p) (hn:1<=n):ok (asks O x) n (kas_count n p) λr=>1<=r.1/\r.1<=n/\Pm n r.2/\Up O (ky x r.2) r.1:=by
 refine nS (iQ (xr hp (n-1) 1 (Nat.le_refl _) (by omega) λi j dH hj=>by omega) λm hm=>?_)
 obtain⟨h1,h2,h3,h4⟩:=hm
 split
 ·rename_i e
  rw[beq_iff_eq] at e
  exact⟨h1,by omega,hp,h3⟩
 ·rename_i e
  have gv:m≠n:=λz=>e (by rw[z];exact beq_self_eq_true n)
  have hs:=h4 (by omega)
  split
  ·refine⟨hp.lt (by omega),hp.lt (by omega),?_⟩
   show ok _ _ (if O.lt (ky x p 0) (ky x p (m-1))=true then _ else _) _
   cases hc:O.lt (ky x p 0) (ky x p (m-1)) with
   |true =>
    rw[if_pos rfl]
    exact⟨h1,by omega,hp,h3⟩
   |false =>
    rw[if_neg Bool.false_ne_true]
    have cZ:∀k,0<=k->k<m->ky x p k=ky x p (m-1):=λk _ hk=>by
     have a1:O.le (ky x p k) (ky x p (m-1)):=by
      by_cases e:k=m-1
      ·rw[e];exact Ord.le_refl _
      ·exact h3 k (m-1) (by omega) (by omega)
     have a2:O.le (ky x p (m-1)) (ky x p k):=by
      by_cases e:k=0
      ·rw[e];exact hc
      ·exact Ord.ot hc (h3 0 k (by omega) hk)
     exact Ord.Fh a1 a2
    have hk:=Dt (x:=x) (p:=p) (i:=0) (j:=m) (by rw[hp.1];omega) cZ
    refine Ba (hp.rev 0 m) h1 (by omega) ?_
    rw[hk]
    refine Dn.more (λi j dH hj=>?_) h1 (Ord.le_of_lt hs)
    rw[cZ i (by omega) (by omega),cZ j (by omega) hj]
    exact Ord.le_refl _
  ·refine Ba hp h1 (by omega) (Dn.more (λi j dH hj=>by omega) h1 (Ord.le_of_lt hs))
theorem we {p:Array Nat} {k:Nat} (hp:Pm n p) (hk:k<n) (hu:Up O (ky x p) k):∀(f l r:Nat),r-l<=f->l<=r->r<=k->(∀i,i<l->O.le (ky x p i) (ky x p k))->(∀i,r<=i->i<k->O.le (ky x p k) (ky x p i)) ->
  ok (asks O x) n (kas_place p k f l r) λm=>m<=k/\(∀i,i<m->O.le (ky x p i) (ky x p k))/\(∀i,m<=i->i<k->O.le (ky x p k) (ky x p i))
 |0,l,r,hf,hl,hr,a,b=>⟨by omega,a,λi hi=>b i (by omega)⟩
 |f+1,l,r,hf,hl,hr,a,b=>by
  unfold kas_place
  by_cases h:l ≥ r
  ·rw[if_pos h]
   exact⟨by omega,a,λi hi=>b i (by omega)⟩
  ·rw[if_neg h]
   refine⟨hp.lt hk,hp.lt (by omega),?_⟩
   show ok _ _ (if O.lt (ky x p k) (ky x p ((l+r) / 2))=true then _ else _) _
   cases hc:O.lt (ky x p k) (ky x p ((l+r) / 2)) with
   |true =>
    rw[if_pos rfl]
    refine we hp hk hu f l ((l+r) / 2) (by omega) (by omega) (by omega) a λi hi mY=>?_
    by_cases e:i=(l+r) / 2
    ·rw[e];exact Ord.le_of_lt hc
    ·exact Ord.ot (Ord.le_of_lt hc) (hu _ _ (by omega) mY)
   |false =>
    rw[if_neg Bool.false_ne_true]
    refine we hp hk hu f ((l+r) / 2+1) r (by omega) (by omega) hr (λi hi=>?_) b
    by_cases e:i=(l+r) / 2
    ·rw[e];exact hc
    ·exact Ord.ot (hu _ _ (by omega) (by omega)) hc
theorem Eu:∀(f:Nat) (p:Array Nat) (k:Nat),Pm n p->k+f=n->Up O (ky x p) k->ok (asks O x) n (kas_bin f p k) λq=>Pm n q/\Up O (ky x q) n
 |0,p,k,hp,hk,hu=>⟨hp,by rw[<- hk];exact hu⟩
 |f+1,p,k,hp,hk,hu=>by
  refine nS (iQ (we hp (by omega) hu k 0 k (by omega) (Nat.zero_le _) (Nat.le_refl _) (λi hi=>by omega) λi h1 h2=>by omega) λm hm=>?_)
  obtain⟨h1,h2,h3⟩:=hm
  refine Eu f _ (k+1) (hp.RK _ _) (by omega) λi j dH hj=>?_
  have hz:k<p.size:=by rw[hp.1];omega
  have ek:k-(k-m)=m:=by omega
  rw[Et hz (by omega),Et hz (by omega),ek]
  by_cases i1:i=m
  ·rw[if_pos i1,if_neg (by omega),if_pos (by omega)]
   exact h3 _ (by omega) (by omega)
  ·rw[if_neg i1]
   by_cases i2:m<i/\i<=k
   ·rw[if_pos i2,if_neg (by omega),if_pos (by omega)]
    exact hu _ _ (by omega) (by omega)
   ·rw[if_neg i2]
    by_cases j1:j=m
    ·rw[if_pos j1];exact h2 _ (by omega)
    ·rw[if_neg j1]
     by_cases j2:m<j/\j<=k
     ·rw[if_pos j2]
      by_cases e:i=j-1
      ·rw[e];exact Ord.le_refl _
      ·exact hu _ _ (by omega) (by omega)
     ·rw[if_neg j2];exact hu _ _ dH (by omega)
theorem Mn (hn:1<=n):ok (asks O x) n (kas_sort n) λq=>Pm n q/\Up O (ky x q) n:=by
 refine nS (iQ (KR (p:=List.toArray (List.range n)) ⟨by simp,by simp⟩ hn) λr hr=>?_)
 obtain⟨h1,h2,h3,h4⟩:=hr
 split
 ·rw[Nat.max_eq_left h1]
  exact Eu _ _ _ h3 (by omega) h4
 ·rw[show r.1=n by omega] at h4
  exact⟨h3,h4⟩
end
end ST
namespace ST
open PySem PySem.W PyProof.Rows
section
variable {α:Type} {O:Ord α} {x:Nat->α} {prog:Program} {w:World} {A:Around} {E:Value->Shared->Prop} {s:Shared}
def uR (prog:Program) (w:World) (A:Around) (O:Ord α) (x:Nat->α) (us:List Value) (t:Shared):Prop :=
 wpAny (model prog w) A (keyKind' us.toArray) (fun κ t'=>t'=t/\∀i j (C:Bool->Shared->Prop),i<us.length->j<us.length->C (O.lt (x i) (x j)) t->wpAny (model prog w) A (keyLt' κ (us.getD i Value.none) (us.getD j Value.none)) C (λ_ _=>False) t) (λ_ _=>False) t
theorem HC {b:Addr} {us:List Value} {m:Nat} {R:PySem.Fin->Shared->Prop} (hb:s.heap.get? b=some (seqObj "list" us.toArray m)) (hz:us.length<64)
  (hk:2<=us.length->∀h1,(∀c o,c≠b->s.heap.get? c=some o->h1.get? c=some o)->uR prog w A O x us { s with heap:=h1 })
  (hR:∀(q:Array Nat) h' e,Pm us.length q->Up O (ky x q) us.length->(∀c o,c≠b->s.heap.get? c=some o->h'.get? c=some o)->h'.get? b=some (seqObj "list" (q.toList.map λi=>us.getD i Value.none).toArray e)->R (.done (.ret .none)) { s with heap:=h' }) :
  wpAny (model prog w) A (Builtin.«list.sort» ⟨[.ref b],[]⟩) R E s:=by
 have bg:b<s.heap.objs.size:=Heap.lt_size hb
 have line:us.length<=sizeLine:=by rw[sizeLine_eq];omega
 obtain⟨e1,zj⟩:∃e1,(s.heap.update b (Obj.mapSeq λ_=>(#[]:Array Value))).get? b=some (seqObj "list" #[] e1):=⟨_,get?_update_seq hb λ_=>#[]⟩
 generalize hg:((s.heap.update b (Obj.mapSeq λ_=>(#[]:Array Value))).push (seqObj "tuple" us.toArray 0)).push (seqObj "list" #[] 0)=h2
 have nk:h2.get? b=some (seqObj "list" #[] e1):=by rw[<- hg];exact Heap.get?_push_of_some _ (Heap.get?_push_of_some _ zj)
 have old:∀c o,c≠b->s.heap.get? c=some o->h2.get? c=some o:=λc o hc e=>by
  rw[<- hg]
  exact Heap.get?_push_of_some _ (Heap.get?_push_of_some _ (by rw[Heap.get?_update_ne _ _ _ _ hc];exact e))
 have last:∀(q:Array Nat),Pm us.length q->Up O (ky x q) us.length->R (.done (.ret .none)) { s with heap:=h2.update b (Obj.mapSeq λ_=>(q.toList.map λi=>us.getD i Value.none).toArray) }:=λq h1 h3 =>
  hR q _ _ h1 h3 (λc o hc e=>by rw[Heap.get?_update_ne _ _ _ _ hc];exact old c o hc e) (get?_update_seq nk λ_=>(q.toList.map λi=>us.getD i Value.none).toArray)
 rw[list_sort_plain]
 refine wpAny_bind (listItems_at hb rfl (wpAny_bind (listUpdate_at hb rfl ?_ (by rw[List.size_toArray];exact line) (Nat.zero_le _))))
 refine wpAny_bind (seqEpoch_at zj rfl (wpAny_bind (wpAny_newTuple (wpAny_bind (wpAny_newList (wpAny_holding ?_) (Nat.zero_le _))) (by show us.length<=_;exact line))))
 show wpAny (model prog w) A _ R E { s with heap:=_ }
 rw[hg]
 dsimp only
 by_cases lH:us.toArray.size<2
 ·rw[if_pos lH,if_pos lH]
  refine wpAny_bind (wpAny_pure ?_)
  rw[StateT.run_pure]
  refine wpAny_bind (wpAny_pure ?_)
  dsimp only
  have eo:(us.toArray.zip us.toArray).map (·.2)=((List.toArray (List.range us.length)).toList.map λi=>us.getD i Value.none).toArray:=by
   rw[List.size_toArray] at lH
   match us,lH with
   | [],_=>exact Array.toList_inj.mp (by simp)
   | [u],_=>exact Array.toList_inj.mp (by simp)
  refine wpAny_bind (seqEpoch_at nk rfl (wpAny_bind (listUpdate_at nk rfl ?_ (Nat.zero_le _) ?_)))
  ·simp only[bne_self_eq_false,Bool.false_eq_true,if_false]
   show wpAny _ _ _ _ _ { s with heap:=h2.update b (Obj.mapSeq λ_=>(us.toArray.zip us.toArray).map (·.2)) }
   rw[eo]
   refine wpAny_pure (last _ ⟨by simp,by simp⟩ λi j dH hj=>?_)
   rw[List.size_toArray] at lH
   omega
  ·show ((us.toArray.zip us.toArray).map (·.2)).size<=sizeLine+1
   simp
   omega
 ·rw[if_neg lH,if_neg lH]
  rw[List.size_toArray] at lH
  refine wpAny_bind (wpAny_mono (hk (by omega) h2 old) (fun κ t ht=>?_) λ_ _ z=>z.elim)
  obtain⟨rfl,ht⟩:=ht
  have tree:(kas_sort us.length).kasWp (kas_ask prog w A κ us) (λq t=>t={ s with heap:=h2 }/\Pm us.length q/\Up O (ky x q) us.length) { s with heap:=h2 } :=
   Fi (c:=asks O x) (n:=us.length) (λi j C hi hj hC=>ht i j C hi hj hC) (iQ (Mn (by omega)) λq hq=>⟨rfl,hq⟩)
  refine wpAny_bind (wpAny_mono (kat_run (Q:=λcT t=>∃q:Array Nat,q.size=us.length/\arrOf cT=q.map (kas_item (us.toArray.zip us.toArray))/\failedOf cT=none/\t={ s with heap:=h2 }/\Pm us.length q/\Up O (ky x q) us.length)
   rfl (by omega) hz (λq cT t a1 a2 a3 a4=>⟨q,a1,a2,a3,a4⟩) tree) ?_ λ_ _ z=>z)
  rintro ⟨⟨⟩,cT⟩ t ⟨q,hq,RL,hf,rfl,h3,h4⟩
  dsimp only
  rw[kat_snds rfl RL]
  refine wpAny_bind (seqEpoch_at nk rfl (wpAny_bind (listUpdate_at nk rfl ?_ (Nat.zero_le _) ?_)))
  ·rw[hf]
   simp only[bne_self_eq_false,Bool.false_eq_true,if_false]
   exact wpAny_pure (last q h3 h4)
  ·show ((q.toList.map λi=>us.getD i Value.none).toArray).size<=sizeLine+1
   rw[List.size_toArray,List.length_map,Array.length_toList,hq]
   omega
theorem JB {l:Addr} {us:List Value} {Q:Value->Shared->Prop} (hl:s.heap.IsList l us.toArray) (hz:us.length<64)
  (hk:2<=us.length->∀h1,(∀c o,s.heap.get? c=some o->h1.get? c=some o)->uR prog w A.in1.in1 O x us { s with heap:=h1 })
  (hQ:∀(q:Array Nat) h' b e,Pm us.length q->Up O (ky x q) us.length->(∀c o,s.heap.get? c=some o->h'.get? c=some o)->s.heap.objs.size<=b->h'.get? b=some (seqObj "list" (q.toList.map λi=>us.getD i Value.none).toArray e)->Q (.ref b) { s with heap:=h' }) :
  wpAny (model prog w) A (call (.builtin "sorted") [.ref l]) Q E s:=by
 have line:us.length<=sizeLine:=by rw[sizeLine_eq];omega
 refine Calls.call_function_entry kind_sorted plain_sorted entry_sorted (args_sorted1 _) ?_
 unfold Builtin.«sorted»
 refine wpAny_bind (m:=checkCount "sorted" 1 1 _) (wpAny_pure (wpAny_bind (collect_list hl (wpAny_bind (wpAny_newList ?_ line)) line)))
 generalize hg:((s.heap.push (seqObj "list" #[] 0)).update s.heap.objs.size (Obj.mapSeq (·++us.toArray)))=h1
 have rm:h1.objs.size=s.heap.objs.size+1:=by rw[<- hg,Heap.size_update,size_push']
 have yw:∀c o,s.heap.get? c=some o->h1.get? c=some o:=λc o e=>by
  have bg:c<s.heap.objs.size:=Heap.lt_size e
  rw[<- hg,Heap.get?_update_ne _ _ _ _ (Nat.ne_of_lt bg)]
  exact Heap.get?_push_of_some _ e
 show wpAny _ _ _ _ _ { s with heap:=h1.push (seqObj "list" us.toArray 0) }
 have hb:(h1.push (seqObj "list" us.toArray 0)).get? h1.objs.size=some (seqObj "list" us.toArray 0):=Heap.get?_push_size _ rfl
 have old:∀c o,s.heap.get? c=some o->c≠h1.objs.size/\(h1.push (seqObj "list" us.toArray 0)).get? c=some o:=λc o e=>by
  have bg:c<s.heap.objs.size:=Heap.lt_size e
  exact⟨Nat.ne_of_lt (by rw[rm];exact Nat.lt_succ_of_lt bg),Heap.get?_push_of_some _ (yw c o e)⟩
 refine wpAny_bind (wpAny_holding (wpAny_call_entry slot_list_sort ⟨_,hb,rfl⟩ entry_list_sort (HC hb hz (λz h' ho=>hk z h' λc o e=>ho c o (old c o e).1 (old c o e).2) λq h' e h3 h4 ho hq=>⟨_,rfl,?_⟩) (args_list_sort _)))
 exact wpAny_pure ⟨_,rfl,hQ q h' _ e h3 h4 (λc o e=>ho c o (old c o e).1 (old c o e).2) (by show _<=h1.objs.size;rw[rm];exact Nat.le_succ _) hq⟩
end
end ST
namespace ST
open PySem PySem.W PyProof.Rows HT
theorem wU:∀a:List Int,lexLt a a=false:=λa=>by
 induction a with
 |nil=>rfl
 |cons i r ih=>rw[ip,if_pos rfl];exact ih
theorem NQ:∀a b c:List Int,lexLt a b=true->lexLt b c=true->lexLt a c=true:=λa=>by
 induction a with
 |nil =>
  intro b c h g
  cases b with
  |nil=>cases h
  |cons j s=>cases c with
   |nil=>cases g
   |cons k t=>rfl
 |cons i r ih =>
  intro b c h g
  cases b with
  |nil=>cases h
  |cons j s =>
   cases c with
   |nil=>cases g
   |cons k t =>
    rw[ip] at h g |-
    by_cases e1:i=j
    ·subst e1
     rw[if_pos rfl] at h
     by_cases e2:i=k
     ·rw[if_pos e2] at g |-;exact ih s t h g
     ·rw[if_neg e2] at g |-;exact g
    ·rw[if_neg e1] at h
     have h:=of_decide_eq_true h
     by_cases e2:j=k
     ·subst e2
      rw[if_neg e1];exact decide_eq_true h
     ·rw[if_neg e2] at g
      have g:=of_decide_eq_true g
      rw[if_neg (by omega)];exact decide_eq_true (by omega)
theorem Mo:∀a b:List Int,lexLt a b=false->lexLt b a=false->a=b:=λa=>by
 induction a with
 |nil =>
  intro b h g
  cases b with
  |nil=>rfl
  |cons j s=>cases h
 |cons i r ih =>
  intro b h g
  cases b with
  |nil=>cases g
  |cons j s =>
   rw[ip] at h g
   by_cases e:i=j
   ·subst e
    rw[if_pos rfl] at h g
    rw[ih s h g]
   ·rw[if_neg e] at h
    rw[if_neg (Ne.symm e)] at g
    have h:=of_decide_eq_false h
    have g:=of_decide_eq_false g
    omega
section
variable {prog:Program} {w:World} {A:Around} {E:Value->Shared->Prop} {s:Shared}
inductive kX (h:Heap):List Value->List (List Int)->Prop where
 |nil:kX h [] []
 |cons {a:Addr} {its:Array Value} {ns:List Int} {us:List Value} {gO:List (List Int)}:IsTup h a its->IntsAre its.toList ns->kX h us gO->kX h (.ref a::us) (ns::gO)
theorem kX.keep {h h':Heap} (k:∀c o,h.get? c=some o->h'.get? c=some o) {us:List Value} {gO:List (List Int)} (t:kX h us gO):kX h' us gO:=by
 induction t with
 |nil=>exact .nil
 |cons a b _ ih =>
  obtain⟨o,ho,r⟩:=a
  exact .cons ⟨o,k _ _ ho,r⟩ b ih
theorem kX.at {h:Heap} {us:List Value} {gO:List (List Int)} (t:kX h us gO):∀i,i<us.length->∃a its,us.getD i Value.none=.ref a/\IsTup h a its/\IntsAre its.toList (gO.getD i []):=by
 induction t with
 |nil=>intro i hi;simp at hi
 |cons a b _ ih =>
  intro i hi
  cases i with
  |zero=>exact⟨_,_,rfl,a,b⟩
  |succ i =>
   obtain⟨c,its,e,r⟩:=ih i (by simpa using hi)
   exact⟨c,its,by simpa using e,r⟩
inductive rJ:List (Option Value)->List (List Int)->Prop where
 |nil:rJ [] []
 |aA {fs:List (Option Value)} {gO:List (List Int)}:rJ fs gO->rJ (none::fs) ([]::gO)
 |one {fs:List (Option Value)} {gO:List (List Int)} {n:Int} {t:Tok} {r:List Int}:rJ fs gO->rJ (some (.int n t)::fs) ((n::r)::gO)
noncomputable def ins {α:Type} (O:Ord α) (a:α):List α->List α
 | []=>[a]
 |b::r=>if O.lt b a=true then b::ins O a r else a::b::r
noncomputable def iB {α:Type} (O:Ord α):List α->List α
 | []=>[]
 |a::r=>ins O a (iB O r)
end
section
variable {α:Type} {O:Ord α}
theorem CG (a:α) (l:List α):(ins O a l).Perm (a::l):=by
 induction l with
 |nil=>exact .refl _
 |cons b r ih =>
  unfold ins
  split
  ·exact(List.Perm.cons b ih).trans (List.Perm.swap a b r)
  ·exact .refl _
theorem sx (l:List α):(iB O l).Perm l:=by
 induction l with
 |nil=>exact .refl _
 |cons a r ih=>exact(CG a _).trans (ih.cons a)
theorem NR (a:α) (l:List α) (h:l.Pairwise O.le):(ins O a l).Pairwise O.le:=by
 induction l with
 |nil=>exact List.pairwise_singleton _ _
 |cons b r ih =>
  obtain⟨h1,h2⟩:=List.pairwise_cons.mp h
  unfold ins
  split<;>rename_i hb
  ·refine List.pairwise_cons.mpr ⟨λc hc=>?_,ih h2⟩
   rcases List.mem_cons.mp ((CG a r).mem_iff.mp hc) with e|e
   ·rw[e];exact Ord.le_of_lt hb
   ·exact h1 c e
  ·have hb:O.le a b:=by rw[Bool.not_eq_true] at hb;exact hb
   refine List.pairwise_cons.mpr ⟨λc hc=>?_,h⟩
   rcases List.mem_cons.mp hc with e|e
   ·rw[e];exact hb
   ·exact Ord.ot hb (h1 c e)
theorem CH (l:List α):(iB O l).Pairwise O.le:=by
 induction l with
 |nil=>exact .nil
 |cons a r ih=>exact NR a _ ih
theorem JC:∀{l m:List α},l.Perm m->l.Pairwise O.le->m.Pairwise O.le->l=m:=by
 intro l
 induction l with
 |nil=>intro m h _ _;exact h.nil_eq
 |cons a r ih =>
  intro m h h1 h2
  cases m with
  |nil=>exact absurd h.length_eq (by simp)
  |cons b t =>
   obtain⟨a1,a2⟩:=List.pairwise_cons.mp h1
   obtain⟨b1,b2⟩:=List.pairwise_cons.mp h2
   have e:a=b:=by
    rcases List.mem_cons.mp (h.mem_iff.mp List.mem_cons_self) with e|e
    ·exact e
    ·rcases List.mem_cons.mp (h.mem_iff.mpr List.mem_cons_self) with e'|e'
     ·exact e'.symm
     ·exact Ord.Fh (a1 b e') (b1 a e)
   subst e
   rw[ih h.cons_inv a2 b2]
theorem JD {xs:List α} {d:α} {q:Array Nat} (hp:Pm xs.length q) (hu:Up O (ky (λi=>xs.getD i d) q) xs.length):q.toList.map (λi=>xs.getD i d)=iB O xs:=by
 refine JC ?_ ?_ (CH xs)
 ·refine(hp.2.map _).trans ?_
  have:(List.range xs.length).map (λi=>xs.getD i d)=xs:=by
   apply List.ext_getElem?
   intro i
   by_cases hi:i<xs.length
   ·simp[hi]
   ·simp[hi,Nat.le_of_not_lt hi]
  rw[this]
  exact(sx xs).symm
 ·rw[List.pairwise_iff_getElem]
  intro i j hi hj dH
  have l1:(q.toList.map λi=>xs.getD i d).length=xs.length:=by rw[List.length_map,Array.length_toList,hp.1]
  have RM:j<q.size:=by rw[hp.1];omega
  have pk:i<q.size:=by omega
  have:=hu i j dH (by omega)
  unfold ky at this
  simpa [Array.getD,pk,RM] using this
end
end ST
namespace DI
open PySem L2
section
variable {X:Cx} {Ξ:Wd->bq->Prop} {a e tg:Expr} {p pos:Pos} {f:Env->ae->Res D} {fa:Env->ae->Res (List D)}
noncomputable def my (n:Nat):List D:=(List.range n).map λi:Nat=>D.int ((n:Int)-1-i)
theorem JE (n:Nat):(my n).length=n:=by simp[my]
theorem JF (n i:Nat):(my n)[i]?=if i<n then some (.int ((n:Int)-1-i)) else none:=by
 unfold my
 rw[List.getElem?_map]
 split
 ·rename_i h;rw[List.getElem?_range h];rfl
 ·rename_i h;rw[List.getElem?_eq_none (by simp;omega)];rfl
theorem Ew {K:Frag} {w:Wd} {n:Nat}:m8 K w (uG n) (my n):=λw' l' S' i=>by
 refine⟨λd ed=>?_,λhl=>by rw[JE] at hl;exact hl⟩
 rw[JF] at ed
 split at ed
 ·cases ed
  exact⟨by assumption,λx H' ⟨e1,e2⟩=>⟨w',e1.symm,Le.refl _,S',rfl,e2⟩⟩
 ·cases ed
noncomputable def zS (fa:Env->ae->Res (List D)):Env->ae->Res (List D):=λenv s=>au (fa env s) λds s=>match ds with
 | [.int j]=>if (iz j&&decide (0<=j))=true then ok (my j.toNat) s else none
 |_=>none
theorem O8 {p2 i4:Pos} (hg:Gl X "reversed") (hm:X.mg "reversed"=none) (zy:Gl X "range") (zz:X.mg "range"=none) (ha:PA X [a] (tA X.K Ξ fa))
  (he:starEach [a] X.env=(false,eval a X.env)::starEach [] X.env:=by rfl) (cN:(backTo i4 (starEach [] X.env)).any (·.1)=false:=by rfl)
  (hs:starEach [.Call (.Name "range" p2) [a] [] i4] X.env=[(false,eval (.Call (.Name "range" p2) [a] [] i4) X.env)]:=by rfl)
  (va:starEach [.Call (.Name "range" p2) [a] [] i4] X.env=(false,eval (.Call (.Name "range" p2) [a] [] i4) X.env)::starEach [] X.env:=by rfl) :
  PI X tg (.Call (.Name "reversed" p) [.Call (.Name "range" p2) [a] [] i4] [] pos) (dC X.K Ξ (zS fa)) :=
 n0 (NC hg hm (j3 (vL H0 zy zz (by decide +kernel) ha (by decide) (by decide) he cN) lV va) hs) fun σ H R aC=>by
  obtain⟨w,env,eH,S,eo,h⟩:=aC
  subst eH
  refine⟨w,env,rfl,S,eo,(Out.au h).mono λw1 ds l1 S1 h1 vs aw=>?_⟩
  split at h1
  ·rename_i j
   split at h1
   ·rename_i hj
    simp only[iz,Bool.and_eq_true,decide_eq_true_eq] at hj
    obtain⟨v,r,rfl,dv,dr⟩:=aw
    have e1:v=.int j:=dv
    have e2:r=[]:=dr
    subst e1 e2
    refine⟨j,rfl,λq hq=>?_⟩
    refine⟨q,j.toNat,rfl,?_,by omega,?_⟩
    ·rw[dE,Int.toNat_of_nonneg hj.2]
    ·exact h1 (w1.grow q (.bM 0 j)) (Fw.grow hq).le (S1.grow hq) rfl _ Ew
   ·exact h1.elim
  ·exact h1.elim
end
end DI
namespace L2
open PySem PySem.Spec PyProof.Rows
structure Ey (sc:Scope) (cl fN:List (Str×Addr)) (C:Nat) (h:Heap):Prop where
 old:∀n c,fN.lookup n=some c->(C<c/\(n,NameKind.cell)∈sc.names/\∃v,h.IsCell c v)\/cl.lookup n=some c
 own:∀n,sc.names.lookup n=some .cell\/(cl.lookup n).isSome=true->∃c,fN.lookup n=some c
 inj:(∀x y c,cl.lookup x=some c->cl.lookup y=some c->x=y)->(∀x c,cl.lookup x=some c->c<C)->∀x y c,fN.lookup x=some c->fN.lookup y=some c->x=y
theorem vN {x:Str} {c:Addr}:∀(names:List (Str×NameKind)) (n:Nat) (acc:List (Str×Addr)),(cellsFrom n names acc).lookup x=some c->((x,NameKind.cell)∈names/\n<=c)\/acc.lookup x=some c
 | [],n,acc,h=>.inr h
 |(y,k)::r,n,acc,h=>by
  unfold cellsFrom at h
  split at h
  ·rename_i hk
   have hk:k=.cell:=by simpa using hk
   subst hk
   rcases vN r (n+1) _ h with ⟨h1,h2⟩|h1
   ·exact .inl ⟨List.mem_cons_of_mem _ h1,by omega⟩
   ·rw[List.lookup_cons] at h1
    split at h1
    ·rename_i e
     have e:x=y:=by simpa using e
     subst e
     cases h1
     exact .inl ⟨List.mem_cons_self,Nat.le_refl _⟩
    ·exact .inr h1
  ·rcases vN r n acc h with ⟨h1,h2⟩|h1
   ·exact .inl ⟨List.mem_cons_of_mem _ h1,h2⟩
   ·exact .inr h1
theorem vO:∀(names:List (Str×NameKind)) (n:Nat) (acc:List (Str×Addr)),(∀x y c,acc.lookup x=some c->acc.lookup y=some c->x=y)->(∀x c,acc.lookup x=some c->c<n)->∀x y c,(cellsFrom n names acc).lookup x=some c->(cellsFrom n names acc).lookup y=some c->x=y
 | [],n,acc,hi,hb=>hi
 |(z,k)::r,n,acc,hi,hb=>by
  unfold cellsFrom
  split
  ·refine vO r (n+1) _ (λx y c h1 h2=>?_) λx c h1=>?_
   ·rw[List.lookup_cons] at h1 h2
    split at h1
    ·rename_i e1
     split at h2
     ·rename_i e2
      exact(by simpa using e1:x=z).trans (by simpa using e2:y=z).symm
     ·cases h1
      exact absurd (hb y _ h2) (Nat.lt_irrefl _)
    ·split at h2
     ·cases h2
      exact absurd (hb x _ h1) (Nat.lt_irrefl _)
     ·exact hi x y c h1 h2
   ·rw[List.lookup_cons] at h1
    split at h1
    ·cases h1;exact Nat.lt_succ_self _
    ·exact Nat.lt_succ_of_lt (hb x c h1)
  ·exact vO r n acc hi hb
theorem wg {x:Str} {c:Addr} {lo:Nat}:∀(names:List (Str×NameKind)) (h:Heap) (acc:List (Str×Addr)),lo<=h.objs.size->(∀x c,acc.lookup x=some c->lo<=c->h.IsCell c none)->(cellsFrom h.objs.size names acc).lookup x=some c->lo<=c->(pushCells h names).IsCell c none
 | [],h,acc,_,ha,e,hl=>ha x c e hl
 |(z,k)::r,h,acc,Gi,ha,e,hl=>by
  unfold cellsFrom at e
  unfold pushCells
  split at e
  ·rename_i hk
   rw[if_pos hk]
   have hz:(h.push { cls:=.type "cell",data:=.cell none }).objs.size=h.objs.size+1:=Heap.size_push ..
   refine wg (lo:=lo) r _ ((z,h.objs.size)::acc) (by omega) (λy d hy hd=>?_) (by rw[hz];exact e) hl
   rw[List.lookup_cons] at hy
   split at hy
   ·cases hy
    exact⟨_,Heap.get?_push_size _ rfl,rfl⟩
   ·exact(ha y d hy hd).keeps λb o q=>Heap.get?_push_of_some _ q
  ·rename_i hk
   rw[if_neg hk]
   exact wg r h acc Gi ha e hl
theorem Ho {M:Model} {A:Around} {E:Value->Shared->Prop} {s:Shared} {scope:Scope} {globals:Addr} {cl:List (Str×Addr)} {qual:Str} {env:Env} {bi:Addr} {Q:Env->Shared->Prop}
  (hQ:∀fN h3,((∀x c,cl.lookup x=some c->c<s.heap.objs.size)->Ey scope cl fN s.heap.objs.size h3)->h3.Ns s.heap.objs.size (λ_=>none)->(∀b o,s.heap.get? b=some o->h3.get? b=some o)->Q (newEnv scope s.heap.objs.size globals fN qual none .none (some env) bi) { s with heap:=h3 }) :
  wpAny M A (newFunctionEnv scope globals cl [] qual none .none (some env) bi) Q E s:=by
 simp only[newFunctionEnv,Option.isSome_some,if_true]
 refine wpAny_bind (wpAny_alloc ?_)
 refine wpAny_bind (wpAny_layCells _ (λname kind cells=>by cases RN:kind==NameKind.cell<;>simp[RN]) _ _ _ _ ?_)
 rw[show ({ s with heap:=s.heap.push { cls:=.type "dict",data:=.dict #[] } }:Shared).heap.objs.size=s.heap.objs.size+1 from Heap.size_push ..]
 simp only[List.forIn_nil]
 refine wpAny_bind (wpAny_pure (wpAny_pure ?_))
 have hz:(s.heap.push { cls:=.type "dict",data:=.dict #[] }).objs.size=s.heap.objs.size+1:=Heap.size_push ..
 refine hQ (cellsFrom (s.heap.objs.size+1) scope.names cl) _ (λhb=>⟨λn c e=>?_,λn hn=>?_,λhi fK=>vO _ _ _ hi λx c e=>Nat.lt_succ_of_lt (fK x c e)⟩) ((Heap.Ns.new s.heap (.type "dict")).keeps (pushCells_keeps _ _)) λb o e=>pushCells_keeps _ _ b o (Heap.get?_push_of_some _ e)
 ·rcases vN _ _ _ e with ⟨h1,h2⟩|h1
  ·exact .inl ⟨by omega,h1,none,wg (lo:=s.heap.objs.size+1) scope.names _ cl (by omega) (λx d q hd=>absurd (hb x d q) (Nat.not_lt.mpr (Nat.le_of_succ_le hd))) (by rw[hz];exact e) h2⟩
  ·exact .inr h1
 ·exact Option.isSome_iff_exists.mp (PySem.W.cellsFrom_some scope.names _ cl hn)
noncomputable abbrev dS (X:Cx) (N:List Str) (sc:Scope) (cl:List (Str×Addr)) (C:Addr) (s:Shared) (H:Hp) (ex:List Addr) (pn:List (Addr×Obj)):Cx:={ dh X N sc cl C s H ex pn with fn:=λx=>sc.names.lookup x==some .cell }
structure kO (X:Cx) (sc:Scope) (N:List Str) (nt:Nat) (cap:List Nat):Prop where
 kind:sc.kind=.function
 names:∀x∈sc.names,x.2=.local->sc.names.lookup x.1=some .local
 cells:∀x∈sc.names,x.2=.cell->sc.names.lookup x.1=some .cell
 frees:∀x∈sc.names,x.2=.free->sc.names.lookup x.1=some .free/\(X.env.scope.names.lookup x.1=some .cell\/X.env.scope.names.lookup x.1=some .free)
 len:N.length=nt+cap.length
 yq:∀(k:Nat) j,cap[k]?=some j->∃x,X.N[j]?=some x/\N[nt+k]?=some x/\(x,NameKind.free)∈sc.names
section
variable {X:Cx} {sc:Scope} {N:List Str} {nt:Nat} {cap:List Nat} {cl fN:List (Str×Addr)} {s:Shared} {h1:Heap} {H:Hp} {σ:St} {pins:List (Addr×Obj)} {fp:List Addr} {C:Addr} {t':Nat}
theorem Inv.NS (I:Inv X pins σ H s) (S:kO X sc N nt cap) (cU:∀n c,cl.lookup n=some c↔((n,NameKind.free)∈sc.names/\X.env.cells.lookup n=some c)) (gu:Ey sc cl fN C h1) (hf:∀b∈fp,fC X pins H b) (ig:∀b∈fp,b<s.heap.objs.size)
  (hk:∀b o,s.heap.get? b=some o->h1.get? b=some o) (hC:s.heap.objs.size<=C) (oT:∃m,h1.Ns C m):Inv (dS X N sc fN C s H fp (X.pn++pins)) [] (jo nt cap σ) H { s with heap:=h1,toks:=t' }:=by
 have qd:∀b∈fV X.stack,b∈X.env.locals::X.fs:=I.j5
 have Qz:∀x c,cl.lookup x=some c->c<s.heap.objs.size:=λx c e=>by
  obtain⟨v,o,ho,_⟩:=I.cell x c ((cU x c).mp e).2
  exact Heap.lt_size ho
 have xN:∀x,(relabel sc X.env).names.lookup x=some .cell\/(relabel sc X.env).names.lookup x=some .free->(x,NameKind.free)∈sc.names\/sc.names.lookup x=some .cell:=λx hx=>by
  rw[r6] at hx
  cases e:sc.names.lookup x with
  |none=>rw[e] at hx;rcases hx with z|z<;>cases z
  |some k =>
   have hm:(x,k)∈sc.names:=by
    obtain⟨l1,l2,e1,_⟩:=List.lookup_eq_some_iff.mp e
    rw[e1]
    simp
   rw[e] at hx
   cases k with
   |free=>exact .inl hm
   |cell=>exact .inr rfl
   |_=>exfalso;revert hx;simp
 have wH:∀x,(x,NameKind.free)∈sc.names->∃c,X.env.cells.lookup x=some c:=λx hx=>I.ok.has x (S.frees _ hx rfl).2
 have FU:∀x c,(x,NameKind.free)∈sc.names->X.env.cells.lookup x=some c->fN.lookup x=some c:=λx c hx hc=>by
  have e:=(cU x c).mpr ⟨hx,hc⟩
  obtain⟨d,hd⟩:=gu.own x (.inr (by rw[e];rfl))
  rcases gu.old x d hd with ⟨_,q,_⟩|q
  ·have z1:=S.cells _ q rfl
   have z2:=(S.frees _ hx rfl).1
   dsimp only at z1 z2
   rw[z1] at z2
   cases z2
  ·rw[e] at q
   cases q
   exact hd
 have ok:Cx.Ok (dS X N sc fN C s H fp (X.pn++pins)):=by
  refine⟨I.ok.mod,?_,I.ok.glob,I.ok.blt,hC,?_,?_,?_,I.ok.hd,I.ok.frames,.inl rfl,?_,I.bs,Nat.le_trans I.ok.i6 I.sz,?_,?_,I.stack,I.wB⟩
  ·exact S.kind
  ·exact gu.inj (λx y c hx hy=>I.ok.inj x y c ((cU x c).mp hx).2 ((cU y c).mp hy).2) λx c e=>Nat.lt_of_lt_of_le (Qz x c e) hC
  ·intro x hx
   rcases xN x hx with hm|hm
   ·obtain⟨c,e⟩:=wH x hm
    exact⟨c,FU x c hm e⟩
   ·exact gu.own x (.inl hm)
  ·intro x c hx e
   rcases gu.old x c e with ⟨q,_,_⟩|q
   ·exact Nat.le_trans hC (Nat.le_of_lt q)
   ·have z2:=(S.frees _ ((cU x c).mp q).1 rfl).1
    have z1:sc.names.lookup x=some .cell:=by simpa using hx
    dsimp only at z2
    rw[z1] at z2
    cases z2
  ·intro b hb
   refine⟨Nat.ne_of_lt (Nat.lt_of_lt_of_le (ig b hb) hC),λx c e=>?_⟩
   rcases gu.old x c e with ⟨q,_,_⟩|q
   ·exact Nat.ne_of_gt (Nat.lt_of_lt_of_le (ig b hb) (Nat.le_trans hC (Nat.le_of_lt q)))
   ·exact(hf b hb).2.2.2.2.1 x c ((cU x c).mp q).2
  ·intro b o e hb
   rcases(hf b hb).2.2.2.1 with z|z
   ·exact I.ok.mC b o e z
   ·exact absurd (Nat.lt_of_lt_of_le (Heap.lt_size e) (Nat.le_trans I.ok.i6 z)) (Nat.lt_irrefl _)
  ·intro b hb z
   rcases List.mem_cons.mp (qd b z) with e|e
   ·exact(hf b hb).2.1 e
   ·exact(hf b hb).2.2.1 e
 obtain⟨m,hm⟩:=oT
 obtain⟨mX,QZ,zb⟩:=I.loc
 refine⟨ok,rfl,I.bare,Un.kept hk,⟨m,hm,λi x v e1 e2 e3=>?_⟩,λx c e=>?_,I.aH.fresh hC,λx c e=>?_,λp hp=>?_,I.aH.kept hk,?_⟩
 ·
  have hi:nt<=i:=by
   apply Nat.le_of_not_lt
   intro bg
   have:(jo nt cap σ)[i]?=some none:=by
    unfold jo
    rw[List.getElem?_append_left (by simpa using bg),List.getElem?_replicate,if_pos bg]
   rw[this] at e2
   cases e2
  have jb:(cap.map λj=>(σ[j]?).getD none)[i-nt]?=some (some v):=by
   have e:=e2
   unfold jo at e
   rw[List.getElem?_append_right (by simpa using hi)] at e
   simpa using e
  rw[List.getElem?_map] at jb
  cases ej:cap[i-nt]? with
  |none=>rw[ej] at jb;cases jb
  |some j =>
   rw[ej] at jb
   have ev:(σ[j]?).getD none=some v:=Option.some.inj jb
   have rb:σ[j]?=some (some v):=by
    cases q:σ[j]? with
    |none=>rw[q] at ev;cases ev
    |some z=>rw[q] at ev;exact congrArg some ev
   obtain⟨y,f1,f2,f3⟩:=S.yq _ _ ej
   rw[Nat.add_sub_cancel' hi] at f2
   have zc:y=x:=Option.some.inj (f2.symm.trans e1)
   subst zc
   obtain⟨g1,g2⟩:=S.frees _ f3 rfl
   have zd:qI X.env.scope y:=.inr g2
   obtain⟨u,r,l⟩:=zb j y v f1 rb zd
   refine⟨u,r,.inr ⟨?_,?_⟩⟩
   ·show (relabel sc X.env).names.lookup y=some .cell\/(relabel sc X.env).names.lookup y=some .free
    rw[r6,g1]
    simp only[Option.map_some]
    split
    ·exact .inl rfl
    ·exact .inr rfl
   ·rcases l with ⟨k,_⟩ | ⟨_,c,hc,kQ⟩
    ·exfalso
     have k':X.env.scope.names.lookup y=some .local:=k
     dsimp only at g2
     rw[k'] at g2
     rcases g2 with z|z<;>cases z
    ·obtain⟨oc,ho,hd⟩:=kQ
     exact⟨c,FU y c f3 hc,oc,hk _ _ ho,hd⟩
 ·rcases gu.old x c e with ⟨_,_,q⟩|q
  ·exact q
  ·obtain⟨v,oc,ho,hd⟩:=I.cell x c ((cU x c).mp q).2
   exact⟨v,oc,hk _ _ ho,hd⟩
 ·rcases gu.old x c e with ⟨q,_,_⟩|q
  ·exact I.aH.fresh (by omega)
  ·exact I.dZ x c ((cU x c).mp q).2
 ·have ze:p∈X.pn++pins:=by simpa using hp
  obtain⟨e,n,ne,nf,d⟩:=I.pin p ze
  refine⟨hk _ _ e,n,Nat.ne_of_lt (Nat.lt_of_lt_of_le (Heap.lt_size e) hC),λz=>?_,d⟩
  rcases List.mem_cons.mp (qd p.1 z) with q|q
  ·exact ne q
  ·exact nf q
 ·unfold jo
  rw[List.length_append,List.length_replicate,List.length_map]
  exact S.len.symm
end
section
variable {X:Cx}
theorem Bq {el tg src:Expr} {tests:List Expr} {sc:Scope} {ps:Pos} {N:List Str} {nt:Nat} {cap:List Nat} {wi:TI} {g:TG} {tf:TT} {te:TE} {p1:Pos} {use:Option (Value->Sem Unit)} {R:Value->Shared->Prop} {pins:List (Addr×Obj)} {s:Shared} {σ:St} {H:Hp} {Q:VK} (hc:X.calm=true) (S:kO X sc N nt cap) (fM:kn g nt) (hi:PI X tg src wi)
  (hY:∀(cl:List (Str×Addr)) (C:Addr) (s:Shared) (H:Hp) (ex:List Addr) (pn:List (Addr×Obj)),PG (dS X N sc cl C s H ex pn) tg g/\PF (dS X N sc cl C s H ex pn) tests tf/\PE (dS X N sc cl C s H ex pn) el te)
  (hs:∀x,foldedSetIterable src X.env x=pure x) (I:Inv X pins σ H s) (h:kc wi nt cap g tf te σ H Q)
  (yA:∀(s':Shared) (H1:Hp) (D C:Addr) (m:Str->Option Value),(∀h',Heap.SameBut C s'.heap h'->Inv X pins σ H1 { s' with heap:=h' })->s'.heap.Ns C m->H1 C=none->C≠X.env.locals->C∉X.fs->X.cM.heap.objs.size<=C->(∀x c,X.env.cells.lookup x=some c->c≠C)->(∀p∈X.pn++pins,p.1≠C)->Q (.ref D) H1->compPost (model X.prog X.w) X.A X.xe use R (.ref D) C (.ok .next) s') :
  wpAny (model X.prog X.w) X.A (comprehension (.ListComp el [⟨tg,src,tests,0⟩] sc ps) sc X.env p1 (newList []) false (eval src X.env) use) R X.xe s:=by
 obtain⟨cl,xR,cU⟩:=D8 (env:=X.env) (sc:=sc) λn hn=>I.ok.has n (S.frees _ hn rfl).2
 refine wpAny_comprehension_free (use:=use) rfl hs xR S.kind S.names (aJ (hi pins s σ H _ I h) λxv s1 h1=>aJ h1 λgr s2 h2=>?_)
 obtain⟨it,fp,tn,J,H2,e,I2,T,iH,f2,W,⟨m0,w0⟩,turn⟩:=h2
 subst e
 refine wpAny_newObj_type (Ho λfN h3 ki i5 lC=>?_)
 dsimp only at ki i5 lC |-
 generalize hD:s2.heap.objs.size=D at ki i5 lC |-
 generalize hG:s2.heap.push { cls:=.type "list",dict:=none,data:=.seq ([]:List Value).toArray }=G at ki i5 lC |-
 generalize zH:G.objs.size=C at ki i5 lC |-
 have hC:C=D+1:=by rw[<- zH,<- hG,Heap.size_push,hD]
 have ni:D≠C:=by omega
 have fG:s2.heap.objs.size<=D:=Nat.le_of_eq hD
 have gk:s2.heap.objs.size<=C:=by omega
 have old:∀b o,s2.heap.get? b=some o->h3.get? b=some o:=λb o e=>lC b o (hG ▸ Heap.get?_push_of_some _ e)
 have jv:h3.PlainList D #[]:=⟨_,lC _ _ (hG ▸ hD ▸ Heap.get?_push_size _ rfl)⟩
 have ig:∀b∈fp,b<s2.heap.objs.size:=λb hb=>by
  obtain⟨o,e,_⟩:=T.obj _ _ iH b hb
  exact Heap.lt_size e
 have ki:=ki λx c e=>by
  obtain⟨v,o,ho,_⟩:=I2.cell x c ((cU x c).mp e).2
  exact Nat.lt_of_lt_of_le (Heap.lt_size ho) gk
 have IB:=I2.NS (t':=s2.toks) S cU ki f2 ig old gk ⟨_,i5⟩
 have zI:D∉fV X.stack:=λz=>by
  rcases List.mem_cons.mp (I2.j5 D z) with e|e
  ·exact absurd (Nat.lt_of_lt_of_le I2.lt fG) (by rw[e];exact Nat.lt_irrefl _)
  ·exact I2.qv fG e
 have kA:D∉fp:=λz=>absurd (Nat.lt_of_lt_of_le (ig D z) fG) (Nat.lt_irrefl _)
 have xo:∀x c,fN.lookup x=some c->c≠D:=λx c e z=>by
  rcases ki.old x c e with ⟨q,_,_⟩|e
  ·rw[z] at q
   exact absurd q (by rw[hC];exact Nat.not_lt.mpr (Nat.le_succ D))
  ·obtain⟨v,o,ho,_⟩:=I2.cell x c ((cU x c).mp e).2
   exact absurd (Nat.lt_of_lt_of_le (Heap.lt_size ho) (by rw[z];exact fG)) (Nat.lt_irrefl _)
 have xS:∀p∈X.pn++pins,p.1≠D:=λp hp z=>absurd (Nat.lt_of_lt_of_le (Heap.lt_size (I2.pin p hp).1) (by rw[z];exact fG)) (Nat.lt_irrefl _)
 generalize fO:dS X N sc fN C s2 H2 fp (X.pn++pins)=Y at IB
 have kB:∀{H':Hp} {pl:List (Addr×Obj)},(∀b∈fp,H' b=none)->(∀p∈pl,p.1∉fp)->∀b∈fp,fC Y pl H' b:=λ{H' pl} hn hp b hb=>by
  subst fO
  obtain⟨_,f1,ng,f3,f4,f5⟩:=f2 b hb
  refine⟨hn b hb,Nat.ne_of_lt (Nat.lt_of_lt_of_le (ig b hb) gk),λz=>?_,.inl hb,λx c e=>(ki.old x c e).elim (λq z=>Nat.ne_of_gt (Nat.lt_of_lt_of_le (ig b hb) (Nat.le_trans gk (Nat.le_of_lt q.1))) z) λe=>f4 x c ((cU x c).mp e).2,λp rD=>?_⟩
  ·rcases List.mem_cons.mp (I2.j5 b z) with e|e
   ·exact f1 e
   ·exact ng e
  ·rcases List.mem_append.mp rD with z|z
   ·exact f5 p z
   ·exact λe=>hp p z (e ▸ hb)
 have zJ:PG Y tg g:=by subst fO;exact(hY _ _ _ _ _ _).1
 have zK:PF Y tests tf:=by subst fO;exact(hY _ _ _ _ _ _).2.1
 have RO:PE Y el te:=by subst fO;exact(hY _ _ _ _ _ _).2.2
 have eP:Y.prog=X.prog:=by subst fO;rfl
 have eW:Y.w=X.w:=by subst fO;rfl
 have eA:Y.A=X.A:=by subst fO;rfl
 have eK:Y.K=X.K:=by subst fO;rfl
 have eE:Y.env=compEnvC sc fN C X.env:=by subst fO;rfl
 have eX:Y.xe=λ_ _=>False:=by subst fO;rfl
 have eC:Y.calm=true:=by subst fO;exact hc
 have eS:Y.cM.heap.objs.size<=D:=by subst fO;exact fG
 have eF:D∉Y.fs:=by subst fO;exact zI
 have eL:D≠Y.env.locals:=by subst fO;exact ni
 have RP:∀x c,Y.env.cells.lookup x=some c->c≠D:=by subst fO;exact xo
 have eN:∀p∈Y.pn,p.1≠D:=by subst fO;exact xS
 have fin:∀(s':Shared) (τ:St) (H':Hp) (acc:List V) (ys:Array Value),Inv Y [] τ H' s'->s'.heap.PlainList D ys->Vals acc ys.toList->H' D=none->acc.length<=sizeLine->(∀D,H' D=none->Q (.ref D) (upd H' D (.lst acc))) ->
   compPost (model X.prog X.w) X.A X.xe use R (.ref D) C (.ok .next) s':=by
  intro s' τ H' acc ys I' pl rv hn hz q
  subst fO
  obtain⟨m,hm,_⟩:=id I'.loc
  refine yA s' (upd H' D (.lst acc)) D C m (λh' sb=>?_) hm ?_ (λz=>absurd (Nat.lt_of_lt_of_le I2.lt gk) (by rw[z];exact Nat.lt_irrefl _)) (I2.qv gk) (Nat.le_trans I2.sz gk) (λx c e z=>?_) (λp hp z=>absurd (Nat.lt_of_lt_of_le (Heap.lt_size (I2.pin p hp).1) (by rw[z];exact gk)) (Nat.lt_irrefl _)) (q D hn)
  ·have yH:bX X.prog X.w H' h':=I'.aH.but I'.free sb
   obtain⟨n,ho⟩:=pl
   have dg:h'.get? D=some { cls:=.type "list",data:=.seq ys n }:=(sb.2 D ni).trans ho
   have new:cQ X.prog X.w (upd H' D (.lst acc)) h' D (.lst acc):=⟨hz,ys.toList,n,rv,by simpa using dg⟩
   have u:=(I'.base.but gk sb).adopt (o:=.lst acc) fG hn
   refine I2.xH (s':={ s' with heap:=h' }) (ch:=fp) I'.os u (yH.adopt hn new) I'.bare (λb hb=>?_)
   obtain⟨_,f1,_,f3,f4,f5⟩:=f2 b hb
   exact⟨f3,f1,f4,f5⟩
  ·rw[bt (Ne.symm ni)]
   exact I'.free
  ·obtain⟨v,o,iJ,_⟩:=I2.cell x c e
   exact absurd (Nat.lt_of_lt_of_le (Heap.lt_size iJ) (by rw[z];exact gk)) (Nat.lt_irrefl _)
 have loop:codeAny (model X.prog X.w) X.A (.compLoop (.ListComp el [⟨tg,src,tests,0⟩] sc ps) 0 (.ref it) (.ref D) (compEnvC sc fN C X.env)) (compPost (model X.prog X.w) X.A X.xe use R (.ref D) C)
   { s2 with heap:=h3 }:=by
  refine Iw (λn s'=>∃i acc o H' ys,Inv Y [] (o++kR cap σ) H' s'/\o.length=nt/\tn i s'.heap/\(∀b∈fp,H' b=none)/\s'.heap.PlainList D ys/\Vals acc ys.toList/\H' D=none/\W i n acc H') ?_ m0
   ⟨0,[],List.replicate nt none,H2,#[],IB,by simp,T.keep _ _ _ iH λb _ o e=>old b o e,λb hb=>(f2 b hb).1,jv,.nil,I2.aH.fresh fG,w0⟩
  rintro n s3 ⟨i,acc,o3,H3,ys,I3,GB,k9,lb,RQ,lE,RR,w3⟩
  generalize RS:o3++kR cap σ=τ at I3
  obtain⟨nn,ho⟩:=id RQ
  generalize GC:({ cls:=.type "list",data:=.seq ys nn }:Obj)=oD at ho
  have O9:∀v,oD.data≠.cell v:=λv z=>by subst GC;cases z
  have rE:Inv Y [(D,oD)] τ H3 s3:=I3.j0 λp hp=>by
   have e:p=(D,oD):=by simpa using hp
   subst e
   exact⟨ho,RR,eL,eF,O9⟩
  have nh:∀p∈[(D,oD)],p.1∉fp:=λp hp=>by
   have e:p=(D,oD):=by simpa using hp
   subst e
   exact kA
  have pb:∀{pl:List (Addr×Obj)} {cy:St} {H':Hp} {s':Shared},Inv Y ([(D,oD)]++pl) cy H' s'->s'.heap.PlainList D ys/\H' D=none:=λ{pl cy H' s'} I'=>by
   have q:=I'.pin (D,oD) (List.mem_append_right _ (List.mem_append_left _ (by simp)))
   exact⟨⟨nn,by rw[GC];exact q.1⟩,q.2.1⟩
  rcases turn i n acc H3 w3 with ⟨stop,hz,q⟩ | ⟨go,hz,N',hN,step⟩
  ·have hd:=T.done Y eP eW eK eC i [(D,oD)] s3 τ H3 (λ_ _=>False) rE (kB lb nh) k9 stop
   rw[eA] at hd
   refine aJ hd λr s4 h4=>?_
   obtain⟨hr,I4⟩:=h4
   subst hr
   obtain⟨zF,n4⟩:=pb (pl:=[]) (by simpa using I4)
   exact fin s4 τ H3 acc ys (Inv.jX (pins:=[]) I4) zF lE n4 hz q
  ·have hd:=T.item Y eP eW eK eC i [(D,oD)] s3 τ H3 (λ_ _=>False) rE (kB lb nh) k9 go
   rw[eA] at hd
   refine aJ hd λr s4 h4=>?_
   obtain⟨u,hr,h4⟩:=h4
   subst hr
   refine aJ h4 λ_ s5 h5=>?_
   obtain⟨x,H5,I5,r5,y5,i8,qR⟩:=h5
   have qS:=I5.pinned (kB qR nh) (T.obj _ _ i8)
   have q5:=zJ _ s5 τ H5 x u _ qS r5 (RS ▸ fM x o3 _ H5 _ GB (step o3 x H5 GB y5))
   rw[eP,eW,eA,eE,eX] at q5
   refine aJ q5 λ_ s6 h6=>?_
   obtain⟨pd,H6,I6,⟨o6,rF,uP⟩,q6⟩:=h6
   have q7:=zK _ s6 pd H6 _ I6 q6
   rw[eP,eW,eA,eE,eX] at q7
   refine aJ q7 λb s7 h7=>?_
   obtain⟨H7,I7,q7⟩:=h7
   have qB:∀{cy:St} {H':Hp} {s':Shared},Inv Y ([(D,oD)]++kM fp s5.heap) cy H' s'->tn (i+1) s'.heap/\∀b∈fp,H' b=none:=λ{cy H' s'} I'=>by
    refine⟨T.keep _ _ _ i8 λb hb o e=>(I'.pin (b,o) (List.mem_append_right _ (List.mem_append_right _ (nH hb e)))).1,λb hb=>?_⟩
    obtain⟨o,e,_⟩:=T.obj _ _ i8 b hb
    exact(I'.pin (b,o) (List.mem_append_right _ (List.mem_append_right _ (nH hb e)))).2.1
   cases b with
   |false =>
    rw[if_neg Bool.false_ne_true] at q7 |-
    obtain⟨m',hm,w7⟩:=hN _ _ q7
    obtain⟨vd,n7⟩:=pb I7
    obtain⟨t7,f7⟩:=qB I7
    exact⟨m',hm,i+1,acc,o6,H7,ys,uP ▸ I7.j0 (λp hp=>by simp at hp),rF,t7,f7,vd,lE,n7,w7⟩
   |true =>
    rw[if_pos rfl] at q7 |-
    have q8:=RO _ s7 pd H7 _ I7 q7
    rw[eP,eW,eA,eE,eX] at q8
    refine aJ q8 λy s8 h8=>?_
    obtain⟨v,H8,I8,r8,q9⟩:=h8
    obtain⟨m',hm,w8⟩:=hN _ _ q9
    obtain⟨zB,n8⟩:=pb I8
    obtain⟨t8,f8⟩:=qB I8
    have zC:ys.size<=sizeLine:=by
     have e:=lE.length
     simp only[Array.length_toList] at e
     omega
    refine wpAny_list_append_plain (hsz:=zC) zB λh9 zD vc=>?_
    have zE:Inv Y [] pd H8 s8:=I8.j0 (λp hp=>by simp at hp)
    have I9:Inv Y [] pd H8 { s8 with heap:=h9,toks:=s8.toks }:=zE.turned (it:=D) (λb o hb e=>(vc.2 b hb).trans e) n8 eL (.inr eS) RP (λp hp=>eN p (by simpa using hp))
    refine⟨m',hm,i+1,acc++[v],o6,H8,ys.push y,uP ▸ I9,rF,T.keep _ _ _ t8 λb hb o e=>(vc.2 b (λz=>kA (z ▸ hb))).trans e,f8,zD,?_,n8,w8⟩
    rw[Array.toList_push]
    exact Vals.append lE (.cons r8 .nil)
 exact codeAny_compStart_list loop (T.self _ _ _ _ _ (T.keep _ _ _ iH λb _ o e=>old b o e) loop)
theorem CI {el tg src:Expr} {tests:List Expr} {sc:Scope} {ps:Pos} {N:List Str} {nt:Nat} {cap:List Nat} {wi:TI} {g:TG} {tf:TT} {te:TE} (hc:X.calm=true) (S:kO X sc N nt cap) (fM:kn g nt) (hi:PI X tg src wi)
  (hY:∀(cl:List (Str×Addr)) (C:Addr) (s:Shared) (H:Hp) (ex:List Addr) (pn:List (Addr×Obj)),PG (dS X N sc cl C s H ex pn) tg g/\PF (dS X N sc cl C s H ex pn) tests tf/\PE (dS X N sc cl C s H ex pn) el te)
  (hs:∀x,foldedSetIterable src X.env x=pure x:=by intro _;rfl):PE X (.ListComp el [⟨tg,src,tests,0⟩] sc ps) (kc wi nt cap g tf te):=by
 intro pins s σ H Q I h
 rw[eval_ListComp]
 exact Bq (use:=none) hc S fM hi hY hs I h λs' H1 D C m IX hm _ _ _ _ _ _ q=>⟨m,hm,λh' sb=>⟨.ref D,H1,IX h' sb,rfl,q⟩⟩
theorem KS {el tg src:Expr} {tests:List Expr} {sc:Scope} {ps pos pos':Pos} {N:List Str} {nt:Nat} {cap:List Nat} {wi:TI} {g:TG} {tf:TT} {te:TE} {i0:Nat} {x0:Str} (zT:X.N.Nodup) (zU:X.N[i0]?=some x0) (zV:Loc X.env.scope x0) (hc:X.calm=true) (S:kO X sc N nt cap) (fM:kn g nt) (hi:PI X tg src wi)
  (hY:∀(cl:List (Str×Addr)) (C:Addr) (s:Shared) (H:Hp) (ex:List Addr) (pn:List (Addr×Obj)),PG (dS X N sc cl C s H ex pn) tg g/\PF (dS X N sc cl C s H ex pn) tests tf/\PE (dS X N sc cl C s H ex pn) el te)
  (hs:∀x,foldedSetIterable src X.env x=pure x:=by intro _;rfl)
  (zW:swapsWith (.ListComp el [⟨tg,src,tests,0⟩] sc ps) (some (.Name x0 pos')) pos.line X.env=pure true:=by rfl)
  (zX:X.fn x0=true\/X.env.scope.names.lookup x0=some .local:=by first|exact .inl rfl|exact .inr rfl|assumption):PS X (.Assign [.Name x0 pos'] (.ListComp el [⟨tg,src,tests,0⟩] sc ps) pos) (oy (kc wi nt cap g tf te) (kb i0)):=by
 intro pins s σ H D0 I h
 rw[exec_Assign_Name_used _ _ _ _ zW]
 refine wpAny_bind (wpAny_standAt (wpAny_bind ?_))
 obtain⟨Q,hQ⟩:∃Q:VK,Q=λv H1=>kb i0 v σ H1 D0.nx:=⟨_,rfl⟩
 have h:kc wi nt cap g tf te σ H Q:=by rw[hQ];exact h
 have lr:∀v H1,Q v H1->D0.nx (σ.set i0 (some v)) H1:=λv H1 q=>by rw[hQ] at q;exact q
 unfold evalThenUse
 refine wpAny_bind (wpAny_mono (Q:=λ_ s'=>SP X pins D0 .next s') ?_ (λ_ s' q=>wpAny_pure (wpAny_pure q)) (λ_ _ z=>z))
 refine Bq (use:=some (assign (.Name x0 pos') X.env)) hc S fM hi hY hs I h λs' H1 D C m IX hm GD GF RT Gk kQ QA q=>?_
 have GG:Inv X pins σ H1 s':=IX s'.heap (Heap.SameBut.refl _ _)
 obtain⟨oC,es,ep,RU,GH,qO⟩:=id hm
 have IP:Inv X ((C,oC)::pins) σ H1 s':=GG.j0 λp hp=>by
  rcases List.mem_cons.mp hp with e|e
  ·subst e
   exact⟨RU,GD,GF,RT,λv z=>by rw[GH] at z;cases z⟩
  ·exact GG.pin p (List.mem_append_right _ e)
 show wpAny _ _ (assign (.Name x0 pos') X.env (.ref D)) _ _ s'
 refine wpAny_assign_Name (kG IP zT zU zV (show RelV (.ref D) (.ref D) from rfl) (λs3 I3=>?_) zX)
 have p3:=(I3.pin (C,oC) (List.mem_append_right _ (List.mem_cons_self ..))).1
 refine⟨m,⟨oC,es,ep,p3,GH,qO⟩,λh' sb=>⟨_,H1,?_,lr _ _ q⟩⟩
 have I4:Inv X pins (σ.set i0 (some (.ref D))) H1 s3:=I3.j0 λp hp=>I3.pin p (List.mem_append_right _ (List.mem_cons_of_mem _ hp))
 exact I4.turned (it:=C) (t':=s3.toks) (λb o hb e=>(sb.2 b hb).trans e) GD GF (.inr Gk) kQ QA
end
end L2
namespace L2
open PySem
noncomputable def Ez (sc:Scope) (on:List (Str×NameKind)) (oN N:List Str) (nt:Nat) (cap:List Nat):Bool :=
 decide (sc.kind=.function)&&sc.names.all (λx=>decide (x.2=.local->sc.names.lookup x.1=some .local))&&sc.names.all (λx=>decide (x.2=.cell->sc.names.lookup x.1=some .cell)) &&
 sc.names.all (λx=>decide (x.2=.free->sc.names.lookup x.1=some .free/\(on.lookup x.1=some .cell\/on.lookup x.1=some .free)))&&decide (N.length=nt+cap.length) &&
 (List.range cap.length).all (λk=>match cap[k]? with
  |some j=>match oN[j]? with
   |some x=>decide (N[nt+k]?=some x)&&decide ((x,NameKind.free)∈sc.names)
   |none=>false
  |none=>true)
theorem cw {X:Cx} {sc:Scope} {N:List Str} {nt:Nat} {cap:List Nat} (h:Ez sc X.env.scope.names X.N N nt cap=true):kO X sc N nt cap:=by
 unfold Ez at h
 simp only[Bool.and_eq_true,List.all_eq_true,decide_eq_true_eq] at h
 obtain⟨⟨⟨⟨⟨h1,h2⟩,h3⟩,h4⟩,h5⟩,h6⟩:=h
 refine⟨h1,h2,h3,λx hx e=>h4 x hx e,h5,λk j e=>?_⟩
 have hk:k<cap.length:=(List.getElem?_eq_some_iff.mp e).1
 have:=h6 k (List.mem_range.mpr hk)
 rw[e] at this
 dsimp only at this
 cases ex:X.N[j]? with
 |none=>rw[ex] at this;cases this
 |some x =>
  rw[ex] at this
  simp only[Bool.and_eq_true,decide_eq_true_eq] at this
  exact⟨x,rfl,this.1,this.2⟩
end L2
namespace DI
open PySem L2
section
variable {X:Cx} {Ξ:Wd->bq->Prop} {e a b c tg el src:Expr} {es rest tests:List Expr} {pos:Pos} {f g h:Env->ae->Res D} {fa:Env->ae->Res (List D)} {ft gt:Env->ae->Res Bool}
theorem cL {sc:Scope} {ps:Pos} {N:List Str} {nt:Nat} {cap:List Nat} {it:Env->ae->Res (List D)} {gd:D->Env->Option Env} {g0:TG} (hc:X.calm=true) (S:kO X sc N nt cap) (T:Tg X.K g0 gd nt) (hi:PI X tg src (dC X.K Ξ it))
  (hY:∀(cl:List (Str×Addr)) (C:Addr) (s:Shared) (H:Hp) (ex:List Addr) (pn:List (Addr×Obj)),PG (dS X N sc cl C s H ex pn) tg g0/\PF (dS X N sc cl C s H ex pn) tests (tT X.K cj ft)/\PE (dS X N sc cl C s H ex pn) el (tE X.K cj f))
  (hs:∀x,foldedSetIterable src X.env x=pure x:=by intro _;rfl):PE X (.ListComp el [⟨tg,src,tests,0⟩] sc ps) (tE X.K Ξ (aW nt cap it gd ft f)) :=
 cH (CI hc S T.je hi hY hs) fun σ H Q h=>vI T.imp (λR R' i h=>v8 R R' i h) (Cz σ H Q h)
theorem Mp {sc:Scope} {ps pos':Pos} {N:List Str} {nt:Nat} {cap:List Nat} {it:Env->ae->Res (List D)} {gd:D->Env->Option Env} {g0:TG} (i0:Nat) {x0:Str} (zT:X.N.Nodup) (hc:X.calm=true) (S:kO X sc N nt cap) (T:Tg X.K g0 gd nt) (hi:PI X tg src (dC X.K Ξ it))
  (hY:∀(cl:List (Str×Addr)) (C:Addr) (s:Shared) (H:Hp) (ex:List Addr) (pn:List (Addr×Obj)),PG (dS X N sc cl C s H ex pn) tg g0/\PF (dS X N sc cl C s H ex pn) tests (tT X.K cj ft)/\PE (dS X N sc cl C s H ex pn) el (tE X.K cj f))
  (zU:X.N[i0]?=some x0:=by rfl) (zV:Loc X.env.scope x0:=by first|exact Or.inl rfl|exact Or.inr rfl)
  (hs:∀x,foldedSetIterable src X.env x=pure x:=by intro _;rfl)
  (zW:swapsWith (.ListComp el [⟨tg,src,tests,0⟩] sc ps) (some (.Name x0 pos')) pos.line X.env=pure true:=by rfl)
  (zX:X.fn x0=true\/X.env.scope.names.lookup x0=some .local:=by first|exact .inl rfl|exact .inr rfl):PS X (.Assign [.Name x0 pos'] (.ListComp el [⟨tg,src,tests,0⟩] sc ps) pos) (tS X.K Ξ (aO (aW nt cap it gd ft f) (gN i0))) :=
 iw (KS zT zU zV hc S T.je hi hY hs zW zX) λD σ H h=>by
  have h2:=BS (te:=tE X.K Ξ f) D σ H (wO D σ H h)
  exact vI T.imp (λR R' i h=>v8 R R' i h) (Cz σ H _ h2)
theorem CJ {sc:Scope} {ps:Pos} {N:List Str} {nt:Nat} {cap:List Nat} {it:Env->ae->Res (List D)} {gd:D->Env->Option Env} {g0:TG} (hc:X.calm=true) (S:kO X sc N nt cap) (T:Tg X.K g0 gd nt) (hi:PI X tg src (dC X.K Ξ it))
  (hY:∀(cl:List (Str×Addr)) (C:Addr) (s:Shared) (H:Hp) (ex:List Addr) (pn:List (Addr×Obj)),PG (dS X N sc cl C s H ex pn) tg g0/\PF (dS X N sc cl C s H ex pn) tests (tT X.K cj ft)/\PE (dS X N sc cl C s H ex pn) el (tE X.K cj f))
  (hs:∀x,foldedSetIterable src X.env x=pure x:=by intro _;rfl):PE X (.ListComp el [⟨tg,src,tests,0⟩] sc ps) (tE X.K Ξ (pV nt cap it gd ft f)) :=
 cH (CI hc S T.je hi hY hs) fun σ H Q h=>vI T.imp (λR R' i h=>v8 R R' i h) (Jw σ H Q h)
end
end DI
namespace L2
open PySem PySem.Spec PyProof.Rows
section
variable {X:Cx} {tg:Expr}
theorem Dv {i:Int} (h:-1<=i):Builtin.Range.rangeSize i (-1) (-1)=i+1:=by
 unfold Builtin.Range.rangeSize
 simp
 omega
noncomputable def Pa (ta:TA):TI:=fun σ H R=>ta σ H λvs H1=>∃i:Int,vs=[.int i,.int (-1),.int (-1)]/\-1<=i/\i<1000000/\R (uG (i+1).toNat) H1
theorem JG {a b c:Expr} {ta:TA} {p pos:Pos} (hg:Gl X "range") (hm:X.mg "range"=none) (ha:PA X [a,b,c] ta) (hs:starEach [a,b,c] X.env=[(false,eval a X.env),(false,eval b X.env),(false,eval c X.env)]:=by rfl) (dw:starEach [b,c] X.env=[(false,eval b X.env),(false,eval c X.env)]:=by rfl) :
  PI X tg (.Call (.Name "range" p) [a,b,c] [] pos) (Pa ta):=by
 intro pins s σ H R I h
 refine Call_ (kK I hg hm boot_range (PyProof.Rows.callWith_type1 (aJ (ha pos pins s σ H _ I h) λus s1 aC=>?_) (by rw[hs,dw]) (by rw[dw];rfl)))
 obtain⟨vs,H1,I1,r1,q1⟩:=aC
 obtain⟨i,e,q1,q2,q⟩:=q1
 subst e
 cases r1 with
 |cons r rr =>
  cases rr with
  |cons r' rr =>
   cases rr with
   |cons RV rr =>
    cases rr
    obtain⟨t,rfl⟩:=r
    obtain⟨t',rfl⟩:=r'
    obtain⟨vm,rfl⟩:=RV
    refine call_range_3 (by decide) ?_ (.inl (PyProof.noPylong_small (by omega)))
    refine wpAny_pyIter_range (IsRange.new ..) ?_ ?_
    ·unfold Builtin.Range.small
     rw[Dv q1]
     simp only[Builtin.Range.rangeFitsLong,Bool.and_eq_true,Bool.or_eq_true,decide_eq_true_eq,beq_iff_eq,show ¬ (-1:Int) > 0 by decide,if_false]
     omega
    ·have I2:Inv X pins σ H1 { s1 with heap:=s1.heap.push { cls:=.type "range",data:=.fields #[.int i t,.int (-1) t',.int (-1) vm] },toks:=s1.toks }:=I1.kept λb o e=>Heap.get?_push_of_some _ e
     rw[Dv q1]
     refine⟨(s1.heap.push { cls:=.type "range",data:=.fields #[.int i t,.int (-1) t',.int (-1) vm] }).objs.size,[(s1.heap.push { cls:=.type "range",data:=.fields #[.int i t,.int (-1) t',.int (-1) vm] }).objs.size],_,_,H1,rfl,
      I2.kept (t':=s1.toks) λb o e=>Heap.get?_push_of_some _ e,Cw _ (i+1).toNat,?_,λb hb=>?_,q⟩
     ·have e1:(((i+1).toNat:Nat):Int)-1+((0:Nat):Int)*(-1)=i:=by simp;omega
      have e2:(((i+1).toNat:Nat):Int)-((0:Nat):Int)=i+1:=by simp;omega
      show IsRangeIter _ _ ((((i+1).toNat:Nat):Int)-1+((0:Nat):Int)*(-1)) ((((i+1).toNat:Nat):Int)-((0:Nat):Int)) (-1)
      rw[e1,e2]
      exact Heap.get?_push_size _ rfl
     ·have e:b=(s1.heap.push { cls:=.type "range",data:=.fields #[.int i t,.int (-1) t',.int (-1) vm] }).objs.size:=by simpa using hb
      subst e
      exact I2.oz (Nat.le_refl _) (I2.aH.fresh (Nat.le_refl _))
end
end L2
namespace DI
open PySem L2
section
variable {X:Cx} {Ξ:Wd->bq->Prop} {a b c tg:Expr} {pos:Pos} {fa:Env->ae->Res (List D)}
noncomputable def zY (fa:Env->ae->Res (List D)):Env->ae->Res (List D):=λenv s=>au (fa env s) λds s=>match ds with
 | [.int i,.int (-1),.int (-1)]=>if (decide (-1<=i)&&decide (i<1000000))=true then ok (my (i+1).toNat) s else none
 |_=>none
theorem NT {p:Pos} (hg:Gl X "range") (hm:X.mg "range"=none) (ha:PA X [a,b,c] (tA X.K Ξ fa)) (hs:starEach [a,b,c] X.env=[(false,eval a X.env),(false,eval b X.env),(false,eval c X.env)]:=by rfl) (dw:starEach [b,c] X.env=[(false,eval b X.env),(false,eval c X.env)]:=by rfl):PI X tg (.Call (.Name "range" p) [a,b,c] [] pos) (dC X.K Ξ (zY fa)) :=
 n0 (JG hg hm ha hs dw) fun σ H R aC=>by
  obtain⟨w,env,eH,S,eo,h⟩:=aC
  subst eH
  refine⟨w,env,rfl,S,eo,(Out.au h).mono λw1 ds l1 S1 h1 vs aw=>?_⟩
  split at h1
  ·rename_i i
   split at h1
   ·rename_i hj
    simp only[Bool.and_eq_true,decide_eq_true_eq] at hj
    obtain⟨v,r,rfl,dv,v2,r2,rfl,jd,v3,r3,rfl,zv,dr⟩:=aw
    have e1:v=.int i:=dv
    have e2:v2=.int (-1):=jd
    have e3:v3=.int (-1):=zv
    have e4:r3=[]:=dr
    subst e1 e2 e3 e4
    exact⟨i,rfl,hj.1,hj.2,aG S1 h1 _ Ew⟩
   ·exact h1.elim
  ·exact h1.elim
end
end DI
namespace L2
open PySem PySem.Spec PyProof.Rows
section
variable {X:Cx}
end
end L2
namespace DI
open PySem L2
section
variable {X:Cx} {Ξ:Wd->bq->Prop} {a:Expr} {p pos:Pos} {fa:Env->ae->Res (List D)}
end
end DI
namespace DI
open PySem L2
section
variable {X:Cx} {Ξ:Wd->bq->Prop} {a:Expr} {p pos:Pos} {f g:Env->ae->Res D} {fa:Env->ae->Res (List D)}
theorem aq.erase {K:Frag} {w:Wd}:∀{ds:List D} {xs:List V} (j:Nat),aq K w ds xs->aq K w (ds.eraseIdx j) (xs.eraseIdx j)
 | [],xs,j,h=>by
  have e:xs=[]:=h
  subst e
  exact h
 |d::ds,xs,0,h=>by
  obtain⟨v,r,rfl,_,dr⟩:=h
  exact dr
 |d::ds,xs,j+1,h=>by
  obtain⟨v,r,rfl,dv,dr⟩:=h
  exact⟨v,r.eraseIdx j,rfl,dv,aq.erase j dr⟩
end
end DI
namespace DI
open PySem L2 HT PyProof.Rows
section
variable {X:Cx} {Ξ:Wd->bq->Prop}
theorem JH {xs:List V} {us:List Value} (h:Vals xs us):∀{q:List Nat},(∀i∈q,i<us.length)->Vals (q.map λi=>xs.getD i .aA) (q.map λi=>us.getD i Value.none):=by
 intro q
 induction q with
 |nil=>intro _;exact .nil
 |cons i q ih =>
  intro hq
  refine .cons ?_ (ih λj hj=>hq j (List.mem_cons_of_mem _ hj))
  have hi:=hq i List.mem_cons_self
  clear ih hq
  induction h generalizing i with
  |nil=>simp at hi
  |cons a _ ih =>
   cases i with
   |zero=>exact a
   |succ i=>simpa using ih i (by simpa using hi)
theorem KU {K:Frag} {w:Wd} {ds:List D} {xs:List V} (h:aq K w ds xs):∀{q:List Nat},(∀i∈q,i<ds.length)->aq K w (q.map λi=>ds.getD i .aA) (q.map λi=>xs.getD i .aA):=by
 intro q
 induction q with
 |nil=>intro _;exact rfl
 |cons i q ih =>
  intro hq
  have hi:=hq i List.mem_cons_self
  obtain⟨v,e,dv⟩:=h.get' i _ (List.getElem?_eq_getElem hi)
  refine⟨_,_,rfl,?_,ih λj hj=>hq j (List.mem_cons_of_mem _ hj)⟩
  have e1:ds.getD i .aA=ds[i]:=by simp[hi]
  have e2:xs.getD i .aA=v:=by simp[e]
  show DV K w (ds.getD i .aA) (xs.getD i .aA)
  rw[e1,e2]
  exact dv
theorem KW {α:Type} {O:ST.Ord α} {ks:List α} {f:α->D} {d:α} {q:Array Nat} (hp:ST.Pm ks.length q) (hu:ST.Up O (ST.ky (λi=>ks.getD i d) q) ks.length):q.toList.map (λi=>(ks.map f).getD i .aA)=(ST.iB O ks).map f:=by
 rw[<- ST.JD hp hu,List.map_map]
 refine List.map_congr_left λi hi=>?_
 have:i<ks.length:=List.mem_range.mp (hp.2.mem_iff.mp hi)
 simp[this]
end
end DI
namespace TK
open PySem PySem.W PyProof.Rows DI
mutual
noncomputable def kd:D->Bool
 | .int _=>true
 | .str x=>PyData.strOk x
 | .tup ks=>cz ks
 |_=>false
noncomputable def cz:List D->Bool
 | []=>true
 |k::ks=>kd k&&cz ks
end
mutual
noncomputable def KA (h:Heap):D->Value->Prop
 | .int i,v=>∃t,v=.int i t
 | .str x,v=>∃t,v=.str x t
 | .tup ks,v=>∃a o its n,v=.ref a/\h.get? a=some o/\o.cls=.type "tuple"/\o.data=.seq its n/\cA h ks its.toList
 |_,_=>False
noncomputable def cA (h:Heap):List D->List Value->Prop
 | [],vs=>vs=[]
 |k::ks,vs=>∃v r,vs=v::r/\KA h k v/\cA h ks r
end
mutual
theorem l6:∀k:D,kd k=true->lay k=true
 | .int _,_=>rfl
 | .str _,h=>h
 | .tup ks,h=>by simp only[kd] at h;simp only[lay];exact sP ks h
 | .aA,h=>by cases h
 | .bl _,h=>by cases h
 | .lst _,h=>by cases h
 | .bp _,h=>by cases h
 | .aj _,h=>by cases h
 | .ty _,h=>by cases h
 | .bC _,h=>by cases h
theorem sP:∀ks:List D,cz ks=true->dR ks=true
 | [],_=>rfl
 |k::ks,h=>by
  simp only[cz,dR,Bool.and_eq_true] at h |-
  exact⟨l6 k h.1,sP ks h.2⟩
end
mutual
theorem tV:∀x y:D,kd x=true->kd y=true->(beq x y=true↔x=y)
 | .int i,.int j,_,_=>by simp[beq]
 | .str i,.str j,_,_=>by simp[beq]
 | .tup xs,.tup ys,h,g=>by
  simp only[kd] at h g
  simp only[beq,wj xs ys h g]
  exact⟨λe=>by rw[e],λe=>by injection e⟩
 | .int _,.str _,_,_=>by simp[beq]
 | .int _,.tup _,_,_=>by simp[beq]
 | .str _,.int _,_,_=>by simp[beq]
 | .str _,.tup _,_,_=>by simp[beq]
 | .tup _,.int _,_,_=>by simp[beq]
 | .tup _,.str _,_,_=>by simp[beq]
 | .aA,_,h,_=>by cases h
 | .bl _,_,h,_=>by cases h
 | .lst _,_,h,_=>by cases h
 | .bp _,_,h,_=>by cases h
 | .aj _,_,h,_=>by cases h
 | .ty _,_,h,_=>by cases h
 | .bC _,_,h,_=>by cases h
 |_,.aA,_,h=>by cases h
 |_,.bl _,_,h=>by cases h
 |_,.lst _,_,h=>by cases h
 |_,.bp _,_,h=>by cases h
 |_,.aj _,_,h=>by cases h
 |_,.ty _,_,h=>by cases h
 |_,.bC _,_,h=>by cases h
theorem wj:∀xs ys:List D,cz xs=true->cz ys=true->(gI xs ys=true↔xs=ys)
 | [],[],_,_=>by simp[gI]
 | [],_::_,_,_=>by simp[gI]
 |_::_,[],_,_=>by simp[gI]
 |x::xs,y::ys,h,g=>by
  simp only[cz,Bool.and_eq_true] at h g
  simp only[gI,Bool.and_eq_true,tV x y h.1 g.1,wj xs ys h.2 g.2,List.cons.injEq]
end
mutual
theorem KA.reads {h:Heap}:∀(k:D) (v:Value),KA h k v->∃as,Reads h v (py k) as
 | .int i,v,q=>by obtain⟨t,rfl⟩:=q;exact⟨_,.int i t⟩
 | .str x,v,q=>by obtain⟨t,rfl⟩:=q;exact⟨_,.str x t⟩
 | .tup ks,v,q=>by
  simp only[KA] at q
  obtain⟨a,o,its,n,rfl,ho,hc,hd,r⟩:=q
  obtain⟨as,r⟩:=cA.reads ks _ r
  exact⟨as,.tuple ho hc hd r⟩
 | .aA,_,q=>by cases q
 | .bl _,_,q=>by cases q
 | .lst _,_,q=>by cases q
 | .bp _,_,q=>by cases q
 | .aj _,_,q=>by cases q
 | .ty _,_,q=>by cases q
 | .bC _,_,q=>by cases q
theorem cA.reads {h:Heap}:∀(ks:List D) (vs:List Value),cA h ks vs->∃as,ReadsAll h vs (bT ks) as
 | [],vs,q=>by cases q;exact⟨_,.nil⟩
 |k::ks,vs,q=>by
  obtain⟨v,r,rfl,h1,h2⟩:=q
  obtain⟨as,h1⟩:=KA.reads k v h1
  obtain⟨bs,h2⟩:=cA.reads ks r h2
  exact⟨_,.cons h1 h2⟩
end
theorem NU {h:Heap} {y:D} {i:Int} {t:Tok} (q:KA h y (.int i t)):y=.int i:=by
 cases y with
 |int j=>obtain⟨_,e⟩:=q;cases e;rfl
 |str j=>obtain⟨_,e⟩:=q;cases e
 |tup ks=>simp only[KA] at q;obtain⟨_,_,_,_,e,_⟩:=q;cases e
 |_=>cases q
theorem NV {h:Heap} {y:D} {i:Str} {t:Tok} (q:KA h y (.str i t)):y=.str i:=by
 cases y with
 |str j=>obtain⟨_,e⟩:=q;cases e;rfl
 |int j=>obtain⟨_,e⟩:=q;cases e
 |tup ks=>simp only[KA] at q;obtain⟨_,_,_,_,e,_⟩:=q;cases e
 |_=>cases q
theorem NW {h:Heap} {y:D} {a:Addr} (q:KA h y (.ref a)):∃ks o its n,y=.tup ks/\h.get? a=some o/\o.cls=.type "tuple"/\o.data=.seq its n/\cA h ks its.toList:=by
 cases y with
 |str j=>obtain⟨_,e⟩:=q;cases e
 |int j=>obtain⟨_,e⟩:=q;cases e
 |tup ks =>
  simp only[KA] at q
  obtain⟨_,o,its,n,e,r⟩:=q
  cases e
  exact⟨ks,o,its,n,rfl,r⟩
 |_=>cases q
mutual
theorem KA.inj {h:Heap}:∀(x y:D) (v:Value),KA h x v->KA h y v->x=y
 | .int i,y,v,p,q=>by
  obtain⟨t,rfl⟩:=p
  exact(NU q).symm
 | .str i,y,v,p,q=>by
  obtain⟨t,rfl⟩:=p
  exact(NV q).symm
 | .tup xs,y,v,p,q=>by
  simp only[KA] at p
  obtain⟨a,o,its,n,rfl,ho,hc,hd,r⟩:=p
  obtain⟨ks,o',its',n',rfl,dg,jD,gm,r'⟩:=NW q
  cases ho.symm.trans dg
  cases hd.symm.trans gm
  rw[cA.inj xs _ _ r r']
 | .aA,_,_,q,_=>by cases q
 | .bl _,_,_,q,_=>by cases q
 | .lst _,_,_,q,_=>by cases q
 | .bp _,_,_,q,_=>by cases q
 | .aj _,_,_,q,_=>by cases q
 | .ty _,_,_,q,_=>by cases q
 | .bC _,_,_,q,_=>by cases q
theorem cA.inj {h:Heap}:∀(xs ys:List D) (vs:List Value),cA h xs vs->cA h ys vs->xs=ys
 | [],ys,vs,p,q=>by
  cases p
  cases ys with
  |nil=>rfl
  |cons y ys=>obtain⟨_,_,e,_⟩:=q;cases e
 |x::xs,ys,vs,p,q=>by
  obtain⟨v,r,rfl,h1,h2⟩:=p
  cases ys with
  |nil=>cases q
  |cons y ys =>
   obtain⟨v',r',e,g1,g2⟩:=q
   cases e
   rw[KA.inj x y v h1 g1,cA.inj xs ys r h2 g2]
end
mutual
theorem KA.keep {h h':Heap} (hk:∀a o,h.get? a=some o->o.cls=.type "tuple"->(∃its n,o.data=.seq its n)->h'.get? a=some o):∀(x:D) (v:Value),KA h x v->KA h' x v
 | .int i,v,p=>p
 | .str i,v,p=>p
 | .tup xs,v,p=>by
  simp only[KA] at p |-
  obtain⟨a,o,its,n,e,ho,hc,hd,r⟩:=p
  exact⟨a,o,its,n,e,hk a o ho hc ⟨its,n,hd⟩,hc,hd,cA.keep hk xs _ r⟩
 | .aA,_,q=>by cases q
 | .bl _,_,q=>by cases q
 | .lst _,_,q=>by cases q
 | .bp _,_,q=>by cases q
 | .aj _,_,q=>by cases q
 | .ty _,_,q=>by cases q
 | .bC _,_,q=>by cases q
theorem cA.keep {h h':Heap} (hk:∀a o,h.get? a=some o->o.cls=.type "tuple"->(∃its n,o.data=.seq its n)->h'.get? a=some o):∀(xs:List D) (vs:List Value),cA h xs vs->cA h' xs vs
 | [],vs,p=>p
 |x::xs,vs,p=>by
  obtain⟨v,r,e,h1,h2⟩:=p
  exact⟨v,r,e,KA.keep hk x v h1,cA.keep hk xs r h2⟩
end
theorem Dw {k:D} {ks:List D} (h:k∈ks):dep k<=cJ ks:=by
 induction ks with
 |nil=>cases h
 |cons x xs ih =>
  simp only[cJ]
  rcases List.mem_cons.mp h with rfl|h
  ·exact Nat.le_max_left _ _
  ·exact Nat.le_trans (ih h) (Nat.le_max_right _ _)
mutual
noncomputable def hs (w:World):D->Int
 | .int i=>hashInt i
 | .str x=>hashStr w x
 | .tup ks=>reduceHash (Builtin.Tuple.tupleHashOf (jN w ks))
 |_=>0
noncomputable def jN (w:World):List D->List Int
 | []=>[]
 |k::ks=>hs w k::jN w ks
end
mutual
noncomputable def dr:D->Nat
 | .int _=>1
 | .str _=>1
 | .tup ks=>jg ks+1
 |_=>0
noncomputable def jg:List D->Nat
 | []=>0
 |k::ks=>dr k+jg ks
end
theorem Dx (w:World) (xs ys:List D):jN w (xs++ys)=jN w xs++jN w ys:=by
 induction xs with
 |nil=>rfl
 |cons x xs ih=>simp only[List.cons_append,jN,ih]
theorem Dy (xs ys:List D):jg (xs++ys)=jg xs+jg ys:=by
 induction xs with
 |nil=>simp[jg]
 |cons x xs ih=>simp only[List.cons_append,jg,ih,Nat.add_assoc]
section
variable {prog:Program} {w:World}
theorem KY {A:Around} {E:Value->Shared->Prop} {s:Shared} {a:Addr} {o:Obj} {items:Array Value} {m:Nat} {ks:List D} {Q:Int->Shared->Prop} (hu:A.units<cLine) (ho:s.heap.get? a=some o) (hc:o.cls=.type "tuple") (hd:o.data=.seq items m) (hi:cA s.heap ks items.toList)
  (ih:∀k∈ks,∀(A':Around) (s':Shared) (v:Value) (E':Value->Shared->Prop) (Q':Int->Shared->Prop),A'.units<=A.units+1->KA s'.heap k v->Q' (hs w k) { s' with toks:=s'.toks+dr k }->wpAny (model prog w) A' (pyHash v) Q' E' s')
  (h:Q (hs w (.tup ks)) { s with toks:=s.toks+dr (.tup ks) }):wpAny (model prog w) A (pyHash (.ref a)) Q E s:=by
 have hT:s.TypeIs (.ref a) "tuple":=⟨o,ho,hc⟩
 unfold pyHash
 first|unfold pyHashByItsType|skip
 first|refine wpAny_bind (wpAny_cRoomFor_or (.inr hu) ?_)|skip
 refine wpAny_bind (wpAny_specialOf hT F.slot_tuple_hash.lookup ?_)
 show wpAny _ _ (if (some (Value.builtin "tuple.__hash__")==some Value.none)=true then _ else _) Q E s
 rw[if_neg (by rw[beq_builtin_none];exact Bool.false_ne_true)]
 refine wpAny_bind (wpAny_specialOf hT F.slot_tuple_hash.lookup ?_)
 show wpAny _ _ (callSpecialIfBoundUnlessNone? (.ref a) "__hash__" _ >>= _) Q E s
 refine wpAny_bind (wpAny_callSpecialIfBoundUnlessNone?_slot hT F.slot_tuple_hash (wpAny_call_entry F.slot_tuple_hash hT F.entry_tuple_hash ?_ (F.args_tuple_hash_1 _)))
 show wpAny _ _ (Builtin.Tuple.tupleItemsOf (.ref a) >>= _) _ _ s
 refine wpAny_bind (wpAny_tupleItemsOf ho hd ?_)
 refine wpAny_bind ?_
 rw[<- Array.forIn_toList]
 refine wpAny_forIn_list _
  (λrest (b:Array Int) s'=>∃done left,ks=done++left/\cA s.heap left rest/\b.toList=jN w done/\s'={ s with toks:=s.toks+jg done })
  _ ?_ ?_ _ _ ⟨[],ks,rfl,hi,rfl,rfl⟩
 ·rintro x rest b s' ⟨done,left,e,hl,hb,rfl⟩
  cases left with
  |nil=>cases hl
  |cons k left =>
   obtain⟨x',r',ex,h1,lG⟩:=hl
   cases ex
   refine wpAny_bind (ih k (by rw[e];simp) _ { s with toks:=s.toks+jg done } _ _ _ ?_ h1 ?_)
   ·exact Nat.le_refl _
   ·first
     |exact wpAny_pure ⟨done++[k],left,by simp[e],lG,by simp[hb,Dx,jN],by simp[Nat.add_assoc,Dy,jg]⟩
     |exact wpAny_bind (wpAny_pure (wpAny_pure ⟨done++[k],left,by simp[e],lG,by simp[hb,Dx,jN],by simp[Nat.add_assoc,Dy,jg]⟩))
 ·rintro b s' ⟨done,left,e,hl,hb,rfl⟩
  cases left with
  |cons k left=>obtain⟨_,_,ex,_⟩:=hl;cases ex
  |nil =>
  rw[List.append_nil] at e
  subst e
  simp only[hs,dr] at h
  show wpAny _ _ (retInt (Builtin.Tuple.tupleHashOf b.toList)) _ _ _
  rw[hb]
  generalize Builtin.Tuple.tupleHashOf (jN w ks)=z at h |-
  refine wpAny_ret_mkInt ?_
  show wpAny _ _ (if (decide (-(2:Int) ^ 63<=z)&&decide (z<2 ^ 63))=true then _ else _) Q E _
  unfold reduceHash at h
  by_cases hr:(decide (-(2:Int) ^ 63<=z)&&decide (z<2 ^ 63))=true
  ·rw[if_pos hr]
   rw[if_pos hr] at h
   exact wpAny_pure (by simpa [Nat.add_assoc] using h)
  ·rw[if_neg hr]
   rw[if_neg hr] at h
   exact wpAny_bind (wpAny_rule (wpAny_pure (by simpa [Nat.add_assoc] using h)))
theorem Mq:∀(n:Nat) (k:D),dep k<=n->∀(A:Around) (s:Shared) (v:Value) (E:Value->Shared->Prop) (Q:Int->Shared->Prop),KA s.heap k v->A.units+n<cLine->Q (hs w k) { s with toks:=s.toks+dr k }->wpAny (model prog w) A (pyHash v) Q E s:=by
 intro n
 induction n with
 |zero =>
  intro k hn A s v E Q q hu h
  cases k with
  |int i=>obtain⟨t,rfl⟩:=q;exact wpAny_pyHash_int h
  |str i=>obtain⟨t,rfl⟩:=q;exact wpAny_pyHash_str h
  |tup ks=>simp[dep] at hn
  |_=>cases q
 |succ n ih =>
  intro k hn A s v E Q q hu h
  cases k with
  |int i=>obtain⟨t,rfl⟩:=q;exact wpAny_pyHash_int h
  |str i=>obtain⟨t,rfl⟩:=q;exact wpAny_pyHash_str h
  |tup ks =>
   simp only[dep] at hn
   simp only[KA] at q
   obtain⟨a,o,items,m,rfl,ho,hc,hd,hi⟩:=q
   exact KY (by omega) ho hc hd hi (λk hk A' s' v E' Q' hA q' h'=>ih k (by have:=Dw hk;omega) A' s' v E' Q' q' (by omega) h') h
  |_=>cases q
theorem KZ:∀(n:Nat) (k:D),dep k<=n->∀{A:Around} {s:Shared} {v:Value} {E:Value->Shared->Prop} {Q:Bool->Shared->Prop},KA s.heap k v->Q true s->wpAny (model prog w) A (eqIsQuiet n v) Q E s:=by
 intro n
 induction n with
 |zero =>
  intro k hn A s v E Q q h
  cases k with
  |int i=>obtain⟨t,rfl⟩:=q;rw[eqIsQuiet_byValue _ rfl];exact wpAny_pure h
  |str i=>obtain⟨t,rfl⟩:=q;rw[eqIsQuiet_byValue _ rfl];exact wpAny_pure h
  |tup ks=>simp[dep] at hn
  |_=>cases q
 |succ n ih =>
  intro k hn A s v E Q q h
  cases k with
  |int i=>obtain⟨t,rfl⟩:=q;rw[eqIsQuiet_byValue _ rfl];exact wpAny_pure h
  |str i=>obtain⟨t,rfl⟩:=q;rw[eqIsQuiet_byValue _ rfl];exact wpAny_pure h
  |tup ks =>
   simp only[dep] at hn
   simp only[KA] at q
   obtain⟨a,o,items,m,rfl,ho,hc,hd,hi⟩:=q
   have hT:s.TypeIs (.ref a) "tuple":=⟨o,ho,hc⟩
   unfold eqIsQuiet
   refine wpAny_bind (wpAny_specialOf hT F.slot_tuple_eq.lookup ?_)
   show wpAny _ _ (isInstance (.ref a) (.type "tuple") >>= _) _ _ s
   refine wpAny_bind (wpAny_isInstance hT isSubtype_tuple_tuple ?_)
   simp only[Bool.not_true,Bool.false_eq_true,if_false]
   refine wpAny_bind (wpAny_seqItems ho hd ?_)
   refine wpAny_bind ?_
   show wpAny _ _ (forIn items _ _) _ _ s
   rw[<- Array.forIn_toList]
   refine wpAny_forIn_list _ (λrest r s'=>r.1=none/\s'=s/\∃left,cA s.heap left rest/\∀k∈left,dep k<=n) _ ?_ ?_ _ _ ⟨rfl,rfl,ks,hi,λk hk=>by have:=Dw hk;omega⟩
   ·rintro v rest r s' ⟨hr,rfl,left,hl,cZ⟩
    cases left with
    |nil=>cases hl
    |cons k left =>
     obtain⟨x',r',ex,h1,lG⟩:=hl
     cases ex
     refine wpAny_bind (ih k (cZ k List.mem_cons_self) h1 ?_)
     simp only[Bool.not_true,Bool.false_eq_true,if_false]
     exact wpAny_pure ⟨rfl,rfl,left,lG,λu RW=>cZ u (List.mem_cons_of_mem _ RW)⟩
   ·rintro ⟨r1,r2⟩ s' ⟨hr,rfl,_⟩
    simp only at hr
    subst hr
    exact wpAny_pure h
  |_=>cases q
def vn (h:Heap) (ks:List D) (a:Addr):Prop:=cz ks=true/\cJ ks<=6/\KA h (.tup ks) (.ref a)
noncomputable instance Tc:DecidableEq (List D):=λa b=>Classical.propDecidable (a=b)
theorem NX {A:Around} {E:Value->Shared->Prop} {s:Shared} {x y:List D} {a b:Addr} {Q:Bool->Shared->Prop} (hu:A.units+10<cLine) (hx:vn s.heap x a) (hy:vn s.heap y b) (h:Q (decide (x=y)) s):wpAny (model prog w) A (PySem.eqBool (.ref a) (.ref b)) Q E s:=by
 obtain⟨k1,d1,r1⟩:=hx
 obtain⟨k2,d2,r2⟩:=hy
 obtain⟨as,r1⟩:=KA.reads _ _ r1
 obtain⟨bs,r2⟩:=KA.reads _ _ r2
 have l1:lay (.tup x)=true:=by simp only[lay];exact sP x k1
 have l2:lay (.tup y)=true:=by simp only[lay];exact sP y k2
 obtain⟨p1,p2⟩:=iR _ l1
 obtain⟨q1,q2⟩:=iR _ l2
 have e:=SeqAt.eqAt_reads _ _ A s _ _ as bs r1 r2 p1 q1 (by rw[p2,q2];simp only[dep];omega)
 rw[n5 _ _ l1 l2] at e
 refine e prog w E Q ?_
 have:beq (.tup x) (.tup y)=decide (x=y):=by
  have:=wj x y k1 k2
  simp only[beq]
  cases hb:gI x y with
  |true=>exact(decide_eq_true (this.mp hb)).symm
  |false=>exact(decide_eq_false λz=>by rw[this.mpr z] at hb;cases hb).symm
 rw[this]
 exact h
noncomputable def kind (prog:Program) (w:World):HeapKind prog w (List D) where
 is:=vn
 hash:=λks=>hs w (.tup ks)
 draws:=λks=>dr (.tup ks)
 room:=λA=>A.units+10<cLine
 inj:=λhx hy=>by have:=KA.inj _ _ _ hx.2.2 hy.2.2;injection this
 keeps:=λ{h h' k a d o es ep} x ho hd hs=>⟨x.1,x.2.1,KA.keep (λb u hb hc hq=>(hs.2 b (λe=>by
  subst e
  rw[ho] at hb
  cases hb
  obtain⟨_,_,hq⟩:=hq
  rw[hd] at hq
  cases hq)).trans hb) _ _ x.2.2⟩
 pyHash:=λhu hk h=>Mq 7 _ (by simp only[dep];have:=hk.2.1;omega) _ _ _ _ _ hk.2.2 (by omega) h
 eqBool:=λhu hx hy h=>NX hu hx hy h
 quiet:=λhk h=>KZ 8 _ (by simp only[dep];have:=hk.2.1;omega) hk.2.2 h
end
end TK
namespace TK
open PySem PySem.W PyProof.Rows DI L2
theorem DX.fR {a:Addr} {es:List (Int×Addr)} (h1 h2:Heap) (h:DX a es h1) (k:∀o,h1.get? a=some o->h2.get? a=some o):DX a es h2:=by
 obtain⟨z,o,xs,ep,ho,r⟩:=h
 exact⟨z,o,xs,ep,k o ho,r⟩
theorem Fj {P:Program} {w:World} {H:Hp} {h:Heap} {a:Addr} {es:List (Int×Addr)} (x:DX a es h):cQ P w H h a (.ext (DX a es)):=by
 obtain⟨z,o,xs,ep,ho,r⟩:=id x
 exact⟨x,⟨o,ho⟩,DX.fR⟩
def AllK (w:World) (ak:List (D×Int)):Prop:=∀p∈ak,∃ks,p.1=.tup ks/\cz ks=true/\cJ ks<=6/\p.2=hs w p.1
noncomputable def its:D->List D
 | .tup ks=>ks
 |_=>[]
noncomputable def XS:List (D×Int)->List Addr->List (List D×Addr×Value)
 |p::r,a::as=>(its p.1,a,.bool true)::XS r as
 |_,_=>[]
theorem NY {ak:List (D×Int)}:∀{as:List Addr},ak.length=as.length->∀(p:D×Int) (a:Addr),XS (ak++[p]) (as++[a])=XS ak as++[(its p.1,a,.bool true)]:=by
 induction ak with
 |nil =>
  intro as e p a
  cases as with
  |nil=>rfl
  |cons _ _=>simp at e
 |cons q r ih =>
  intro as e p a
  cases as with
  |nil=>simp at e
  |cons b as =>
   simp only[List.cons_append,XS]
   rw[ih (by simpa using e)]
theorem NZ {ak:List (D×Int)}:∀{as:List Addr},ak.length=as.length->(XS ak as).length=ak.length:=by
 induction ak with
 |nil=>intro as e;cases as<;>rfl
 |cons q r ih =>
  intro as e
  cases as with
  |nil=>simp at e
  |cons b as=>simp only[XS,List.length_cons,ih (by simpa using e)]
theorem Dz {w:World} {ak:List (D×Int)}:∀{as:List Addr},AllK w ak->ak.length=as.length->(XS ak as).map (λx=>D.tup x.1)=ak.map (·.1):=by
 induction ak with
 |nil=>intro as _ e;cases as<;>rfl
 |cons q r ih =>
  intro as k e
  cases as with
  |nil=>simp at e
  |cons b as =>
   obtain⟨ks,e1,_⟩:=k q List.mem_cons_self
   simp only[XS,List.map_cons,ih (λp hp=>k p (List.mem_cons_of_mem _ hp)) (by simpa using e),e1,its]
theorem CK {P:Program} {w:World} {ak:List (D×Int)}:∀{as:List Addr},AllK w ak->ak.length=as.length ->
  (((ak.map (·.2)).zip as).map λp=>(⟨p.1,.ref p.2,.bool true⟩:DictEntry))=(XS ak as).map (entryOfKey (kind P w)):=by
 induction ak with
 |nil=>intro as _ e;cases as<;>rfl
 |cons q r ih =>
  intro as k e
  cases as with
  |nil=>simp at e
  |cons b as =>
   obtain⟨ks,e1,_,_,e2⟩:=k q List.mem_cons_self
   simp only[XS,List.map_cons,List.zip_cons_cons,ih (λp hp=>k p (List.mem_cons_of_mem _ hp)) (by simpa using e)]
   rw[e2,e1]
   rfl
section
variable {X:Cx} {pins:List (Addr×Obj)} {σ:L2.St} {s:Shared} {w:Wd}
mutual
theorem xT (I:Inv X pins σ w.H s):∀(d:D) (v:V) (u:Value),kd d=true->DI.DV X.K w d v->RelV v u->KA s.heap d u
 | .int i,v,u,_,h,r=>by cases h;exact r
 | .str x,v,u,_,h,r=>by cases h;exact r
 | .tup ds,v,u,k,h,r=>by
  simp only[DI.DV] at h
  obtain⟨a,xs,rfl,hq,dv⟩:=h
  cases r
  obtain⟨its,r1,⟨o,ho,hc,n,hd⟩,_⟩:=I.tuple hq
  simp only[kd] at k
  simp only[KA]
  exact⟨a,o,_,n,rfl,ho,hc,hd,xt I ds xs _ k dv (by simpa using r1)⟩
 | .aA,_,_,k,_,_=>by cases k
 | .bl _,_,_,k,_,_=>by cases k
 | .lst _,_,_,k,_,_=>by cases k
 | .bp _,_,_,k,_,_=>by cases k
 | .aj _,_,_,k,_,_=>by cases k
 | .ty _,_,_,k,_,_=>by cases k
 | .bC _,_,_,k,_,_=>by cases k
theorem xt (I:Inv X pins σ w.H s):∀(ds:List D) (vs:List V) (us:List Value),cz ds=true->DI.aq X.K w ds vs->Vals vs us->cA s.heap ds us
 | [],vs,us,_,h,r=>by cases h;cases r;rfl
 |d::ds,vs,us,k,h,r=>by
  obtain⟨v,r',rfl,h1,h2⟩:=h
  simp only[cz,Bool.and_eq_true] at k
  cases r with
  |cons r rs=>exact⟨_,_,rfl,xT I d v _ k.1 h1 r,xt I ds r' _ k.2 h2 rs⟩
end
theorem Pb (I:Inv X pins σ w.H s) {W:World}:∀{ak:List (D×Int)} {as:List Addr},AllK W ak->DI.aq X.K w (ak.map (·.1)) (as.map V.ref)->∀x∈XS ak as,vn s.heap x.1 x.2.1:=by
 intro ak
 induction ak with
 |nil =>
  intro as _ _ x hx
  cases as<;>cases hx
 |cons q r ih =>
  intro as k dv x hx
  cases as with
  |nil=>cases hx
  |cons b as =>
   obtain⟨v,r',e,h1,h2⟩:=dv
   injection e with e1 e2
   subst e1 e2
   obtain⟨ks,e1,k1,k2,_⟩:=k q List.mem_cons_self
   rcases List.mem_cons.mp hx with rfl|hx
   ·refine⟨by simpa only [e1,its] using k1,by simpa only [e1,its] using k2,?_⟩
    have h1:DI.DV X.K w q.1 (V.ref b):=h1
    rw[e1] at h1
    simpa only [e1,its] using xT I (.tup ks) (.ref b) (.ref b) (by simpa only [kd] using k1) h1 rfl
   ·exact ih (λp hp=>k p (List.mem_cons_of_mem _ hp)) h2 x hx
end
noncomputable def fH (w:World) (ak:List (D×Int)) (k:D):List (D×Int):=if (ak.any λp=>beq p.1 k)=true then ak else ak++[(k,hs w k)]
noncomputable def keyOk (w:World) (p:D×Int):Bool:=match p.1 with
 | .tup ks=>cz ks&&decide (cJ ks<=6)&&decide (p.2=hs w p.1)
 |_=>false
theorem JI {w:World} {ak:List (D×Int)} (h:ak.all (keyOk w)=true):AllK w ak:=λp hp=>by
 have:=List.all_eq_true.mp h p hp
 unfold keyOk at this
 split at this
 ·rename_i ks e
  simp only[Bool.and_eq_true,decide_eq_true_eq] at this
  exact⟨ks,e,this.1.1,this.1.2,this.2⟩
 ·cases this
theorem kJ {w:World} {ak:List (D×Int)} (k:AllK w ak) {ks:List D} (hk:cz ks=true):(ak.any λp=>beq p.1 (.tup ks))=true↔D.tup ks∈ak.map (·.1):=by
 rw[List.any_eq_true,List.mem_map]
 constructor
 ·rintro ⟨p,hp,hb⟩
  obtain⟨ls,e,k1,_⟩:=k p hp
  refine⟨p,hp,?_⟩
  exact(tV p.1 (.tup ks) (by rw[e];simpa only [kd] using k1) (by simpa only [kd] using hk)).mp hb
 ·rintro ⟨p,hp,e⟩
  exact⟨p,hp,by rw[e];exact(tV _ _ (by simpa only [kd] using hk) (by simpa only [kd] using hk)).mpr rfl⟩
theorem EA {w:World} {ak:List (D×Int)} {as:List Addr} (k:AllK w ak) (e:ak.length=as.length) (ks:List D):ks∈(XS ak as).map (·.1)↔D.tup ks∈ak.map (·.1):=by
 rw[<- Dz k e,List.mem_map,List.mem_map]
 exact⟨λ⟨x,hx,e⟩=>⟨x,hx,by rw[e]⟩,λ⟨x,hx,e⟩=>⟨x,hx,by injection e⟩⟩
theorem HD {xs:List (List D×Addr×Value)} (h:∀x∈xs,x.2.2=Value.bool true) (k:List D):xs.map (putAt k (.bool true))=xs:=by
 induction xs with
 |nil=>rfl
 |cons x xs ih =>
  rw[List.map_cons,ih λy hy=>h y (List.mem_cons_of_mem _ hy)]
  congr 1
  unfold putAt
  split
  ·obtain⟨a,b,c⟩:=x
   have:=h (a,b,c) List.mem_cons_self
   simp only at this
   rw[this]
  ·rfl
theorem DA:∀(ak:List (D×Int)) (as:List Addr),∀x∈XS ak as,x.2.2=Value.bool true
 | [],as,x,h=>by cases as<;>cases h
 |p::r,[],x,h=>by cases h
 |p::r,a::as,x,h=>by
  rcases List.mem_cons.mp h with rfl|h
  ·rfl
  ·exact DA r as x h
theorem JJ {w:World} {ak:List (D×Int)} {as:List Addr} (k:AllK w ak) (e:ak.length=as.length) {ks:List D} (hk:cz ks=true) (a:Addr) :
  storedH (XS ak as) ks a (.bool true)=XS (fH w ak (.tup ks)) (if (ak.any λp=>beq p.1 (.tup ks))=true then as else as++[a]):=by
 unfold fH
 by_cases hm:(ak.any λp=>beq p.1 (.tup ks))=true
 ·rw[if_pos hm,if_pos hm]
  have kq:=(EA k e ks).mpr ((kJ k hk).mp hm)
  cases h:atKey (XS ak as) ks with
  |none =>
   exfalso
   obtain⟨x,hx,e'⟩:=List.mem_map.mp kq
   unfold atKey at h
   rw[Option.map_eq_none_iff,List.find?_eq_none] at h
   exact h x hx (decide_eq_true e')
  |some p=>rw[storedH_old h,HD (DA ak as)]
 ·rw[if_neg hm,if_neg hm]
  have kq:ks∉(XS ak as).map (·.1):=λz=>hm ((kJ k hk).mpr ((EA k e ks).mp z))
  have h:atKey (XS ak as) ks=none:=by
   unfold atKey
   rw[Option.map_eq_none_iff,List.find?_eq_none]
   intro x hx z
   exact kq (List.mem_map.mpr ⟨x,hx,of_decide_eq_true z⟩)
  rw[storedH_new h,NY e]
  rfl
theorem K0 {w:World} {ak:List (D×Int)} (k:AllK w ak) {ks:List D} (hk:cz ks=true) (hd:cJ ks<=6):AllK w (fH w ak (.tup ks)):=by
 unfold fH
 split
 ·exact k
 ·intro p hp
  rcases List.mem_append.mp hp with hp|hp
  ·exact k p hp
  ·rw[List.mem_singleton.mp hp]
   exact⟨ks,rfl,hk,hd,rfl⟩
theorem IS {w:World} {ak:List (D×Int)} (k:AllK w ak) {ks:List D} (hk:cz ks=true) (h:(ak.map (·.1)).Nodup):((fH w ak (.tup ks)).map (·.1)).Nodup:=by
 unfold fH
 split
 ·exact h
 ·rename_i hm
  rw[List.map_append,List.nodup_append]
  refine⟨h,by simp,λa ha b hb=>?_⟩
  have:b=.tup ks:=by simpa using hb
  rw[this]
  intro z
  rw[z] at ha
  exact hm ((kJ k hk).mpr ha)
noncomputable def kY (w:World) (d k x:D) (s:ae):Option ae:=match d,k,x with
 | .aj j,.tup ks,.bl true=>match s[j]? with
  |some (.dT ak)=>if (cz ks&&decide (cJ ks<=6)&&ak.all (keyOk w)&&decide (ak.length<sizeLine))=true then some (s.set j (.dT (fH w ak (.tup ks)))) else none
  |_=>none
 |_,_,_=>none
noncomputable def gX (w:World) (f o i:DI.Env->ae->Res D):DI.Env->ae->Res Fl:=λenv s=>au (f env s) λx s=>au (o env s) λd s=>au (i env s) λn s=>match kY w d n x s with
 |some s'=>ok (.nx env) s'
 |none=>none
noncomputable def qr:DI.Env->ae->Res D:=λ_ s=>ok (.aj s.length) (s++[.dT []])
section
variable {X:Cx} {Ξ:Wd->bq->Prop} {e o i:Expr} {pos fU:Pos} {f fo fi:DI.Env->ae->Res D}
theorem Mr:PE X (.Dict [] [] pos) (λ_ H Q=>∀p,H p=none->Q (.ref p) (upd H p (.ext (DX p [])))):=λpins s σ H Q I h=>by
 refine wpAny_Dict_empty ⟨.ref s.heap.objs.size,_,I.laid (a:=s.heap.objs.size) (o:=.ext (DX s.heap.objs.size [])) (t':=s.toks) (λ_ _ q=>Heap.get?_push_of_some _ q) (Nat.le_refl _) (Fj ?_),rfl,h _ (I.aH.fresh (Nat.le_refl _))⟩
 have hb:=I.big
 exact⟨by simp only[beq_eq_false_iff_ne,ne_eq];intro z;rw[z] at hb;exact Nat.lt_irrefl _ hb,_,#[],0,Heap.get?_push_size _ rfl,⟨rfl,rfl,rfl⟩,rfl,rfl⟩
theorem EB:PE X (.Dict [] [] pos) (tE X.K Ξ qr):=cH Mr fun σ H Q aC=>by
 obtain⟨w,env,eH,S,eo,h⟩:=aC
 subst eH
 intro p hp
 have le:=(Fw.cell (o:=.ext (DX p [])) (c:=.dT []) S hp).le (K:=X.K)
 refine h (w.cell p (.ext (DX p [])) (.dT [])) le (S.xO hp ⟨[],dE,rfl,List.nodup_nil⟩) rfl (.ref p) ⟨p,?_,rfl⟩
 show (w.ρ++[p])[w.aI.length]?=some p
 rw[<- S.len]
 simp
noncomputable def Pc (K:Frag) (W:World):uA:=λo i v H Q=>∃(w:Wd) (d b:Addr) (ak:List (D×Int)) (as:List Addr) (ks:List D),w.H=H/\o=.ref d/\i=.ref b/\v=.bl true/\H d=some (.ext (DX d ((ak.map (·.2)).zip as))) /\
 AllK W ak/\ak.length<sizeLine/\DI.aq K w (ak.map (·.1)) (as.map V.ref)/\(ak.map (·.1)).Nodup/\cz ks=true/\cJ ks<=6/\DI.DV K w (.tup ks) (.ref b) /\
 Q (upd H d (.ext (DX d (((fH W ak (.tup ks)).map (·.2)).zip (if (ak.any λp=>beq p.1 (.tup ks))=true then as else as++[b])))))
theorem K1 {w:World} {ak:List (D×Int)} {as:List Addr} {ks:List D} {b:Addr} (e:ak.length=as.length):(fH w ak (.tup ks)).length=(if (ak.any λp=>beq p.1 (.tup ks))=true then as else as++[b]).length:=by
 unfold fH
 split<;>simp[e]
theorem Pd {k:Nat} (hr:cq k X.A):yg X (Pc X.K X.w):=by
 rintro pins s σ H o i v ov iv u Q I ro ri rv ⟨w,d,b,ak,as,ks,rfl,rfl,rfl,rfl,hd,cZ,hl,aw,nd,k1,k2,dk,q⟩
 cases ro;cases ri;cases rv
 have len:ak.length=as.length:=by have:=aw.length;simpa using this
 obtain⟨⟨hz,ob,es,ep,ho,hex,oK,vo⟩,_,_⟩:=I.aH _ _ hd
 have hD:s.heap.DictOfH (kind X.prog X.w) d (XS ak as):=⟨ob,es,ep,ho,hex,oK,by rw[vo,CK cZ len],Pb I cZ aw,by
  have:=Dz cZ len
  rw[<- this] at nd
  have e:(XS ak as).map (λx=>D.tup x.1)=((XS ak as).map (·.1)).map D.tup:=by rw[List.map_map];rfl
  rw[e] at nd
  exact List.Pairwise.of_map D.tup (λa b h e=>h (by rw[e])) nd⟩
 have hu:X.A.units+100<cLine:=by have:=hr.un;have:cLine=9900:=rfl;omega
 refine wpAny_setItem_heap (hsz:=by rw[NZ len];exact Nat.le_of_lt hl) (knd:=kind X.prog X.w) (show X.A.in1.units+10<cLine from ?_) ⟨k1,k2,xT I (.tup ks) (.ref b) (.ref b) (by simpa only [kd] using k1) dk rfl⟩ hD λh' GI hs=>⟨_,?_,q⟩
 ·have:X.A.in1.units<=X.A.units+1:=by first|exact Nat.le_refl _|exact Nat.le_succ _
  omega
 ·rw[JJ cZ len k1] at GI
  obtain⟨o',ff,qL,dg,QC,Pe,QD,_⟩:=GI
  refine LY I (by rw[hd];exact True.intro) hs ⟨o',dg⟩ (Fj ⟨hz,o',ff,qL,dg,QC,Pe,?_⟩)
  rw[QD]
  exact(CK (K0 cZ k1 k2) (K1 len)).symm
theorem tW {k:Nat} {W:World} (hW:X.w=W) (hr:cq k X.A) (he:PE X e (tE X.K Ξ f)) (ho:PE X o (tE X.K Ξ fo)) (hi:PE X i (tE X.K Ξ fi))
  (ha:∀v,assign (.Subscript o i fU) X.env v=(do
   let ov <- holding [v] (eval o X.env)
   let iv <- holding [v,ov] (eval i X.env)
   standAt fU
   holding [v,ov,iv] (setItem ov iv v)
   release [v,ov,iv] []):=by intro _;rfl)
  (hs:swapsWithSole [.Subscript o i fU] e pos.line X.env=pure false:=by rfl) (hw:swappedStores [.Subscript o i fU] e X.env=pure none:=by rfl)
  (h1:(assignEach [.Subscript o i fU] X.env).map (·.2)=[assign (.Subscript o i fU) X.env]:=by rfl):PS X (.Assign [.Subscript o i fU] e pos) (tS X.K Ξ (gX W f fo fi)) :=
 iw (xg he (D2 ho hi (Pd hr) ha) hs hw h1) λD0 σ H aC=>by
  subst hW
  obtain⟨w,env,eH,S,eo,h⟩:=aC
  subst eH
  refine⟨w,env,rfl,S,eo,(Out.au h).mono λw1 x l1 S1 h1 u du=>?_⟩
  refine⟨w1,env,rfl,S1,eo.le l1,(Out.au h1).mono λw2 d l2 S2 h2 v dv=>?_⟩
  refine⟨w2,env,rfl,S2,eo.le (l1.trans l2),(Out.au h2).mono λw3 n l3 S3 h3 m dm=>?_⟩
  cases hd:kY X.w d n x w3.aI with
  |none=>rw[hd] at h3;exact h3.elim
  |some s' =>
   rw[hd] at h3
   unfold kY at hd
   split at hd
   ·rename_i j ks
    split at hd
    ·rename_i ak hj
     split at hd
     ·rename_i hc
      simp only[Bool.and_eq_true,decide_eq_true_eq] at hc
      obtain⟨⟨⟨k1,k2⟩,k3⟩,k4⟩:=hc
      cases hd
      obtain⟨a,e1,rfl⟩:=(l3 _ _ dv)
      obtain⟨as,q1,q2,q3⟩:=S3.cell j a _ e1 hj
      have cZ:=JI k3
      have eu:u=.bl true:=((l2.trans l3) _ _ du)
      have GJ:=dm
      simp only[DI.DV] at GJ
      obtain⟨b,_,rfl,_⟩:=GJ
      have len:ak.length=as.length:=by have:=q2.length;simpa using this
      have le:=(Fw.put (o:=.ext (DX a (((fH X.w ak (.tup ks)).map (·.2)).zip (if (ak.any λp=>beq p.1 (.tup ks))=true then as else as++[b])))) (c:=.dT (fH X.w ak (.tup ks))) S3 e1 hj (by intro z;cases z)).le
      refine⟨w3,a,b,ak,as,ks,rfl,rfl,rfl,eu,q1,cZ,k4,q2,q3,k1,k2,dm,?_⟩
      refine h3 (w3.put j a _ _) le (S3.yx e1 hj (by intro z;cases z) ⟨_,dE,?_,IS cZ k1 q3⟩) rfl σ (eo.le (l1.trans (l2.trans (l3.trans le))))
      refine le.all ?_
      unfold fH
      split
      ·exact q2
      ·rw[List.map_append,List.map_append]
       exact q2.append (aq.one dm)
     ·cases hd
    ·cases hd
   ·cases hd
end
end TK
namespace TK
open PySem PySem.W PyProof.Rows DI L2
def ia (h:Heap) (d:Addr) (es:Array DictEntry) (ep:Nat):Prop:=∃o,h.get? d=some o/\o.ExactDict/\o.data=.dict es ep
section
variable {prog:Program} {w:World} {A:Around} {E:Value->Shared->Prop} {s:Shared} {d it:Addr} {es:Array DictEntry} {ep i:Nat}
theorem ia.ty (r:ia s.heap d es ep):s.TypeIs (.ref d) "dict":=by obtain⟨o,ho,x,_⟩:=r;exact⟨o,ho,x.1⟩
theorem ia.lt {h:Heap} (r:ia h d es ep):d<h.objs.size:=by obtain⟨o,ho,_⟩:=r;exact Heap.lt_size ho
theorem K2 {Q:Value->Shared->Prop} (hd:(d==sysModules)=false) (r:ia s.heap d es ep)
  (hQ:Q (.ref s.heap.objs.size) { s with heap:=s.heap.push { cls:=.type "dict_keyiterator",data:=.fields #[.ref d,.int 0 0,.int es.size 0,.int ep 0] } }):wpAny (model prog w) A (pyIter (.ref d)) Q E s:=by
 have ty:=r.ty
 obtain⟨o,ho,x,oK⟩:=r
 refine wpAny_pyIter_slot ty F.slot_dict_iter (wpAny_call_entry F.slot_dict_iter ty F.entry_dict_iter ?_ (F.args_dict_iter_1 _))
 unfold Builtin.«dict.__iter__» Builtin.Dict.dictSlotNone
 refine wpAny_bind (wpAny_bind (wpAny_notOrdered_dict ty ?_))
 refine(wpAny_pure ?_:wpAny _ _ (pure (Value.ref d)) _ _ s)
 show wpAny _ _ (Builtin.Dict.showsAll d >>= _) _ _ s
 unfold Builtin.Dict.showsAll
 rw[if_neg (by rw[hd];decide)]
 refine wpAny_bind (wpAny_pure (wpAny_bind (wpAny_dictEntries ho oK (wpAny_bind (wpAny_dictEpoch ho oK ?_)))))
 refine wpAny_bind (wpAny_newObj_type (wpAny_pure ⟨_,rfl,"dict_keyiterator",_,⟨_,Heap.get?_push_size _ rfl,rfl⟩,F.slot_dict_keyiterator_next.lookup,?_⟩))
 simpa [rawInt] using hQ
theorem K3 {Q:Option Value->Shared->Prop} (hit:s.heap.IsKeyIter it d i es.size ep) (r:ia s.heap d es ep) {e:DictEntry} (he:es[i]?=some e)
  (hQ:∀h',h'.IsKeyIter it d (i+1) es.size ep->Heap.SameBut it s.heap h'->Q (some e.key) { s with heap:=h' }):wpAny (model prog w) A (pyNext (.ref it)) Q E s:=by
 obtain⟨oi,pq,ci,di⟩:=id hit
 obtain⟨od,rK,_,mZ⟩:=r
 have own:Builtin.Dict_items.ownsTuple "dict_keyiterator"=false:=by decide
 unfold pyNext
 refine wpAny_bind (wpAny_attempt (wpAny_callSpecial?_slot (name:=Str.ofString "__next__") hit.typeIs F.slot_dict_keyiterator_next (wpAny_call_entry F.slot_dict_keyiterator_next hit.typeIs F.entry_dict_keyiterator_next ?_ (F.args_dict_keyiterator_next_1 _))))
 refine wpAny_bind (wpAny_pure (wpAny_bind (wpAny_bind (wpAny_bind (wpAny_typeNameOfWhole_keyiter hit.typeIs (wpAny_pure (wpAny_bind (wpAny_fieldsOf pq di ?_))))))))
 simp only[own,Bool.false_eq_true,if_false]
 refine(show wpAny _ _ (if (Value.ref d==Value.none)=true then _ else _) _ _ s from ?_)
 rw[if_neg (show ¬ ((Value.ref d==Value.none)=true) by intro z;cases z)]
 refine wpAny_bind (wpAny_pure (wpAny_bind (wpAny_dictEntries rK mZ ?_)))
 rw[if_neg (by simp)]
 refine wpAny_bind (wpAny_pure (wpAny_bind (wpAny_dictEpoch rK mZ ?_)))
 rw[if_neg (by simp)]
 refine wpAny_pure ?_
 simp only[show ¬ ((i:Int)<0) by omega,if_false,Int.toNat_natCast,he]
 refine wpAny_bind (wpAny_bind (wpAny_typeNameOfWhole_keyiter hit.typeIs (wpAny_pure (wpAny_bind (wpAny_isOneOf_keyiter hit.typeIs ?_)))))
 show wpAny _ _ (setField (.ref it) 1 (rawInt ((i:Int)+1)) >>= _) _ _ s
 refine wpAny_bind (wpAny_setField pq di (by simp) ?_)
 generalize hh:s.heap.update it (Obj.mapFields (·.setIfInBounds 1 (rawInt ((i:Int)+1))))=h'
 have sb:Heap.SameBut it s.heap h':=by rw[<- hh];exact Heap.SameBut.update ..
 have nx:h'.IsKeyIter it d (i+1) es.size ep:=by
  rw[<- hh]
  exact⟨_,Heap.get?_update_self _ pq (Obj.isFreed_of_fields (Obj.data_mapFields di _)),(Obj.cls_mapFields ..).trans ci,by rw[Obj.data_mapFields di];simp[rawInt]⟩
 refine wpAny_bind (wpAny_holding (wpAny_bind (wpAny_isOneOf_keyiter (s:={ s with heap:=h' }) nx.typeIs ?_)))
 show wpAny _ _ (pure e.key) _ _ _
 exact wpAny_pure (wpAny_pure ⟨_,rfl,wpAny_pure (hQ _ nx sb)⟩)
theorem Ms {Q:Option Value->Shared->Prop} (hh:A.handled=none) (hit:s.heap.IsKeyIter it d i es.size ep) (r:ia s.heap d es ep) (u5:es.size<=i)
  (hQ:∀h',Heap.ExtBut it s.heap h'->Q none { s with heap:=h' }):wpAny (model prog w) A (pyNext (.ref it)) Q E s:=by
 obtain⟨oi,pq,ci,di⟩:=id hit
 obtain⟨od,rK,_,mZ⟩:=r
 have own:Builtin.Dict_items.ownsTuple "dict_keyiterator"=false:=by decide
 unfold pyNext
 refine wpAny_bind (wpAny_attempt (wpAny_callSpecial?_slot (name:=Str.ofString "__next__") hit.typeIs F.slot_dict_keyiterator_next (wpAny_call_entry F.slot_dict_keyiterator_next hit.typeIs F.entry_dict_keyiterator_next ?_ (F.args_dict_keyiterator_next_1 _))))
 refine wpAny_bind (wpAny_pure (wpAny_bind (wpAny_bind (wpAny_bind (wpAny_typeNameOfWhole_keyiter hit.typeIs (wpAny_pure (wpAny_bind (wpAny_fieldsOf pq di ?_))))))))
 simp only[own,Bool.false_eq_true,if_false]
 refine(show wpAny _ _ (if (Value.ref d==Value.none)=true then _ else _) _ _ s from ?_)
 rw[if_neg (show ¬ ((Value.ref d==Value.none)=true) by intro z;cases z)]
 refine wpAny_bind (wpAny_pure (wpAny_bind (wpAny_dictEntries rK mZ ?_)))
 rw[if_neg (by simp)]
 refine wpAny_bind (wpAny_pure (wpAny_bind (wpAny_dictEpoch rK mZ ?_)))
 rw[if_neg (by simp)]
 refine wpAny_pure ?_
 simp only[show ¬ ((i:Int)<0) by omega,if_false,Int.toNat_natCast,Array.getElem?_eq_none u5]
 refine wpAny_bind (wpAny_bind (wpAny_typeNameOfWhole_keyiter hit.typeIs (wpAny_pure ?_)))
 refine(wpAny_bind (wpAny_setField pq di (by simp) ?_):wpAny _ _ (setField (.ref it) 0 .none >>= _) _ _ s)
 show wpAny _ _ (newExc (.type "StopIteration") [] >>= _) _ _ _
 simp only[newExc,newTuple]
 refine wpAny_bind (wpAny_bind (wpAny_newObj_type ?_ (by size_fits)))
 refine wpAny_bind (m:=firstArgMember _ _) (wpAny_of_eq (a:=Value.none) (by first|rfl | (simp only[firstArgMember];rfl)) (wpAny_newObj_type ?_ (by size_fits)))
 simp only[raiseNew]
 refine wpAny_bind (wpAny_handled ?_)
 rw[show A.in1.handled=none from hh]
 refine wpAny_bind (wpAny_pure (wpAny_throw ?_))
 refine wpAny_bind (wpAny_isInstance (T:="StopIteration") (b:=true) ⟨_,Heap.get?_push_size _ rfl,rfl⟩ isSubtype_stop ?_)
 exact wpAny_pure (hQ _ (((Heap.SameBut.update ..).extBut.push _).push _))
theorem ia.at {h h':Heap} (r:ia h d es ep) (k:∀o,h.get? d=some o->h'.get? d=some o):ia h' d es ep:=by obtain⟨o,ho,x⟩:=r;exact⟨o,k o ho,x⟩
theorem JK (hh:A.handled=none) (I:Addr) (gv:d≠I) :
  Walks prog w A I [I,d] [I] es.size (λi v=>∃e,es[i]?=some e/\v=e.key) (λi h=>h.IsKeyIter I d i es.size ep/\ia h d es ep) where
 sub:=λb hb=>by simp at hb;simp[hb]
 frame:=λ_ _ _ st hk=>⟨st.1.at λo e=>hk I (by simp) o e,st.2.at λo e=>hk d (by simp) o e⟩
 item:=λi s Q E hi st hQ=>by
  have he:es[i]?=some es[i]:=by simp[hi]
  exact K3 st.1 st.2 he λh' nx sb=>hQ _ h' s.toks ⟨_,he,rfl⟩ ⟨nx,st.2.at λo e=>sb.extBut d o gv e⟩ λb o hb e=>sb.extBut b o (λh=>hb (by simp[h])) e
 done:=λs Q E st hQ=>Ms hh st.1 st.2 (Nat.le_refl _) λh' RX=>hQ h' s.toks λb o hb e=>RX b o (λh=>hb (by simp[h])) e
 self:=λ_ _ _ _ st hQ=>wpAny_pyIter_keyiter st.1 hQ
theorem Mt (lo:(d==sysModules)=false):KdlSrc prog w "dict" d d es.size (λi v=>∃e,es[i]?=some e/\v=e.key) (λh=>ia h d es ep) where
 type:=λ_ hm=>hm.ty
 there:=λ_ hm=>⟨hm.lt,hm.lt⟩
 keep:=λ_ _ hm hk=>hm.at λo e=>hk d (.inl rfl) o e
 notList:=by decide
 notTuple:=by decide
 hint:=λ_ _ _ _ hm hq=>kdl_hint_dict hm.ty hq
 iter:=λ_ _ hh hm=>⟨_,_,(λ_ _ hq=>K2 lo hm hq),JK hh _ (Nat.ne_of_lt hm.lt),⟨⟨_,Heap.get?_push_size _ rfl,rfl,rfl⟩,hm.at λo e=>Heap.get?_push_of_some _ e⟩⟩
end
noncomputable def l7 (ds:List D) (s:ae):Res D:=match ds with
 | [.aj j]=>match s[j]? with
  |some (.dT ak)=>if ak.length<=sizeLine then ok (.lst (ak.map (·.1))) s else none
  |_=>none
 |_=>none
theorem CL:∀as:List Addr,Vals (as.map V.ref) (as.map Value.ref)
 | []=>.nil
 |_::as=>.cons rfl (CL as)
section
variable {X:Cx} {Ξ:Wd->bq->Prop}
theorem DB (hc:X.calm=true):bV X (.type "list") (rC X.K Ξ l7):=by
 rintro pins s σ H xs us Q I r ⟨w,ds,rfl,S,aw,h⟩
 unfold l7 at h
 split at h
 ·rename_i j
  split at h
  ·rename_i ak hj
   split at h
   ·rename_i hl
    obtain⟨v,r',rfl,h1,h2⟩:=aw
    cases h2
    obtain⟨a,e1,rfl⟩:=h1
    cases r with
    |cons r rs =>
    cases rs
    cases r
    obtain⟨as,q1,q2,q3⟩:=S.cell j a _ e1 hj
    have len:ak.length=as.length:=by have:=q2.length;simpa using this
    obtain⟨⟨hz,ob,es,ep,ho,hex,oK,vo⟩,_,_⟩:=I.aH _ _ q1
    have ez:es.size=as.length:=by rw[<- Array.length_toList,vo];simp[len]
    refine kdl_call (Mt hz) (I.ok.hd hc) (⟨ob,ho,hex,oK⟩:ia s.heap a es ep) (by rw[ez,<- len];exact hl) λh' tk eJ c' hk hD jv=>?_
    have hf:w.H s.heap.objs.size=none:=I.aH.fresh (Nat.le_refl _)
    have ev:eJ.toList=as.map Value.ref:=by
     apply List.ext_getElem?
     intro i
     rw[Array.getElem?_toList]
     by_cases hi:i<as.length
     ·have zt:i<eJ.size:=by rw[jv.1,ez];exact hi
      have h3:eJ[i]?=some eJ[i]:=Array.getElem?_eq_getElem zt
      obtain⟨e,he,ev⟩:=jv.2 i _ h3
      rw[h3,ev]
      rw[<- Array.getElem?_toList,vo] at he
      have RY:i<ak.length:=by omega
      simp only[List.getElem?_map,List.zip,List.getElem?_zipWith,List.getElem?_eq_getElem RY,List.getElem?_eq_getElem hi,Option.map_some] at he |-
      rw[<- Option.some.inj he]
     ·rw[Array.getElem?_eq_none (by rw[jv.1,ez];omega),List.getElem?_eq_none (by rw[List.length_map];omega)]
    refine⟨.ref s.heap.objs.size,upd w.H s.heap.objs.size (.lst (as.map V.ref)),I.laid (t':=tk) hk (Nat.le_refl _) ?_,rfl,?_⟩
    ·refine⟨by rw[List.length_map,<- len];exact hl,eJ.toList,c',?_,by simpa using hD⟩
     rw[ev]
     exact CL as
    ·exact h (w.grow _ (.lst (as.map V.ref))) (Fw.grow hf).le (S.grow hf) rfl (.ref s.heap.objs.size) ⟨_,_,rfl,⟨(show ¬ w.Z _ from nZ S hf),dE⟩,(Fw.grow hf).le.all q2⟩
   ·exact h.elim
  ·exact h.elim
 ·exact h.elim
end
end TK
namespace TK
open PySem PySem.W PyProof.Rows DI L2 HT
section
variable {s:Shared}
theorem Pf {A:Around} {x y:D} {vx vy:Value} (kx:kd x=true) (ky:kd y=true) (hu:A.units+dep x<cLine) (hx:KA s.heap x vx) (hy:KA s.heap y vy):SeqAt.EqAt A s vx vy (beq x y):=by
 obtain⟨as,r1⟩:=KA.reads _ _ hx
 obtain⟨bs,r2⟩:=KA.reads _ _ hy
 obtain⟨p1,p2⟩:=iR _ (l6 _ kx)
 obtain⟨q1,q2⟩:=iR _ (l6 _ ky)
 have:=SeqAt.eqAt_reads _ _ A s vx vy as bs r1 r2 p1 q1 (by rw[p2];omega)
 rw[n5 _ _ (l6 _ kx) (l6 _ ky)] at this
 exact this
mutual
theorem Ph:∀(A:Around) (x y:D) (b:Bool) (vx vy:Value),gM x y=some b->kd x=true->kd y=true->A.units+5*dep x+5<cLine->KA s.heap x vx->KA s.heap y vy->yK A s vx vy b
 |A,.int i,y,b,vx,vy,h,_,_,_,hx,hy=>by
  cases y with
  |int j =>
   cases h
   obtain⟨t,rfl⟩:=hx
   obtain⟨t',rfl⟩:=hy
   exact λprog w E Q q=>Cs A s i t j t' prog w E Q q
  |_=>cases h
 |A,.str i,y,b,vx,vy,h,_,_,_,hx,hy=>by
  cases y with
  |str j =>
   cases h
   obtain⟨t,rfl⟩:=hx
   obtain⟨t',rfl⟩:=hy
   exact λprog w E Q q=>(PyProof.Rows.lt_str q:wpAny (model prog w) A (compareOp .Lt (.str i t) (.str j t')) Q E s)
  |_=>cases h
 |A,.tup xs,y,b,vx,vy,h,kx,ky,hu,hx,hy=>by
  cases y with
  |tup ys =>
   simp only[gM] at h
   simp only[KA] at hx hy
   obtain⟨a,o,its,n,rfl,ho,hc,hd,r⟩:=hx
   obtain⟨a',o',its',n',rfl,dg,jD,gm,r'⟩:=hy
   simp only[dep] at hu
   simp only[kd] at kx ky
   exact λprog w E Q q=>Ds ⟨o,ho,hc,n,hd⟩ ⟨o',dg,jD,n',gm⟩ (λA' hA=>xu A' xs ys b _ _ h kx ky (by omega) r r') (by omega) q
  |_=>cases h
 |_,.aA,_,_,_,_,_,k,_,_,_,_=>by cases k
 |_,.bl _,_,_,_,_,_,k,_,_,_,_=>by cases k
 |_,.lst _,_,_,_,_,_,k,_,_,_,_=>by cases k
 |_,.bp _,_,_,_,_,_,k,_,_,_,_=>by cases k
 |_,.aj _,_,_,_,_,_,k,_,_,_,_=>by cases k
 |_,.ty _,_,_,_,_,_,k,_,_,_,_=>by cases k
 |_,.bC _,_,_,_,_,_,k,_,_,_,_=>by cases k
theorem xu:∀(A:Around) (xs ys:List D) (b:Bool) (ps qs:List Value),hZ xs ys=some b->cz xs=true->cz ys=true->A.units+5*cJ xs+5<cLine->cA s.heap xs ps->cA s.heap ys qs->gU A s ps qs b
 |A,[],ys,b,ps,qs,h,_,_,_,hx,hy=>by
  cases hx
  cases ys with
  |nil=>cases h;cases hy;exact .nn
  |cons y ys=>cases h;obtain⟨v,r,rfl,_⟩:=hy;exact .nc _ _
 |A,x::xs,ys,b,ps,qs,h,kx,ky,hu,hx,hy=>by
  obtain⟨v,r,rfl,h1,h2⟩:=hx
  cases ys with
  |nil=>cases h;cases hy;exact .cn _ _
  |cons y ys =>
   obtain⟨u,r',rfl,g1,g2⟩:=hy
   simp only[cz,Bool.and_eq_true] at kx ky
   simp only[cJ] at hu
   have m1:=Nat.le_max_left (dep x) (cJ xs)
   have m2:=Nat.le_max_right (dep x) (cJ xs)
   have he:=Pf (A:=A) kx.1 ky.1 (by omega) h1 g1
   simp only[hZ] at h
   split at h
   ·rename_i hb
    rw[hb] at he
    exact .eq he (xu A xs ys b _ _ h kx.2 ky.2 (by omega) h2 g2)
   ·rename_i hb
    rw[Bool.not_eq_true] at hb
    rw[hb] at he
    exact .lt he (Ph A x y b _ _ h kx.1 ky.1 (by omega) h1 g1)
end
end
section
variable {prog:Program} {w:World} {A:Around} {E:Value->Shared->Prop} {s:Shared}
theorem JL {t fin:Bool} {Q:Bool->Shared->Prop} {xs ys:List Value} {b:Bool} (h:gU A s xs ys b):∀(i:Nat),fin=decide (xs.length<ys.length)->Q b s->KatLex prog w A t fin Q (xs.zip ys) (i+1) s:=by
 induction h with
 |nn=>intro i hf q;rw[hf];exact q
 |nc y ys=>intro i hf q;rw[hf];exact q
 |cn x xs=>intro i hf q;rw[hf];exact q
 |eq he _ ih =>
  intro i hf q
  rw[List.zip_cons_cons]
  exact kat_cons (he prog w _ _ (kat_yes (ih (i+1) (by rw[hf];simp) q)))
 |lt he hr =>
  intro i hf q
  rw[List.zip_cons_cons]
  refine kat_cons (he prog w _ _ (kat_no ?_))
  rw[show (t&&(i+1==0))=false by simp]
  exact kat_one _ _ (hr prog w _ _ q)
theorem JM {fin:Bool} {Q:Bool->Shared->Prop} {x y:Str} {t u:Tok} {xs ys:List Value} {b:Bool} (hs:x=y->gU A s xs ys b) (hf:fin=decide (xs.length<ys.length)) (q:Q (if x=y then b else decide (x.cps.toList<y.cps.toList)) s) :
  KatLex prog w A true fin Q ((.str x t::xs).zip (.str y u::ys)) 0 s:=by
 rw[List.zip_cons_cons]
 refine kat_cons (wpAny_eqBool_str ?_)
 by_cases e:x=y
 ·rw[if_pos e] at q
  rw[decide_eq_true e]
  exact kat_yes (JL (hs e) 0 hf q)
 ·rw[if_neg e] at q
  rw[decide_eq_false e]
  exact kat_no (oneLt_str q)
end
inductive Pg where
 |made (m d:Int) (h l:List Int)
 |bL (m d k:Int)
noncomputable def ti (l:List Int):D:=.tup (l.map D.int)
noncomputable def Pg.d:Pg->D
 | .made m d h l=>.tup [.str "made",.int m,.int d,.tup [ti h,ti l]]
 | .bL m d k=>.tup [.str "mended",.int m,.int d,.int k]
theorem EC {a b:List Int} (h:ti a=ti b):a=b:=by
 injection h with h
 exact List.map_inj_right (λx y e=>by injection e) |>.mp h
theorem Pg.Pj {p q:Pg} (h:p.d=q.d):p=q:=by
 cases p<;>cases q<;>simp only[Pg.d,D.tup.injEq,List.cons.injEq,D.int.injEq,and_true,reduceCtorEq,and_false,false_and] at h
 ·obtain⟨_,h1,h2,h3,h4⟩:=h
  rw[h1,h2,EC h3,EC h4]
 ·obtain⟨_,h1,h2,h3⟩:=h
  rw[h1,h2,h3]
noncomputable def encL:List Int->List Int
 | []=>[0]
 |x::xs=>1::x::encL xs
noncomputable def Pg.enc:Pg->List Int
 | .made m d h l=>0::m::d::(encL h++encL l)
 | .bL m d k=>[1,m,d,k]
theorem wk:∀{a b u v:List Int},encL a++u=encL b++v->a=b/\u=v
 | [],[],u,v,h=>by simpa [encL] using h
 | [],y::b,u,v,h=>by simp[encL] at h
 |x::a,[],u,v,h=>by simp[encL] at h
 |x::a,y::b,u,v,h=>by
  simp only[encL,List.cons_append,List.cons.injEq,true_and] at h
  obtain⟨h1,h2⟩:=wk h.2
  exact⟨by rw[h.1,h1],h2⟩
theorem Pg.Mu {p q:Pg} (h:p.enc=q.enc):p=q:=by
 cases p<;>cases q<;>simp only[Pg.enc,List.cons.injEq,and_true,true_and,reduceCtorEq,false_and,Int.reduceEq] at h
 ·obtain⟨h1,h2,h3⟩:=h
  have h4:=wk (u:=encL _++[]) (v:=encL _++[]) (by simpa using h3)
  have h5:=wk h4.2
  rw[h1,h2,h4.1,h5.1]
 ·rw[h.1,h.2.1,h.2.2]
noncomputable def dI:ST.Ord Pg where
 lt p q:=lexLt p.enc q.enc
 zR p:=ST.wU _
 tr _ _ _ h g:=ST.NQ _ _ _ h g
 rH _ _ h g:=Pg.Mu (ST.Mo _ _ h g)
theorem BX:∀a b:List Int,gI (a.map D.int) (b.map D.int)=decide (a=b)
 | [],[]=>rfl
 | [],_::_=>rfl
 |_::_,[]=>rfl
 |x::a,y::b=>by
  simp only[List.map_cons,gI,beq,BX a b]
  by_cases e:x=y<;>simp[e]
theorem BY:∀a b:List Int,hZ (a.map D.int) (b.map D.int)=some (lexLt a b)
 | [],[]=>rfl
 | [],_::_=>rfl
 |_::_,[]=>rfl
 |x::a,y::b=>by
  simp only[List.map_cons,hZ,beq,gM,ip,BY a b]
  by_cases e:x=y<;>simp[e]
theorem wV:∀a b u v:List Int,lexLt (encL a++u) (encL b++v)=if a=b then lexLt u v else lexLt a b
 | [],[],u,v=>by simp[encL,ip]
 | [],y::b,u,v=>by simp[encL,ip];rfl
 |x::a,[],u,v=>by simp[encL,ip];rfl
 |x::a,y::b,u,v=>by
  simp only[encL,List.cons_append,ip,if_true,wV a b u v,List.cons.injEq]
  by_cases e:x=y<;>simp[e]
theorem Fm (p q:Pg):gM p.d q.d=some (dI.lt p q):=by
 have n1:¬ ((Str.ofString "made")=Str.ofString "mended"):=by decide +kernel
 have n2:¬ ((Str.ofString "mended")=Str.ofString "made"):=by decide +kernel
 have s1:decide ((Str.ofString "made").cps.toList<(Str.ofString "mended").cps.toList)=true:=by decide +kernel
 have s2:decide ((Str.ofString "mended").cps.toList<(Str.ofString "made").cps.toList)=false:=by decide +kernel
 show _=some (lexLt p.enc q.enc)
 cases p with
 |made m d h l =>
  cases q with
  |made m' d' h' l' =>
   simp only[Pg.d,Pg.enc,gM,hZ,beq,gI,ti,ip,BX,BY,wV,beq_self_eq_true,if_true,Bool.and_true]
   have:=wV l l' [] []
   simp only[List.append_nil] at this
   rw[this]
   by_cases e1:m=m'<;>by_cases e2:d=d'<;>by_cases e3:h=h'<;>by_cases e4:l=l'<;>simp[e1,e2,e3,e4,ST.wU]
  |bL m' d' k'=>simp only[Pg.d,Pg.enc,gM,hZ,beq,ip,beq_iff_eq,n1,s1,if_false];simp
 |bL m d k =>
  cases q with
  |made m' d' h' l'=>simp only[Pg.d,Pg.enc,gM,hZ,beq,ip,beq_iff_eq,n2,s2,if_false];simp
  |bL m' d' k' =>
   simp only[Pg.d,Pg.enc,gM,hZ,beq,ip,beq_self_eq_true,if_true]
   by_cases e1:m=m'<;>by_cases e2:d=d'<;>by_cases e3:k=k'<;>simp[e1,e2,e3,ST.wU]
theorem Mv (l:List Int):cz (l.map D.int)=true:=by
 induction l with
 |nil=>rfl
 |cons x l ih=>simpa only [List.map_cons,cz,kd,Bool.true_and] using ih
theorem K4 (l:List Int):cJ (l.map D.int)=0:=by
 induction l with
 |nil=>rfl
 |cons x l ih=>simp only[List.map_cons,cJ,dep,ih];rfl
theorem mz (p:Pg):kd p.d=true:=by
 have s1:PyData.strOk "made"=true:=by decide +kernel
 have s2:PyData.strOk "mended"=true:=by decide +kernel
 cases p<;>simp only[Pg.d,kd,cz,ti,Mv,s1,s2,Bool.and_self]
theorem xw (p:Pg):dep p.d<=3:=by
 cases p<;>simp only[Pg.d,dep,cJ,ti,K4]<;>decide
theorem CM (p:Pg):∃(x:Str) (r:List D),p.d=.tup (.str x::r):=by
 cases p<;>exact⟨_,_,rfl⟩
theorem xU {h:Heap} {p:Pg} {v:Value} (q:KA h p.d v):∃(x:Str) (r:List D) (a:Addr) (o:Obj) (its:Array Value) (n:Nat) (t:Tok) (us:List Value),p.d=.tup (.str x::r)/\v=.ref a/\h.get? a=some o/\o.cls=.type "tuple"/\o.data=.seq its n/\its.toList=.str x t::us/\cA h r us/\cz r=true:=by
 obtain⟨x,r,e⟩:=CM p
 have k:=mz p
 rw[e] at q k
 simp only[KA] at q
 obtain⟨a,o,its,n,e1,ho,hc,hd,u,us,e2,⟨t,e3⟩,r2⟩:=q
 simp only[kd,cz,Bool.and_eq_true] at k
 exact⟨x,r,a,o,its,n,t,us,e,e1,ho,hc,hd,by rw[e2,e3],r2,k.2⟩
section
variable {prog:Program} {w:World} {A:Around} {E:Value->Shared->Prop} {s:Shared}
theorem JN:∀{ps:List Pg} {us:List Value},cA s.heap (ps.map Pg.d) us->∃fs,KatTups s.heap us fs/\(∀v∈fs,∃x t,v=Value.str x t)/\fs.length=us.length:=by
 intro ps
 induction ps with
 |nil=>intro us h;cases h;exact⟨[],KatTups.nil,λv (hv:v∈[])=>(List.not_mem_nil hv).elim,rfl⟩
 |cons p ps ih =>
  intro us h
  obtain⟨v,r,rfl,h1,h2⟩:=h
  obtain⟨fs,k1,k2,k3⟩:=ih h2
  obtain⟨x,_,a,o,its,n,t,vs,_,rfl,ho,hc,hd,hi,_⟩:=xU h1
  refine⟨.str x t::fs,.cons ho hc hd (by rw[<- Array.getElem?_toList,hi];rfl) k1,λv hv=>?_,by simp[k3]⟩
  rcases List.mem_cons.mp hv with rfl|hv
  ·exact⟨x,t,rfl⟩
  ·exact k2 v hv
theorem kas_get {h:Heap}:∀{ds:List D} {us:List Value},cA h ds us->∀i,i<us.length->KA h (ds.getD i .aA) (us.getD i Value.none):=by
 intro ds
 induction ds with
 |nil=>intro us h i hi;cases h;cases hi
 |cons d ds ih =>
  intro us h i hi
  obtain⟨v,r,rfl,h1,h2⟩:=h
  cases i with
  |zero=>exact h1
  |succ i=>exact ih h2 i (by simpa using hi)
theorem Mw {h:Heap}:∀{ds:List D} {us:List Value},cA h ds us->ds.length=us.length:=by
 intro ds
 induction ds with
 |nil=>intro us h;cases h;rfl
 |cons d ds ih=>intro us h;obtain⟨v,r,rfl,h1,h2⟩:=h;simp[ih h2]
theorem N0 {p q:Pg} {v u:Value} {C:Bool->Shared->Prop} (hu:A.units+100<cLine) (h1:KA s.heap p.d v) (h2:KA s.heap q.d u) (hC:C (dI.lt p q) s):wpAny (model prog w) A (keyLt' (tuples' true) v u) C E s:=by
 obtain⟨x,r,a,o,its,n,t,vs,e,rfl,ho,hc,hd,hi,kr,k⟩:=xU h1
 obtain⟨x',r',a',o',its',n',t',Tz,e',rfl,dg,jD,gm,pk,RZ,k'⟩:=xU h2
 have dl:=xw p
 rw[e] at dl
 simp only[dep,cJ] at dl
 have lt:=Fm p q
 rw[e,e'] at lt
 simp only[gM,hZ] at lt
 have be:beq (.str x) (.str x')=true↔x=x':=by simp[beq]
 refine kat_lt ho hd dg gm ?_
 rw[hi,pk]
 refine JM (b:=dI.lt p q) (λex=>?_) ?_ ?_
 ·rw[if_pos (be.mpr ex)] at lt
  exact xu A r r' _ _ _ lt k k' (by have:=Nat.le_max_right (0:Nat) (cJ r);omega) kr RZ
 ·simp[<- Array.length_toList,hi,pk]
 ·by_cases ex:x=x'
  ·rw[if_pos ex];exact hC
  ·rw[if_neg λz=>ex (be.mp z)] at lt
   rw[if_neg ex,Option.some.inj lt]
   exact hC
theorem K5 {us:List Value} {ps:List Pg} (t:cA s.heap (ps.map Pg.d) us) (h2:2<=us.length) (hu:A.units+100<cLine) (d:Pg):ST.uR prog w A dI (λi=>ps.getD i d) us s:=by
 obtain⟨fs,k1,k2,k3⟩:=JN t
 have hl:=Mw t
 rw[List.length_map] at hl
 have at_:∀i,i<us.length->KA s.heap (ps.getD i d).d (us.getD i Value.none):=λi hi=>by
  have:=kas_get t i hi
  rwa [show (ps.map Pg.d).getD i .aA=(ps.getD i d).d by simp[List.getD,List.getElem?_map,List.getElem?_eq_getElem (show i<ps.length by omega)]] at this
 unfold ST.uR
 refine kat_kind (T:=.type "str") k1 (by omega) (λv hv=>?_) (by decide) ⟨rfl,λi j C hi hj hC=>?_⟩
 ·obtain⟨x,tk,rfl⟩:=k2 v hv
  exact .of_pure rfl
 ·exact N0 hu (at_ i hi) (at_ j hj) hC
end
end TK
namespace TK
open PySem PySem.W PyProof.Rows DI L2
open Classical in
noncomputable def uu (xs:List D):Option D:=if h:∃ps:List Pg,xs=ps.map Pg.d then some (.lst ((ST.iB dI (Classical.choose h)).map Pg.d)) else none
theorem IT:∀{a b:List Pg},a.map Pg.d=b.map Pg.d->a=b:=λh=>List.map_inj_right (λ_ _ e=>Pg.Pj e) |>.mp h
theorem CN (ps:List Pg):uu (ps.map Pg.d)=some (.lst ((ST.iB dI ps).map Pg.d)):=by
 unfold uu
 have h:∃qs:List Pg,ps.map Pg.d=qs.map Pg.d:=⟨ps,rfl⟩
 rw[dif_pos h]
 have:=IT (Classical.choose_spec h)
 rw[<- this]
noncomputable def l9 (ds:List D) (s:ae):Res D:=match ds with
 | [d]=>match res d s with
  | .lst xs=>if xs.length<64 then bx (uu xs) s else none
  |_=>none
 |_=>none
section
variable {X:Cx} {Ξ:Wd->bq->Prop}
theorem Mx (ps:List Pg):cz (ps.map Pg.d)=true:=by
 induction ps with
 |nil=>rfl
 |cons p ps ih=>simp only[List.map_cons,cz,mz,ih,Bool.and_self]
theorem DC {k:Nat} (hr:cq k X.A):bV X (.builtin "sorted") (rC X.K Ξ l9):=by
 rintro pins s σ H xs us Q I r ⟨w,ds,rfl,S,aw,h⟩
 unfold l9 at h
 split at h
 ·obtain⟨v,rfl,dv⟩:=lY aw
  split at h
  ·rename_i es e1
   obtain⟨a,xs,rfl,ha,aw⟩:=iP S dv e1
   split at h
   ·rename_i hz
    obtain⟨d',e2,h⟩:=dW h
    obtain⟨u,rfl,ru⟩:=vals1 r
    cases ru
    obtain⟨its,r1,pl,hx⟩:=I.list (bG.of ha)
    have hl:its.length=es.length:=r1.length.symm.trans aw.length.symm
    have e3:=e2
    unfold uu at e3
    split at e3
    ·rename_i hp
     obtain⟨ps,en⟩:=hp
     clear e3
     subst en
     rw[CN] at e2
     cases e2
     have zr:ps.length=its.length:=by rw[hl,List.length_map]
     refine ST.JB (O:=dI) (x:=λi=>ps.getD i (.bL 0 0 0)) pl.isList (by omega) (λh2 h1 ho=>K5 (cA.keep (λb o hb _ _=>ho b o hb) _ _ (xt I _ _ _ (Mx ps) aw r1)) h2 (by have:=hr.un;show X.A.units+1+1+100<cLine;have:cLine=9900:=rfl;omega) _) λq h' b e hp hu ho hb hn=>?_
     have hm:∀i∈q.toList,i<(ps.map Pg.d).length:=λi hi=>by rw[<- hl];exact List.mem_range.mp (hp.2.mem_iff.mp hi)
     rw[<- zr] at hp hu
     have ku:=I.aH.fresh hb
     refine⟨.ref b,_,I.laid (o:=.lst (q.toList.map λi=>xs.getD i .aA)) (t':=s.toks) ho hb ⟨?_,_,e,JH r1 (by rw[hl];exact hm),hn⟩,rfl,?_⟩
     ·rw[List.length_map,Array.length_toList,hp.1,zr,r1.length.symm];exact hx
     ·refine uL S ?_ h b ku
      rw[<- KW hp hu]
      exact KU aw hm
    ·cases e3
   ·exact h.elim
  ·exact h.elim
 ·exact h.elim
noncomputable def cX {α:Type} (c:Nat) (xs:List α):List α:=(List.range (Builtin.Slice.slicePlaces 0 (xs.length:Int) c)).filterMap λm=>xs[m*c]?
theorem JO {α:Type} {c:Nat} {xs:List α} {x:α} (h:x∈cX c xs):x∈xs:=by
 obtain⟨m,_,e⟩:=List.mem_filterMap.mp h
 exact List.mem_of_getElem? e
end
section
variable {prog:Program} {w:World} {A:Around} {E:Value->Shared->Prop} {s:Shared}
theorem JP {t sl:Addr} {items:Array Value} {tk:Tok} {c:Nat} {Q:Value->Shared->Prop} (hc:2<=c) (ht:IsTup s.heap t items) (hs:s.heap.IsSliceOf sl .none .none (.int c tk))
  (h:Q (.ref s.heap.objs.size) { s with heap:=s.heap.push { cls:=.type "tuple",data:=.seq (cX c items.toList).toArray } })
  (hsz:(cX c items.toList).length<=sizeLine):wpAny (model prog w) A (getItem (.ref t) (.ref sl)) Q E s:=by
 have hz:sizeOk (.seq (cX c items.toList).toArray):=by
  show (cX c items.toList).toArray.size<=sizeLine
  rw[List.size_toArray]
  exact hsz
 obtain⟨os,iK,gu,km⟩:=id hs
 have qX:s.TypeIs (.ref sl) "slice":=⟨os,iK,gu⟩
 unfold getItem
 try with_reducible refine wpAny_holding ?_
 first|refine wpAny_bind (wpAny_pure ?_)|skip
 refine wpAny_bind (wpAny_sequenceKey ht.typeIs (by decide) (wpAny_bind (wpAny_callSpecial?_slot (name:=Str.ofString "__getitem__") ht.typeIs PyProof.Rows.slot_tuple_getitem (wpAny_call_entry PyProof.Rows.slot_tuple_getitem ht.typeIs entry_tuple_getitem ?_ (args_tuple_getitem _ _)))))
 show wpAny _ _ (Builtin.Tuple.tupleItemsOf (.ref t) >>= _) _ _ s
 refine wpAny_bind (tupleItemsOf_ ht (wpAny_bind (wpAny_typeOf qX ?_)))
 rw[if_pos (by decide)]
 refine wpAny_bind ?_
 unfold Builtin.Slice.sliceApplied Builtin.Slice.sliceFields
 refine wpAny_bind (wpAny_bind (wpAny_field iK km (x:=.none) rfl (wpAny_bind (wpAny_field iK km (x:=.none) rfl (wpAny_bind (wpAny_field iK km (x:=.int c tk) rfl (wpAny_pure ?_)))))))
 refine wpAny_bind (slicePart_int ?_)
 refine(show wpAny _ _ (if ((c:Int)==0)=true then _ else _) _ _ s from ?_)
 rw[if_neg (by simp;omega)]
 refine wpAny_bind (slicePart_none (wpAny_bind (slicePart_none (wpAny_bind (wpAny_pure ?_)))))
 have ea:Builtin.Slice.sliceAdjust none none (c:Int) (items.size:Int)=(0,(items.size:Int)):=by
  unfold Builtin.Slice.sliceAdjust
  simp
  omega
 show wpAny _ _ (match Builtin.Slice.sliceAdjust none none (c:Int) (items.size:Int) with | (lo,hi)=>pure (lo,(c:Int),Builtin.Slice.slicePlaces lo hi c)) _ _ s
 rw[ea]
 refine wpAny_pure ?_
 show wpAny _ _ (if ((0:Int)==0&&(c:Int)==1&&Builtin.Slice.slicePlaces 0 (items.size:Int) c==items.size)=true then _ else _) _ _ s
 rw[if_neg (by simp;omega)]
 have ep:((List.range (Builtin.Slice.slicePlaces 0 (items.size:Int) c)).filterMap λ(m:Nat)=>items[((0:Int)+(m:Int)*(c:Int)).toNat]?).toArray=(cX c items.toList).toArray:=by
  unfold cX
  rw[Array.length_toList]
  congr 2
  funext m
  rw[show ((0:Int)+(m:Int)*(c:Int)).toNat=m*c by rw[Int.zero_add,<- Int.natCast_mul];rfl,Array.getElem?_toList]
 rw[ep]
 first
  |exact wpAny_bind (m:=Builtin.Tuple.tupleExact _) (wpAny_newObj_type (wpAny_pure ⟨_,rfl,wpAny_pure h⟩) hz)
  |exact wpAny_bind (m:=Builtin.Tuple.tupleExact _) (wpAny_newObj_type (wpAny_bind (wpAny_pure (wpAny_pure ⟨_,rfl,wpAny_pure h⟩))) hz)
  |exact wpAny_bind (wpAny_bind (m:=Builtin.Tuple.tupleExact _) (wpAny_newObj_type (wpAny_pure (wpAny_pure ⟨_,rfl,wpAny_pure h⟩)) hz))
end
theorem tB {xs:List V} {us:List Value} (h:Vals xs us) (c:Nat):∀ks:List Nat,Vals (ks.filterMap λm=>xs[m*c]?) (ks.filterMap λm=>us[m*c]?)
 | []=>.nil
 |m::ks=>by
  rw[List.filterMap_cons,List.filterMap_cons]
  cases e:xs[m*c]? with
  |none =>
   have:us[m*c]?=none:=by rw[List.getElem?_eq_none_iff] at e |-;rw[<- h.length];exact e
   rw[this]
   exact tB h c ks
  |some x =>
   obtain⟨u,e',r⟩:=h.get e
   rw[e']
   exact .cons r (tB h c ks)
theorem xx {K:Frag} {w:Wd} {ds:List D} {xs:List V} (h:DI.aq K w ds xs) (c:Nat):∀ks:List Nat,DI.aq K w (ks.filterMap λm=>ds[m*c]?) (ks.filterMap λm=>xs[m*c]?)
 | []=>rfl
 |m::ks=>by
  rw[List.filterMap_cons,List.filterMap_cons]
  cases e:xs[m*c]? with
  |none =>
   have:ds[m*c]?=none:=by rw[List.getElem?_eq_none_iff] at e |-;rw[h.length];exact e
   rw[this]
   exact xx h c ks
  |some x =>
   obtain⟨d,e',r⟩:=h.get _ _ e
   rw[e']
   exact⟨x,_,rfl,r,xx h c ks⟩
theorem vQ {α:Type} (c:Nat) (xs:List α) (hc:1<=c):(cX c xs).length<=xs.length:=by
 have h2:(cX c xs).length<=Builtin.Slice.slicePlaces 0 (xs.length:Int) c:=by
  unfold cX
  exact Nat.le_trans (List.length_filterMap_le _ _) (by rw[List.length_range];exact Nat.le_refl _)
 refine Nat.le_trans h2 ?_
 unfold Builtin.Slice.slicePlaces
 have h1:((c:Int) > 0):=by omega
 simp only[h1,if_true]
 split
 ·rename_i h
  have:((xs.length:Int)-0-1) / (c:Int)<=(xs.length:Int)-0-1:=Int.ediv_le_self _ (by omega)
  omega
 ·exact Nat.zero_le _
section
variable {X:Cx} {Ξ:Wd->bq->Prop} {e:Expr} {te:TE} {pos p2 p4:Pos} {f:DI.Env->ae->Res D}
theorem My {c:Nat} (hc:2<=c) (he:PE X e te):PE X (.Subscript e (.Slice none none (some (.Constant (.int (c:Int)) 0 p4)) p2) pos) (fun σ H Q=>te σ H λx H1=>∃a xs,x=.ref a/\aR X.K H1 a xs/\kh X.K H1 (cX c xs) Q):=by
 intro pins s σ H Q I h
 refine Subscript_ (aJ (he pins s σ H _ I h) λv s1 ⟨x,H1,I1,r1,q1⟩=>?_)
 obtain⟨a,xs,rfl,hx,q⟩:=q1
 cases r1
 refine wpAny_Slice ?_
 rw[evalPart_none]
 refine wpAny_pure (wpAny_pure ?_)
 rw[evalPart_some]
 refine aJ ((D1:PE X (.Constant (.int (c:Int)) 0 p4) (tC (.int c))) pins s1 σ H1 (λy H2=>y=.int c/\H2=H1) I1 ⟨rfl,rfl⟩) λu s2 ⟨y,H2,I2,r2,e1,e2⟩=>?_
 subst e1 e2
 obtain⟨tk,rfl⟩:=r2
 have I4:Inv X pins σ H2 { s2 with heap:=s2.heap.push { cls:=.type "slice",data:=.fields #[.none,.none,.int c tk] } }:=I2.kept (t':=s2.toks) λb ob q=>Heap.get?_push_of_some _ q
 obtain⟨its,r,ht,hz⟩:=I4.tuple hx
 have hlen:its.length=xs.length:=r.length.symm
 have pl:(cX c its).length=(cX c xs).length:=by
  unfold cX
  rw[hlen]
  exact(tB r c _).length.symm
 have nj:Heap.IsSliceOf (s2.heap.push { cls:=.type "slice",data:=.fields #[.none,.none,.int c tk] }) s2.heap.objs.size .none .none (.int c tk):=Heap.IsSliceOf.new ..
 refine tail_any (ops:=[.ref a,.ref s2.heap.objs.size]) ht.typeIs PyProof.Rows.slot_tuple_getitem.lookup (JP hc ht nj ?_ ?_) (by with_unfolding_all rfl)
 ·refine⟨.ref _,_,I4.laid (t':=s2.toks) (o:=.tup (cX c xs)) (λb ob q=>Heap.get?_push_of_some _ q) (Nat.le_refl _) ?_,rfl,q.new (I4.aH.fresh (Nat.le_refl _))⟩
  refine⟨Nat.le_trans (vQ c xs (by omega)) hz,cX c its,?_,IsTup.new _ _⟩
  unfold cX
  rw[hlen]
  exact tB r c _
 ·have:=vQ c its (by omega)
  simp only
  omega
noncomputable def uw (c:Nat) (d:D) (s:ae):Res D:=match d with
 | .tup ds=>ok (.tup (cX c ds)) s
 |_=>none
theorem N1 {c:Nat} (hc:2<=c) (he:PE X e (tE X.K Ξ f)):PE X (.Subscript e (.Slice none none (some (.Constant (.int (c:Int)) 0 p4)) p2) pos) (tE X.K Ξ (e1 (uw c) f)):=cH (My hc he) fun σ H Q aC=>by
 obtain⟨w,env,eH,S,eo,h⟩:=aC
 subst eH
 refine⟨w,env,rfl,S,eo,(Out.au h).mono λw1 d l1 S1 h1 v dv=>?_⟩
 unfold uw at h1
 split at h1
 ·simp only[DI.DV] at dv
  obtain⟨a,xs,rfl,ha,aw⟩:=dv
  refine⟨a,xs,rfl,ha,oE S1 ?_ h1⟩
  unfold cX
  rw[aw.length]
  exact xx aw c _
 ·exact h1.elim
end
end TK
namespace TK
open PySem PySem.W PyProof.Rows DI L2
noncomputable def xV (f:DI.Env->ae->Res D):DI.Env->ae->Res D:=λenv s=>au (f env s) λx s=>au (truth x s) λb s=>ok (.bl (!b)) s
theorem N2 {X:Cx} {Ξ:Wd->bq->Prop} {a:Expr} {pos:Pos} {f:DI.Env->ae->Res D} (ha:PE X a (tE X.K Ξ f)):PE X (.UnaryOp .Not a pos) (tE X.K Ξ (xV f)):=by
 rintro pins s σ H Q I ⟨w,env,rfl,S,eo,h⟩
 refine UnaryOp_ (aJ (ha pins s σ w.H (λv H'=>∃b,mE X.K v H' b/\Q (.bl (!b)) H') I ⟨w,env,rfl,S,eo,(Out.au h).mono λw1 x l1 S1 h1 v dv=>?_⟩) λv s1 ⟨x,H1,I1,r1,b,q1,q2⟩=>?_)
 ·obtain⟨b,t,h2⟩:=mE.of S1 dv (Out.au h1)
  exact⟨b,t,aG S1 h2 _ rfl⟩
 ·refine not_of (wpAny_mono (D5 pins s1 σ H1 x v (λc H2=>Q (.bl (!c)) H2) I1 r1 ⟨b,q1,q2⟩) (λc s2 ⟨H2,I2,q⟩=>⟨.bl (!c),H2,I2,rfl,q⟩) λ_ _ z=>z)
end TK
namespace ST
open PySem PySem.Spec PyProof.Rows
section
variable {prog:Program} {w:World} {A:Around} {E:Value->Shared->Prop} {s:Shared}
end
end ST
namespace DI
open PySem L2
section
variable {X:Cx} {Ξ:Wd->bq->Prop}
end
end DI
namespace DI
open PySem L2
section
variable {X:Cx} {Ξ:Wd->bq->Prop} {e o i:Expr} {pos fU:Pos} {f fo fi:Env->ae->Res D}
end
end DI
namespace L2
open PySem PySem.Spec PyProof.Rows
section
variable {X:Cx}
end
end L2
namespace DI
open PySem L2
section
variable {X:Cx} {Ξ:Wd->bq->Prop}
end
end DI
namespace L2
open PySem PySem.Spec PyProof.Rows
section
variable {X:Cx}
end
end L2
namespace DI
open PySem L2
section
variable {X:Cx} {Ξ:Wd->bq->Prop} {a:Expr} {pos:Pos} {f:Env->ae->Res D}
end
end DI
namespace L2
open PySem PySem.Spec PyProof.Rows
section
variable {X:Cx}
end
end L2
namespace DI
open PySem L2
section
variable {X:Cx} {Ξ:Wd->bq->Prop} {pos:Pos}
end
end DI
namespace L2
open PySem PySem.Spec PyProof.Rows
end L2
namespace DI
open PySem L2
section
variable {X:Cx} {Ξ:Wd->bq->Prop}
end
end DI
namespace L2
open PySem PySem.Spec PyProof.Rows
open AutoSeq1 (wpAny_loadPart')
section
variable {prog:Program} {w:World} {A:Around} {E:Value->Shared->Prop} {s:Shared}
end
end L2
namespace L2
open PySem PySem.Spec PyProof.Rows
section
variable {X:Cx}
end
end L2
namespace DI
open PySem L2
section
variable {X:Cx} {Ξ:Wd->bq->Prop} {a:Expr} {p pos:Pos} {fa:Env->ae->Res (List D)}
end
end DI
namespace L2
open PySem PySem.Spec PyProof.Rows
section
variable {X:Cx} {pos:Pos}
noncomputable def Pk (i j k:Nat) (ta:TA):TS:=λD σ H=>ta σ H λvs H1=>∃v w u,vs=[v,w,u]/\D.nx (((σ.set i (some v)).set j (some w)).set k (some u)) H1
theorem vals3 {v w u:V} {us:List Value} (r:Vals [v,w,u] us):∃a b c,us=[a,b,c]/\RelV v a/\RelV w b/\RelV u c:=by
 cases r with
 |cons p q =>
  obtain⟨b,c,rfl,h1,h2⟩:=vals2 q
  exact⟨_,b,c,rfl,p,h1,h2⟩
theorem Mz {i j k:Nat} {x y z:Str} {a b c:Expr} {ta:TA} {px py pz pt:Pos} {kt k2 gp} (hc:X.calm=true) (hN:X.N.Nodup) (hi:X.N[i]?=some x) (hj:X.N[j]?=some y) (hk:X.N[k]?=some z) (dH:i≠j) (mY:i≠k) (zZ:j≠k)
  (hx:X.env.scope.names.lookup x=some .local) (hy:X.env.scope.names.lookup y=some .local) (hz:X.env.scope.names.lookup z=some .local) (ha:PA X [a,b,c] ta)
  (hw:swappedStores [.Tuple [.Name x px,.Name y py,.Name z pz] kt pt] (.Tuple [a,b,c] k2 gp) X.env=pure (some [x,y,z]))
  (hs:swapsWithSole [.Tuple [.Name x px,.Name y py,.Name z pz] kt pt] (.Tuple [a,b,c] k2 gp) pos.line X.env=pure false) :
  PS X (.Assign [.Tuple [.Name x px,.Name y py,.Name z pz] kt pt] (.Tuple [a,b,c] k2 gp) pos) (Pk i j k ta):=by
 intro pins s σ H D I h
 rw[exec_Assign_arm]
 refine wpAny_bind (wpAny_standAt ?_)
 rw[hs]
 refine wpAny_bind (wpAny_pure ?_)
 rw[if_neg (by decide)]
 refine wpAny_bind (Tuple_ (aJ (ha _ pins s σ H _ I h) λus s1 aC=>?_))
 obtain⟨vs,H1,I1,r1,v,w,u,e1,q1⟩:=aC
 subst e1
 obtain⟨u1,u2,u3,rfl,rv,mS,ru⟩:=vals3 r1
 refine wpAny_newObj_type ?_ (by show 3<=sizeLine;decide)
 have I2:Inv X pins σ H1 { s1 with heap:=s1.heap.push { cls:=.type "tuple",data:=.seq [u1,u2,u3].toArray } }:=I1.kept (t':=s1.toks) λb o e=>Heap.get?_push_of_some _ e
 rw[hw]
 refine wpAny_bind (wpAny_pure ?_)
 show wpAny (model X.prog X.w) X.A (do rule "assign.swapped-stores";let items <- unpackItems (.ref s1.heap.objs.size) 3 none;assignInOrder [λv=>bindName X.env z v,λv=>bindName X.env y v,λv=>bindName X.env x v] items.reverse;pure Flow.next) _ _ _
 refine wpAny_bind (wpAny_rule (wpAny_bind (unpackItems_tuple (items:=#[u1,u2,u3]) (I.ok.hd hc) (IsTup.new s1.heap _) λh' yS=>?_)))
 have I3:=I2.kept (h':=h') (t':=s1.toks) λb o e=>yS b o (Nat.ne_of_lt (Heap.lt_size e)) e
 show wpAny _ _ (assignInOrder [λv=>bindName X.env z v,λv=>bindName X.env y v,λv=>bindName X.env x v] [u3,u2,u1] >>= λ_=>pure Flow.next) _ _ _
 refine wpAny_bind (assignInOrder_cons (wpAny_bindName (kG I3 hN hk (.inl hz) ru (λs2 I4=>?_) (.inr hz))))
 refine assignInOrder_cons (wpAny_bindName (kG I4 hN hj (.inl hy) mS (λs3 I5=>?_) (.inr hy)))
 refine assignInOrder_cons (wpAny_bindName (kG I5 hN hi (.inl hx) rv (λs4 I6=>assignInOrder_nil (wpAny_pure ?_)) (.inr hx)))
 rw[List.set_comm _ _ (Ne.symm zZ),List.set_comm _ _ (Ne.symm mY),List.set_comm _ _ (Ne.symm dH)] at I6
 exact⟨_,H1,I6,q1⟩
end
end L2
namespace DI
open PySem L2
section
variable {X:Cx} {Ξ:Wd->bq->Prop} {a b c:Expr} {pos:Pos} {fa:Env->ae->Res (List D)}
noncomputable def qC (i j k:Nat) (fa:Env->ae->Res (List D)):Env->ae->Res Fl:=λenv s=>au (fa env s) λds s=>match ds with
 | [x,y,z]=>ok (.nx (((env.set i (some x)).set j (some y)).set k (some z))) s
 |_=>none
theorem ED (i j k:Nat) {x y z:Str} {px py pz pt:Pos} {kt k2 gp} (hc:X.calm=true) (hN:X.N.Nodup) (ha:PA X [a,b,c] (tA X.K Ξ fa)) (hi:X.N[i]?=some x:=by rfl) (hj:X.N[j]?=some y:=by rfl) (hk:X.N[k]?=some z:=by rfl) (dH:i≠j:=by decide) (mY:i≠k:=by decide) (zZ:j≠k:=by decide)
  (hx:X.env.scope.names.lookup x=some .local:=by rfl) (hy:X.env.scope.names.lookup y=some .local:=by rfl) (hz:X.env.scope.names.lookup z=some .local:=by rfl)
  (hw:swappedStores [.Tuple [.Name x px,.Name y py,.Name z pz] kt pt] (.Tuple [a,b,c] k2 gp) X.env=pure (some [x,y,z]):=by rfl)
  (hs:swapsWithSole [.Tuple [.Name x px,.Name y py,.Name z pz] kt pt] (.Tuple [a,b,c] k2 gp) pos.line X.env=pure false:=by rfl) :
  PS X (.Assign [.Tuple [.Name x px,.Name y py,.Name z pz] kt pt] (.Tuple [a,b,c] k2 gp) pos) (tS X.K Ξ (qC i j k fa)):=iw (Mz hc hN hi hj hk dH mY zZ hx hy hz ha hw hs) λD0 σ H aC=>by
 obtain⟨w,env,eH,S,eo,h⟩:=aC
 subst eH
 refine⟨w,env,rfl,S,eo,(Out.au h).mono λw1 ds l1 S1 h1 vs aw=>?_⟩
 split at h1
 ·obtain⟨v,r,rfl,dv,dr⟩:=aw
  obtain⟨u,t,rfl,du,dt⟩:=pW dr
  exact⟨v,u,t,rfl,aG S1 h1 _ ((((eo.le l1).set dv i).set du j).set dt k)⟩
 ·exact h1.elim
end
end DI
namespace DI
open PySem L2
noncomputable def nP:List D->ae->Res D:=bb 2 6 (az (qC 2 3 4 (af (e2 aQ (ax ba (af (aa 0) (af (eC (.int 3)) ai))) (eC (.int 0))) (af (eNew ai) (af (e2 cI (eC (.int 2)) (ax ba (af (aa 0) (af (eC (.int 9)) ai)))) ai)))) (az (dG (bF (af (eC (.int 31)) ai)) (gN 5) (az (aO (de (jI (aa 2) (e2 aQ (ax ba (af (aa 0) (af (aa 4) ai))) (eC (.int 0)))) (e2 dX (aa 5) (aa 1))) (gN 2)) (bS (cR (aa 2)) (fv (gJ (aa 3) (aa 5))) cu))) (aS (jy (aa 3)))))
noncomputable def tD (W:World):List D->ae->Res D:=bb 1 12 (az (aO (bE (af TK.qr (af (e2 cI (eC (.int 1)) (ax ba (af (aa 0) (af (eC (.int 3)) ai)))) (af (e2 cI (eC (.int 1)) (ax ba (af (aa 0) (af (eC (.int 3)) ai)))) ai)))) (gT [(gN 1),(gN 2),(gN 3)])) (az (dG (bF (af (aa 2) ai)) (gN 4) (az (aO (bE (af (aW 1 [] (bF (af (eC (.int 8)) ai)) (gN 0) cx (eNew ai)) (af (eNew ai) ai))) (gT [(gN 5),(gN 6)])) (az (dG (bF (af (ax ba (af (aa 0) (af (eC (.int 4)) ai))) ai)) (gN 7) (az (aO (bE (af (ax ba (af (aa 0) (af (eC (.int 8)) ai))) (af (ax ba (af (aa 0) (af (eC (.int 31)) ai))) ai))) (gT [(gN 8),(gN 9)])) (az (fv (gJ (e2 ar (aa 5) (aa 8)) (aa 9))) (TK.gX W (eC (.bl true)) (aa 1) (bE (af (eC (.str "mended")) (af (aa 4) (af (aa 9) (af (aa 8) ai))))))))) (az (dG (bF (af (eC (.int 8)) ai)) (gN 8) (fv (gJ (aa 6) (ax nP (af (aa 0) (af (e2 ar (aa 5) (aa 8)) ai)))))) (dG (bF (af (ax ba (af (aa 0) (af (eC (.int 5)) ai))) ai)) (gN 7) (az (aO (ax ba (af (aa 0) (af (eC (.int 31)) ai))) (gN 9)) (az (aO (aW 1 [0,3] (bF (af (eC (.int 8)) ai)) (gN 0) (aF (e2 aQ (ax ba (af (aa 1) (af (aa 2) ai))) (eC (.int 0)))) (aa 0)) (gN 10)) (az (aO (eB cv (af (aW 1 [9,6] (bo (aa 10)) (gN 0) (aF (e2 cg (aa 1) (e2 ar (aa 2) (aa 0)))) (aa 0)) ai)) (gN 11)) (TK.gX W (eC (.bl true)) (aa 1) (bE (af (eC (.str "made")) (af (aa 4) (af (aa 9) (af (bE (af (aa 11) (af (eB cv (af (aW 1 [9,6] (bo (aa 10)) (gN 0) (aF (e2 dX (aa 1) (e2 ar (aa 2) (aa 0)))) (aa 0)) ai)) ai))) ai)))))))))))))) (aS (eB cv (af (eB TK.l9 (af (eB TK.l7 (af (aa 1) ai)) ai)) ai)))))
noncomputable def tF (W:World):List D->ae->Res D:=bb 1 10 (az (aO TK.qr (gN 1)) (az (qC 2 3 4 (af (e2 cI (eC (.int 1)) (ax ba (af (aa 0) (af (eC (.int 2)) ai)))) (af (e2 ar (jx (af (eC (.int 3)) (af (eC (.int 8)) (af (eC (.int 31)) ai)))) (ax ba (af (aa 0) (af (eC (.int 3)) ai)))) (af (e2 cI (eC (.int 1)) (ax ba (af (aa 0) (af (eC (.int 4)) ai)))) ai)))) (az (dG (bF (af (ax ba (af (aa 0) (af (eC (.int 25)) ai))) ai)) (gN 5) (az (qz 6 7 (af (ax ba (af (aa 0) (af (aa 2) ai))) (af (ax ba (af (aa 0) (af (aa 3) ai))) ai))) (bS (aF (e2 aQ (ax ba (af (aa 0) (af (eC (.int 4)) ai))) (eC (.int 0)))) (TK.gX W (eC (.bl true)) (aa 1) (bE (af (eC (.str "mended")) (af (aa 6) (af (aa 7) (af (ax ba (af (aa 0) (af (aa 4) ai))) ai)))))) (az (aO (ax kH (af (aa 0) (af (aa 4) ai))) (gN 8)) (az (aO (eB cv (af (aW 1 [8] (bo (ax kH (af (aa 0) (af (aa 4) ai)))) (gN 0) (aF (e2 dX (aa 0) (aa 1))) (aa 0)) ai)) (gN 9)) (TK.gX W (eC (.bl true)) (aa 1) (bE (af (eC (.str "made")) (af (aa 6) (af (aa 7) (af (bE (af (aa 8) (af (aa 9) ai))) ai))))))))))) (aS (eB cv (af (eB TK.l9 (af (eB TK.l7 (af (aa 1) ai)) ai)) ai))))))
noncomputable def sj:List D->ae->Res D:=bb 2 2 (aS (mH (eB oI (af (aW 1 [1] (bo (aa 0)) (gN 0) cx (e2 cg (aa 0) (aa 1))) ai))))
noncomputable def sy:List D->ae->Res D:=bb 1 3 (az (bS (fW (ei (cR (eB cE (af (aa 0) (af (eC (.ty "tuple")) ai))))) (aF (e2 eO (eB eQ (af (aa 0) ai)) (eC (.int 2))))) (aS (eC (.bl false))) cu) (az (aO (aa 0) (gT [(gN 1),(gN 2)])) (aS (de (ax pB (af (aa 1) ai)) (de (ax pB (af (aa 2) ai)) (ax sj (af (aa 1) (af (aa 2) ai))))))))
noncomputable def pE:List D->ae->Res D:=bb 1 1 (aS (ax nI (af (aa 0) (af (eC (.int (4))) ai))))
noncomputable def pM:List D->ae->Res D:=bb 1 1 (aS (ax nI (af (aa 0) (af (eC (.int (31))) ai))))
noncomputable def sI:List D->ae->Res D:=bb 1 5 (az (bS (fW (ei (cR (eB cE (af (aa 0) (af (eC (.ty "tuple")) ai))))) (aF (e2 eO (eB eQ (af (aa 0) ai)) (eC (.int 4))))) (aS (eC (.bl false))) cu) (az (aO (aa 0) (gT [(gN 1),(gN 2),(gN 3),(gN 4)])) (az (bS (fW (ei (cR (ax pE (af (aa 2) ai)))) (ei (cR (ax pM (af (aa 3) ai))))) (aS (eC (.bl false))) cu) (az (bS (aF (e2 aQ (aa 1) (eC (.str "made")))) (aS (ax sy (af (aa 4) ai))) cu) (aS (de (e2 aQ (aa 1) (eC (.str "mended"))) (ax pH (af (aa 4) ai))))))))
noncomputable def sA:List D->ae->Res D:=bb 1 1 (aS (de (eB cE (af (aa 0) (af (eC (.ty "tuple")) ai))) (de (e2 qx (eB eQ (af (aa 0) ai)) (eC (.int (24)))) (de (eB mM (af (aW 1 [] (bo (aa 0)) (gN 0) cx (ax sI (af (aa 0) ai))) ai)) (ax lL (af (aa 0) ai))))))
noncomputable def jl:List D->ae->Res D:=bb 4 4 (aS (aW 1 [1,2,3] (bo (aa 0)) (gN 0) (cm (aF (e2 aQ (e2 ar (aa 0) (eC (.int 0))) (eC (.str "made")))) (cm (aF (e2 aQ (e2 ar (aa 0) (eC (.int 1))) (aa 1))) (aF (e2 cg (aa 2) (e2 ar (e2 ar (aa 0) (eC (.int 3))) (aa 3)))))) (e2 ar (aa 0) (eC (.int 2)))))
noncomputable def nG:List D->ae->Res D:=bb 3 3 (aS (aW 1 [1,2] (bo (aa 0)) (gN 0) (cm (aF (e2 aQ (e2 ar (aa 0) (eC (.int 0))) (eC (.str "mended")))) (cm (aF (e2 aQ (e2 ar (aa 0) (eC (.int 1))) (aa 1))) (aF (e2 aQ (e2 ar (aa 0) (eC (.int 3))) (aa 2))))) (e2 ar (aa 0) (eC (.int 2)))))
noncomputable def rQ:List D->ae->Res D:=bb 3 3 (aS (eB oI (af (aW 1 [1,2] (bo (aa 0)) (gN 0) cx (rp jB qx (aa 1) (aa 0) (aa 2))) ai)))
noncomputable def pI:List D->ae->Res D:=bb 3 5 (az (aO (ax jl (af (aa 0) (af (aa 1) (af (aa 2) (af (eC (.int (1))) ai))))) (gN 3)) (az (aO (ax nG (af (aa 0) (af (aa 1) (af (aa 2) ai)))) (gN 4)) (aS (Ep 2 [3,4] (bo (e1 nM (ax jl (af (aa 0) (af (aa 1) (af (aa 2) (af (eC (.int (0))) ai))))))) (gN 0) cx (rz (af (aa 0) (af (eC (.int (31))) ai))) (gN 1) (cm (fW (aF (e2 cg (aa 1) (aa 2))) (cm (aF (e2 aQ (aa 1) (aa 0))) (aF (e2 cg (aa 0) (aa 3))))) (ei (cR (ax rQ (af (aa 3) (af (aa 0) (af (aa 1) ai))))))) (bE (af (aa 0) (af (aa 1) ai)))))))
noncomputable def sk:List D->ae->Res D:=bb 1 1 (aS (Er 4 [0] (bF (af (eC (.int (4))) ai)) (gN 0) cx (bF (af (eC (.int (8))) ai)) (gN 1) cx (bo (ax pI (af (aa 4) (af (aa 0) (af (aa 1) ai))))) (gT [gN 2,gN 3]) cx (bE (af (aa 0) (af (aa 1) (af (aa 2) (af (aa 3) ai)))))))
noncomputable def nJ:List D->ae->Res D:=bb 1 1 (aS (de (ax sA (af (aa 0) ai)) (TK.xV (ax sk (af (aa 0) ai)))))
noncomputable def wo:List D->ae->Res D:=bb 3 3 (aS (jI (e2 cg (eC (.bl true)) (aa 0)) (de (e2 cg (eC (.bl false)) (aa 0)) (jI (mH (aa 1)) (aa 2)))))
noncomputable def wW:List D->ae->Res D:=bb 3 3 (aS (de (mH (aa 1)) (jI (e2 cg (eC (.bl false)) (aa 0)) (de (aa 2) (e2 eO (aa 0) (jx ai))))))
noncomputable def p6:List D->ae->Res D:=bb 3 9 (az (aO (pV 1 [] (bF (af (eC (.int 31)) ai)) (gN 0) cx (jx (af (eC (.bl false)) (af (eC (.bl true)) ai)))) (gN 3)) (az (aO (pV 1 [] (bF (af (eC (.int 32)) ai)) (gN 0) cx (eC (.bl false))) (gN 4)) (az (dG (bo (aa 0)) (gN 5) (az (bS (cm (aF (e2 aQ (e2 ar (aa 5) (eC (.int 0))) (eC (.str "mended")))) (cm (aF (e2 aQ (e2 ar (aa 5) (eC (.int 1))) (aa 1))) (aF (e2 aQ (e2 ar (aa 5) (eC (.int 3))) (aa 2))))) (az (fT (aW 1 [] (bo (e2 ar (aa 3) (e2 ar (aa 5) (eC (.int 2))))) (gN 0) (ei (cR (aa 0))) (aa 0)) (aa 3) (e2 ar (aa 5) (eC (.int 2)))) (fT (eC (.bl true)) (aa 4) (e2 ar (aa 5) (eC (.int 2))))) cu) (bS (cm (aF (e2 aQ (e2 ar (aa 5) (eC (.int 0))) (eC (.str "made")))) (cm (aF (e2 aQ (e2 ar (aa 5) (eC (.int 1))) (aa 1))) (aF (e2 cg (aa 2) (e2 cI (e2 ar (e2 ar (aa 5) (eC (.int 3))) (eC (.int 0))) (e2 ar (e2 ar (aa 5) (eC (.int 3))) (eC (.int 1)))))))) (fT (aW 1 [2,5] (bo (e2 ar (aa 3) (e2 ar (aa 5) (eC (.int 2))))) (gN 0) (aF (e2 aQ (aa 0) (e2 cg (aa 1) (e2 ar (e2 ar (aa 2) (eC (.int 3))) (eC (.int 0)))))) (aa 0)) (aa 3) (e2 ar (aa 5) (eC (.int 2)))) cu))) (az (dG (rz (af (eC (.int 1)) (af (eC (.int 31)) ai))) (gN 6) (az (aO (bE (af (e2 ar (aa 3) (e2 qh (aa 6) (eC (.int 1)))) (af (e2 ar (aa 4) (aa 6)) ai))) (gT [(gN 7),(gN 8)])) (fT (aW 1 [7,8] (bo (e2 ar (aa 3) (aa 6))) (gN 0) (fW (cm (cR (aa 0)) (aF (e2 eO (aa 1) (jx ai)))) (cR (ax wW (af (aa 1) (af (aa 0) (af (aa 2) ai)))))) (aa 0)) (aa 3) (aa 6)))) (az (dG (zY (af (eC (.int 29)) (af (e1 qk (eC (.int 1))) (af (e1 qk (eC (.int 1))) ai)))) (gN 6) (fT (aW 1 [3,4,6] (bo (e2 ar (aa 3) (aa 6))) (gN 0) (cR (ax wo (af (e2 ar (aa 1) (e2 cI (aa 3) (eC (.int 1)))) (af (aa 0) (af (e2 ar (aa 2) (e2 cI (aa 3) (eC (.int 1)))) ai))))) (aa 0)) (aa 3) (aa 6))) (aS (aW 1 [] (bo (jy (aa 3))) (gN 0) cx (eB cv (af (aa 0) ai)))))))))
noncomputable def sm:List D->ae->Res D:=bb 1 1 (bS (ei (cR (ax nJ (af (aa 0) ai)))) u7 cu)
noncomputable def sd:List D->ae->Res D:=bb 1 1 (bS (ei (cR (ax pE (af (aa 0) ai)))) u7 cu)
noncomputable def sC:List D->ae->Res D:=bb 1 1 (bS (ei (cR (ax pM (af (aa 0) ai)))) u7 cu)
noncomputable def rS:List D->ae->Res D:=bb 3 8 (az (aO (ax jl (af (aa 0) (af (aa 1) (af (aa 2) (af (eC (.int (0))) ai))))) (gN 3)) (az (aO (ax nG (af (aa 0) (af (aa 1) (af (aa 2) ai)))) (gN 4)) (az (aO (eNew ai) (gN 5)) (az (aO (eC (.bl false)) (gN 6)) (az (dG (bF (af (eC (.int (31))) ai)) (gN 7) (az (aO (jI (e2 cg (aa 7) (aa 3)) (de (aa 6) (e2 dX (aa 7) (aa 4)))) (gN 6)) (bS (cR (aa 6)) (fv (gJ (aa 5) (aa 7))) cu))) (aS (jy (aa 5))))))))
noncomputable def rW:List D->ae->Res D:=bb 3 8 (az (aO (ax jl (af (aa 0) (af (aa 1) (af (aa 2) (af (eC (.int (1))) ai))))) (gN 3)) (az (aO (ax nG (af (aa 0) (af (aa 1) (af (aa 2) ai)))) (gN 4)) (az (aO (eNew ai) (gN 5)) (az (aO (eC (.bl false)) (gN 6)) (az (dG (zS (af (eC (.int (31))) ai)) (gN 7) (az (bS (fW (cR (aa 6)) (fW (aF (e2 cg (aa 7) (aa 3))) (aF (e2 cg (aa 7) (aa 4))))) (fv (gJ (aa 5) (aa 7))) cu) (aO (de (jI (aa 6) (e2 cg (aa 7) (aa 3))) (e2 dX (aa 7) (aa 4))) (gN 6)))) (aS (jy (aa 5))))))))
noncomputable def pF:List D->ae->Res D:=bb 2 2 (aS (eB cv (af (aW 1 [1,0] (bF (af (eC (.int (8))) ai)) (gN 0) (aF (e2 cg (aa 1) (e2 ar (aa 2) (aa 0)))) (aa 0)) ai)))
noncomputable def rX:List D->ae->Res D:=bb 2 4 (az (aO (aW 1 [0,1] (bF (af (eC (.int (8))) ai)) (gN 0) cx (ax rS (af (aa 1) (af (aa 2) (af (aa 0) ai))))) (gN 2)) (az (aO (aW 1 [0,1] (bF (af (eC (.int (8))) ai)) (gN 0) cx (ax rW (af (aa 1) (af (aa 2) (af (aa 0) ai))))) (gN 3)) (aS (aW 1 [2,3] (bF (af (eC (.int (31))) ai)) (gN 0) cx (bE (af (ax pF (af (aa 1) (af (aa 0) ai))) (af (ax pF (af (aa 2) (af (aa 0) ai))) ai)))))))
noncomputable def nQ:List D->ae->Res D:=bb 3 3 (az (fv (ax sm (af (aa 0) ai))) (az (fv (ax sd (af (aa 1) ai))) (az (fv (ax sC (af (aa 2) ai))) (aS (e2 ar (ax rX (af (aa 0) (af (aa 1) ai))) (aa 2))))))
end DI
namespace DI
open PySem L2
noncomputable def ux (W:World):List D->ae->Res D:=bb 1 11 (az (dG (bF (af (eB mq (af (eC (.int 1)) (af (eB qm (af (eB eQ (af (aa 0) ai)) (af (eC (.int 3)) ai))) ai))) ai)) (gN 1) (az (aO (ax sO (af (aa 0) (af (aa 1) ai))) (gN 2)) (dG (bo (jx (af (jL (ax (tD W) (af (aa 2) ai)) jK (jz (eC (.int 24)))) (af (e1 (TK.uw 3) (ax (tF W) (af (aa 2) ai))) (af (bE ai) ai))))) (gN 3) (az (bS (ei (cR (ax nJ (af (aa 3) ai)))) qg cu) (az (aO (bE (af (eB kU (af (aa 3) ai)) (af (ax ba (af (aa 2) (af (eC (.int 4)) ai))) ai))) (gT [(gN 4),(gN 5)])) (az (aO (aW 1 [3,5] (bF (af (eC (.int 8)) ai)) (gN 0) cx (ax p6 (af (aa 1) (af (aa 2) (af (aa 0) ai))))) (gN 6)) (az (aO (e2 cI (jx (af (eC (.int 0)) (af (eC (.int 30)) (af (ax ba (af (aa 2) (af (eC (.int 31)) ai))) (af (ax ba (af (aa 2) (af (eC (.int 31)) ai))) ai))))) (aW 1 [] (bo (jL (aa 3) jK (jz (eC (.int 4))))) (gN 0) cx (e2 ar (aa 0) (eC (.int 2))))) (gN 7)) (dG (bo (aa 7)) (gN 8) (az (aO (eB cv (af (aW 1 [8,6] (bF (af (eC (.int 8)) ai)) (gN 0) (aF (e2 aQ (e2 ar (e2 ar (aa 2) (aa 0)) (aa 1)) (bE (af (eC (.bl true)) ai)))) (aa 0)) ai)) (gN 9)) (az (aO (eB cv (af (aW 1 [8,6] (bF (af (eC (.int 8)) ai)) (gN 0) (aF (e2 aQ (e2 ar (e2 ar (aa 2) (aa 0)) (aa 1)) (bE (af (eC (.bl false)) ai)))) (aa 0)) ai)) (gN 10)) (bS (fW (ei (cR (ax (gS 8) (af (ax nQ (af (aa 3) (af (aa 5) (af (aa 8) ai)))) (af (bE (af (aa 9) (af (aa 10) ai))) ai))))) (aF (e2 eO (eB kU (af (aa 3) ai)) (aa 4)))) (aS (eC (.bl false))) cu))))))))))) (aS (eC (.bl true))))
end DI
namespace DI.iN
open PySem L2 DI
noncomputable def top (i:Nat):Stmt:=PySem.Challenge.pw_twinmoulds_k04_what_a_mould_surely_has.main.body.getD i (.Pass ⟨0,0,0,0⟩)
structure bN (K:Frag) (mg:Str->Option Value):Prop where
 tX:mg "all"=none
 EE:mg "any"=none
 wX:mg "bool"=none
 N3:mg "int"=none
 gQ:mg "isinstance"=none
 ma:mg "len"=none
 pR:mg "list"=none
 EF:mg "max"=none
 N4:mg "min"=none
 cK:mg "range"=none
 DD:mg "repr"=none
 H9:mg "reversed"=none
 N5:mg "set"=none
 vU:mg "sorted"=none
 fm:mg "tuple"=none
 EG:mg "zip"=none
 lP:∃t,mg "MARKS"=some (.int (8) t)
 sJ:∃t,mg "MOULDS"=some (.int (4) t)
 lS:∃t,mg "DAYS"=some (.int (31) t)
 wq:∃t,mg "PAGES"=some (.int (24) t)
 tY:∃t,mg "HAS"=some (.int (0) t)
 sQ:∃t,mg "LACKS"=some (.int (1) t)
 Ia:∃f fd,Gd K mg "_law_cell_at" (top 40) ["_law_script","_law_k"] f fd
 JQ:∃f fd,Gd K mg "_law_state" (top 41) ["_law_script","_law_k"] f fd
 pN:∃f fd,Gd K mg "_law_take" (top 42) ["_law_state_here","_law_many"] f fd
 JR:∃f fd,Gd K mg "_law_lived" (top 47) ["_law_state_here","_law_mended"] f fd
 K6:∃f fd,Gd K mg "_law_book" (top 48) ["_law_state_here"] f fd
 JS:∃f fd,Gd K mg "_law_marks" (top 44) ["_law_state_here","_law_most"] f fd
 K7:∃f fd,Gd K mg "_law_near" (top 46) ["_law_state_here"] f fd
 AW:∃f fd,Gd K mg "is_rising" (top 14) ["things"] f fd
 HE:∃f fd,Gd K mg "is_number" (top 9) ["thing"] f fd
 vE:∃f fd,Gd K mg "is_below" (top 10) ["thing","many"] f fd
 Br:∃f fd,Gd K mg "is_mark" (top 11) ["thing"] f fd
 HF:∃f fd,Gd K mg "are_marks" (top 21) ["thing"] f fd
 HG:∃f fd,Gd K mg "are_apart" (top 23) ["marks","others"] f fd
 Ib:∃f fd,Gd K mg "is_sheet" (top 22) ["thing"] f fd
 Bb:∃f fd,Gd K mg "is_mould" (top 12) ["thing"] f fd
 BZ:∃f fd,Gd K mg "is_day" (top 13) ["thing"] f fd
 IU:∃f fd,Gd K mg "is_page" (top 24) ["thing"] f fd
 Ic:∃f fd,Gd K mg "are_laid" (top 25) ["thing"] f fd
 vA:∃f fd,Gd K mg "days_seen" (top 30) ["pages","mould","mark","half"] f fd
 vv:∃f fd,Gd K mg "days_mended" (top 31) ["pages","mould","mark"] f fd
 G3:∃f fd,Gd K mg "is_any_behind" (top 29) ["days","day","later"] f fd
 IV:∃f fd,Gd K mg "clashes" (top 28) ["pages","mould","mark"] f fd
 HH:∃f fd,Gd K mg "faults_of" (top 27) ["pages"] f fd
 Bs:∃f fd,Gd K mg "is_book" (top 26) ["thing"] f fd
 JT:∃f fd,Gd K mg "_law_leads" (top 51) ["_law_later","_law_one","_law_free"] f fd
 K8:∃f fd,Gd K mg "_law_gone" (top 50) ["_law_ahead","_law_one","_law_free"] f fd
 MA:∃f fd,Gd K mg "_law_may" (top 49) ["_law_laid","_law_mould","_law_mark"] f fd
 K9:∃f fd,Gd K mg "_law_same" (top 43) ["_law_found","_law_due"] f fd
 HI:∃f fd,Gd K mg "need_book" (top 32) ["thing"] f fd
 Hq:∃f fd,Gd K mg "need_mould" (top 15) ["thing"] f fd
 Ie:∃f fd,Gd K mg "need_day" (top 16) ["thing"] f fd
 G6:∃f fd,Gd K mg "days_present" (top 37) ["book","mould","mark"] f fd
 Hd:∃f fd,Gd K mg "days_absent" (top 38) ["book","mould","mark"] f fd
 Ig:∃f fd,Gd K mg "marks_on" (top 36) ["days_by_mark","day"] f fd
 He:∃f fd,Gd K mg "sure_sheets" (top 35) ["book","mould"] f fd
 JU:∃f fd,Gd K mg "surely" (top 34) ["book","mould","day"] f fd
section
variable {P:Program} {w:World} {K:Frag} {mg:Str->Option Value} {base:Heap}
theorem Bc:bB ["_law_script","_law_k"] ["_law_script","_law_k"] (aY (top 40)):=⟨rfl,rfl,rfl,by decide +kernel,rfl,by decide +kernel,by decide +kernel⟩
theorem Ih (F:bN K mg) {f:Addr} {fd:FuncData} (G:Gd K mg "_law_cell_at" (top 40) ["_law_script","_law_k"] f fd):aU P w K mg base aZ 1 f fd ["_law_script","_law_k"] (bA K pC):=by
 have aB:=Bc.nd
 exact bK (k:=0) G.fn Bc λaX A outer s H E hr=>(aL (eM (bQ (uQ hr) (ag 1) (bU mm rfl F.ma mx (ah (ag 0) ao)) (bJ _)) (aN (bz (aV (ag 0) (ag 1)))) fc) (aN (bz ay)))
theorem B0:bB ["_law_script","_law_k","_law_cell"] ["_law_script","_law_k"] (aY (top 41)):=⟨rfl,rfl,rfl,by decide +kernel,rfl,by decide +kernel,by decide +kernel⟩
theorem JV (F:bN K mg) {f:Addr} {fd:FuncData} (G:Gd K mg "_law_state" (top 41) ["_law_script","_law_k"] f fd):aU P w K mg base aZ 2 f fd ["_law_script","_law_k"] (bA K sO):=by
 obtain⟨_,_,sD⟩:=F.Ia
 have aB:=B0.nd
 exact bK (k:=1) G.fn B0 λaX A outer s H E hr=>(aL (bW 2 aB (aK (Ih F sD) (hr.mono (by decide)) rfl sD.mg sD.fn.kp sD.b (ah (ag 0) (ah (ag 1) ao)))) (aN (bz (om (ah (bU (Ei rfl) rfl F.EF Fd (ah ay (ah (cf E2 (ag 2) (cf O2 ay ay)) ao))) (ah (cf oo (ag 2) ay) ao))))))
theorem CO:bB ["_law_state_here","_law_many","_law_found","_law_stirred"] ["_law_state_here","_law_many"] (aY (top 42)):=⟨rfl,rfl,rfl,by decide +kernel,rfl,by decide +kernel,by decide +kernel⟩
theorem cV (F:bN K mg) {f:Addr} {fd:FuncData} (G:Gd K mg "_law_take" (top 42) ["_law_state_here","_law_many"] f fd):aU P w K mg base aZ 1 f fd ["_law_state_here","_law_many"] (bA K ba):=by
 have aB:=CO.nd
 exact bK (k:=0) G.fn CO λaX A outer s H E hr=>(aL (eM (bQ Qt (aV (ag 0) ay) ay (bJ _)) (aL (bW 2 aB (cf oo (aV (ag 0) ay) (ag 1))) (aL (mv (cf E3 (aV (ag 0) ay) (ag 1)) (ag 0) ay) (aN (bz (ag 2))))) fc) (aL (mv (cf oo (cf f9 (cf ql (aV (ag 0) ay) ay) ay) ay) (ag 0) ay) (aL (bW 3 aB (cf oo (cf f9 (cf f9 (cf ql (aV (ag 0) ay) (aV (ag 0) ay)) (cf ql ay (aV (ag 0) ay))) ay) ay)) (aL (bW 3 aB (cf oo (cf f9 (cf ql (ag 3) (ag 3)) (cf ql ay (ag 3))) ay)) (aN (bz (cf oo (cf E3 (ag 3) ay) (ag 1))))))))
theorem B7:bB ["_law_state_here","_law_mended","_law_there","_law_found","_law_way","_law_day"] ["_law_state_here","_law_mended"] (aY (top 47)):=⟨rfl,rfl,rfl,by decide +kernel,rfl,by decide +kernel,by decide +kernel⟩
theorem JW (F:bN K mg) {f:Addr} {fd:FuncData} (G:Gd K mg "_law_lived" (top 47) ["_law_state_here","_law_mended"] f fd):aU P w K mg base aZ 2 f fd ["_law_state_here","_law_mended"] (bA K nP):=by
 obtain⟨_,_,aD⟩:=F.pN
 have aB:=B7.nd
 exact bK (k:=1) G.fn B7 λaX A outer s H E hr=>(aL (ED 2 3 4 rfl aB (ah (dN (df hr) (aK (cV F aD) (hr.mono (by decide)) rfl aD.mg aD.fn.kp aD.b (ah (ag 0) (ah ay ao))) ay (bJ _)) (ah (om ao) (ah (cf f9 ay (aK (cV F aD) (hr.mono (by decide)) rfl aD.mg aD.fn.kp aD.b (ah (ag 0) (ah ay ao)))) ao)))) (aL (gH PassesOwn.never rfl (dF rfl F.cK (ah ay ao)) (bZ 5 aB) (aL (bW 2 aB (ef (oG (ag 2) (dO (dN (df hr) (aK (cV F aD) (hr.mono (by decide)) rfl aD.mg aD.fn.kp aD.b (ah (ag 0) (ah (ag 4) ao))) ay (bJ _)))) (dO (dN (pP hr) (ag 5) (ag 1) rfl)))) (aN (eM (fb (ag 2)) (aN (kN (qo (ag 3) (ag 5)))) fc)))) (aN (bz (ug (ag 3))))))
theorem CP:bB ["_law_state_here","_law_found","_law_moulds","_law_often","_law_mould","_law_mended","_law_lives","_law_turn","_law_mark","_law_day","_law_seen","_law_has"] ["_law_state_here"] (aY (top 48)):=⟨rfl,rfl,rfl,by decide +kernel,rfl,by decide +kernel,by decide +kernel⟩
theorem La (F:bN K mg) {f:Addr} {fd:FuncData} (G:Gd K mg "_law_book" (top 48) ["_law_state_here"] f fd):aU P w K mg base aZ 3 f fd ["_law_state_here"] (bA K (tD w)):=by
 obtain⟨_,_,aD⟩:=F.pN
 obtain⟨_,_,sR⟩:=F.JR
 have bH:(["_law_mark"]:List Str).Nodup:=by decide +kernel
 have nq:(["_law_mark","_law_state_here","_law_often"]:List Str).Nodup:=by decide +kernel
 have nr:(["_law_mark","_law_day","_law_lives"]:List Str).Nodup:=by decide +kernel
 have rL:(["_law_mark","_law_day","_law_lives"]:List Str).Nodup:=by decide +kernel
 have aB:=CP.nd
 exact bK (k:=2) G.fn CP λaX A outer s H E hr=>(aL (mj (eZ (ah TK.EB (ah (cf f9 ay (aK (cV F aD) (hr.mono (by decide)) rfl aD.mg aD.fn.kp aD.b (ah (ag 0) (ah ay ao)))) (ah (cf f9 ay (aK (cV F aD) (hr.mono (by decide)) rfl aD.mg aD.fn.kp aD.b (ah (ag 0) (ah ay ao)))) ao)))) (mi rfl (fq (bZ 1 aB) (fq (bZ 2 aB) (fq (bZ 3 aB) lX))))) (aL (gH PassesOwn.never rfl (dF rfl F.cK (ah (ag 2) ao)) (bZ 4 aB) (aL (mj (eZ (ah (cL (N:=["_law_mark"]) (nt:=1) (cap:=[]) rfl (cw (by kernel_rfl)) (bY 0) (dF rfl F.cK (ah ay ao)) (λcl C s H ex pn=>⟨(bI (i:=0) bH rfl (Or.inl rfl)),eG,(om ao)⟩)) (ah (om ao) ao))) (mi rfl (fq (bZ 5 aB) (fq (bZ 6 aB) lX)))) (aL (gH PassesOwn.never rfl (dF rfl F.cK (ah (aK (cV F aD) (hr.mono (by decide)) rfl aD.mg aD.fn.kp aD.b (ah (ag 0) (ah ay ao))) ao)) (bZ 7 aB) (aL (mj (eZ (ah (aK (cV F aD) (hr.mono (by decide)) rfl aD.mg aD.fn.kp aD.b (ah (ag 0) (ah ay ao))) (ah (aK (cV F aD) (hr.mono (by decide)) rfl aD.mg aD.fn.kp aD.b (ah (ag 0) (ah ay ao))) ao))) (mi rfl (fq (bZ 8 aB) (fq (bZ 9 aB) lX)))) (aL (kN (qo (aV (ag 5) (ag 8)) (ag 9))) (aN (TK.tW rfl hr dQ (ag 1) (eZ (ah jq (ah (ag 4) (ah (ag 9) (ah (ag 8) ao)))))))))) (aL (gH PassesOwn.never rfl (dF rfl F.cK (ah ay ao)) (bZ 8 aB) (aN (kN (qo (ag 6) (aK (JW F sR) (hr.mono (by decide)) rfl sR.mg sR.fn.kp sR.b (ah (ag 0) (ah (aV (ag 5) (ag 8)) ao))))))) (aN (gH PassesOwn.never rfl (dF rfl F.cK (ah (aK (cV F aD) (hr.mono (by decide)) rfl aD.mg aD.fn.kp aD.b (ah (ag 0) (ah ay ao))) ao)) (bZ 7 aB) (aL (bW 9 aB (aK (cV F aD) (hr.mono (by decide)) rfl aD.mg aD.fn.kp aD.b (ah (ag 0) (ah ay ao)))) (aL (Mp 10 (N:=["_law_mark","_law_state_here","_law_often"]) (nt:=1) (cap:=[0,3]) aB rfl (cw (by kernel_rfl)) (bY 0) (dF rfl F.cK (ah ay ao)) (λcl C s H ex pn=>⟨(bI (i:=0) nq rfl (Or.inl rfl)),(f6 (bQ (df hr) (aK (cV F aD) (hr.mono (by decide)) rfl aD.mg aD.fn.kp aD.b (ah (ag 1) (ah (ag 2) ao))) ay (bJ _))),(ag 0)⟩)) (aL (bW 11 aB (iu jn rfl F.fm fu (ah (cL (N:=["_law_mark","_law_day","_law_lives"]) (nt:=1) (cap:=[9,6]) rfl (cw (by kernel_rfl)) (bY 0) (eh (ag 10)) (λcl C s H ex pn=>⟨(bI (i:=0) nr rfl (Or.inl rfl)),(f6 (bQ (gg hr) (ag 1) (aV (ag 2) (ag 0)) rfl)),(ag 0)⟩)) ao))) (aN (TK.tW rfl hr dQ (ag 1) (eZ (ah jq (ah (ag 4) (ah (ag 9) (ah (eZ (ah (ag 11) (ah (iu jn rfl F.fm fu (ah (cL (N:=["_law_mark","_law_day","_law_lives"]) (nt:=1) (cap:=[9,6]) rfl (cw (by kernel_rfl)) (bY 0) (eh (ag 10)) (λcl C s H ex pn=>⟨(bI (i:=0) rL rfl (Or.inl rfl)),(f6 (bQ (pP hr) (ag 1) (aV (ag 2) (ag 0)) rfl)),(ag 0)⟩)) ao)) ao))) ao)))))))))))))))) (aN (bz (iu jn rfl F.fm fu (ah (bU (TK.DC hr) rfl F.vU wc (ah (iu (TK.DB rfl) rfl F.pR pX (ah (ag 1) ao)) ao)) ao))))))
theorem B9:bB ["_law_state_here","_law_most","_law_way"] ["_law_state_here","_law_most"] (aY (top 44)):=⟨rfl,rfl,rfl,by decide +kernel,rfl,by decide +kernel,by decide +kernel⟩
theorem Ca (F:bN K mg) {f:Addr} {fd:FuncData} (G:Gd K mg "_law_marks" (top 44) ["_law_state_here","_law_most"] f fd):aU P w K mg base aZ 2 f fd ["_law_state_here","_law_most"] (bA K kH):=by
 obtain⟨_,_,aD⟩:=F.pN
 have bH:(["_law_mark","_law_state_here","_law_way"]:List Str).Nodup:=by decide +kernel
 have aB:=B9.nd
 exact bK (k:=1) G.fn B9 λaX A outer s H E hr=>(aL (bW 2 aB (cf f9 ay (aK (cV F aD) (hr.mono (by decide)) rfl aD.mg aD.fn.kp aD.b (ah (ag 0) (ah ay ao))))) (aN (bz (iu jn rfl F.fm fu (ah (cL (N:=["_law_mark","_law_state_here","_law_way"]) (nt:=1) (cap:=[0,2]) rfl (cw (by kernel_rfl)) (bY 0) (dF rfl F.cK (ah (ag 1) ao)) (λcl C s H ex pn=>⟨(bI (i:=0) bH rfl (Or.inl rfl)),(f6 (bQ (df hr) (aK (cV F aD) (hr.mono (by decide)) rfl aD.mg aD.fn.kp aD.b (ah (ag 1) (ah (cf f9 (ag 2) ay) ao))) ay (bJ _))),(ag 0)⟩)) ao)))))
theorem CQ:bB ["_law_state_here","_law_found","_law_moulds","_law_last","_law_most","_law_turn","_law_mould","_law_day","_law_has","_law_lacks"] ["_law_state_here"] (aY (top 46)):=⟨rfl,rfl,rfl,by decide +kernel,rfl,by decide +kernel,by decide +kernel⟩
theorem Lb (F:bN K mg) {f:Addr} {fd:FuncData} (G:Gd K mg "_law_near" (top 46) ["_law_state_here"] f fd):aU P w K mg base aZ 3 f fd ["_law_state_here"] (bA K (tF w)):=by
 obtain⟨_,_,aD⟩:=F.pN
 obtain⟨_,_,kI⟩:=F.JS
 have bH:(["_law_mark","_law_has"]:List Str).Nodup:=by decide +kernel
 have aB:=CQ.nd
 exact bK (k:=2) G.fn CQ λaX A outer s H E hr=>(aL (bW 1 aB TK.EB) (aL (ED 2 3 4 rfl aB (ah (cf f9 ay (aK (cV F aD) (hr.mono (by decide)) rfl aD.mg aD.fn.kp aD.b (ah (ag 0) (ah ay ao)))) (ah (aV (oj (ah ay (ah ay (ah ay ao)))) (aK (cV F aD) (hr.mono (by decide)) rfl aD.mg aD.fn.kp aD.b (ah (ag 0) (ah ay ao)))) (ah (cf f9 ay (aK (cV F aD) (hr.mono (by decide)) rfl aD.mg aD.fn.kp aD.b (ah (ag 0) (ah ay ao)))) ao)))) (aL (gH PassesOwn.never rfl (dF rfl F.cK (ah (aK (cV F aD) (hr.mono (by decide)) rfl aD.mg aD.fn.kp aD.b (ah (ag 0) (ah ay ao))) ao)) (bZ 5 aB) (aL (NO 6 7 rfl aB (ah (aK (cV F aD) (hr.mono (by decide)) rfl aD.mg aD.fn.kp aD.b (ah (ag 0) (ah (ag 2) ao))) (ah (aK (cV F aD) (hr.mono (by decide)) rfl aD.mg aD.fn.kp aD.b (ah (ag 0) (ah (ag 3) ao))) ao))) (aN (eM (bQ (df hr) (aK (cV F aD) (hr.mono (by decide)) rfl aD.mg aD.fn.kp aD.b (ah (ag 0) (ah ay ao))) ay (bJ _)) (aN (TK.tW rfl hr dQ (ag 1) (eZ (ah jq (ah (ag 6) (ah (ag 7) (ah (aK (cV F aD) (hr.mono (by decide)) rfl aD.mg aD.fn.kp aD.b (ah (ag 0) (ah (ag 4) ao))) ao))))))) (aL (bW 8 aB (aK (Ca F kI) (hr.mono (by decide)) rfl kI.mg kI.fn.kp kI.b (ah (ag 0) (ah (ag 4) ao)))) (aL (bW 9 aB (iu jn rfl F.fm fu (ah (cL (N:=["_law_mark","_law_has"]) (nt:=1) (cap:=[8]) rfl (cw (by kernel_rfl)) (bY 0) (eh (aK (Ca F kI) (hr.mono (by decide)) rfl kI.mg kI.fn.kp kI.b (ah (ag 0) (ah (ag 4) ao)))) (λcl C s H ex pn=>⟨(bI (i:=0) bH rfl (Or.inl rfl)),(f6 (bQ (pP hr) (ag 0) (ag 1) rfl)),(ag 0)⟩)) ao))) (aN (TK.tW rfl hr dQ (ag 1) (eZ (ah jq (ah (ag 6) (ah (ag 7) (ah (eZ (ah (ag 8) (ah (ag 9) ao))) ao))))))))))))) (aN (bz (iu jn rfl F.fm fu (ah (bU (TK.DC hr) rfl F.vU wc (ah (iu (TK.DB rfl) rfl F.pR pX (ah (ag 1) ao)) ao)) ao)))))))
theorem AX:bB ["things"] ["things"] (aY (top 14)):=⟨rfl,rfl,rfl,by decide +kernel,rfl,by decide +kernel,by decide +kernel⟩
theorem AY (F:bN K mg) {f:Addr} {fd:FuncData} (G:Gd K mg "is_rising" (top 14) ["things"] f fd):aU P w K mg base aZ 1 f fd ["things"] (bA K lL):=by
 have bH:(["ahead","behind"]:List Str).Nodup:=by decide +kernel
 have aB:=AX.nd
 exact bK (k:=0) G.fn AX λaX A outer s H E hr=>(aN (bz (bU (uj rfl) rfl F.tX uk (ah (cL (N:=["ahead","behind"]) (nt:=2) (cap:=[]) rfl (cw (by kernel_rfl)) (xl (nL 0 (nL 1 wQ))) (E1 rfl F.EG (ah (ag 0) (ah (yG (ag 0) (xQ ay) yF) ao))) (λcl C s H ex pn=>⟨(lT rfl (lO (bI (i:=0) bH rfl (Or.inl rfl)) (lO (bI (i:=1) bH rfl (Or.inl rfl)) sZ))),eG,(dN (uQ hr) (ag 0) (ag 1) (bJ _))⟩)) ao))))
theorem AZ:bB ["thing"] ["thing"] (aY (top 9)):=⟨rfl,rfl,rfl,by decide +kernel,rfl,by decide +kernel,by decide +kernel⟩
theorem HJ (F:bN K mg) {f:Addr} {fd:FuncData} (G:Gd K mg "is_number" (top 9) ["thing"] f fd):aU P w K mg base aZ 1 f fd ["thing"] (bA K vD):=by
 have aB:=AZ.nd
 exact bK (k:=0) G.fn AZ λaX A outer s H E hr=>(aN (bz (ef (bU iA rfl F.gQ gR (ah (ag 0) (ah (iF O3 rfl F.N3) ao))) (ef (uh (bU iA rfl F.gQ gR (ah (ag 0) (ah (iF xp rfl F.wX) ao)))) (dO (dN Qu (ag 0) ay (bJ _)))))))
theorem Bd:bB ["thing","many"] ["thing","many"] (aY (top 10)):=⟨rfl,rfl,rfl,by decide +kernel,rfl,by decide +kernel,by decide +kernel⟩
theorem vF (F:bN K mg) {f:Addr} {fd:FuncData} (G:Gd K mg "is_below" (top 10) ["thing","many"] f fd):aU P w K mg base aZ 2 f fd ["thing","many"] (bA K nI):=by
 obtain⟨_,_,so⟩:=F.HE
 have aB:=Bd.nd
 exact bK (k:=1) G.fn Bd λaX A outer s H E hr=>(aN (bz (ef (aK (HJ F so) (hr.mono (by decide)) rfl so.mg so.fn.kp so.b (ah (ag 0) ao)) (dO (dN (uQ hr) (ag 0) (ag 1) (bJ _))))))
theorem Bt:bB ["thing"] ["thing"] (aY (top 11)):=⟨rfl,rfl,rfl,by decide +kernel,rfl,by decide +kernel,by decide +kernel⟩
theorem Bu (F:bN K mg) {f:Addr} {fd:FuncData} (G:Gd K mg "is_mark" (top 11) ["thing"] f fd):aU P w K mg base aZ 3 f fd ["thing"] (bA K pH):=by
 obtain⟨_,_,gE⟩:=F.vE
 have aB:=Bt.nd
 exact bK (k:=2) G.fn Bt λaX A outer s H E hr=>(aN (bz (aK (vF F gE) (hr.mono (by decide)) rfl gE.mg gE.fn.kp gE.b (ah (ag 0) (ah (fF F.lP rfl) ao)))))
theorem A0:bB ["thing"] ["thing"] (aY (top 21)):=⟨rfl,rfl,rfl,by decide +kernel,rfl,by decide +kernel,by decide +kernel⟩
theorem A1 (F:bN K mg) {f:Addr} {fd:FuncData} (G:Gd K mg "are_marks" (top 21) ["thing"] f fd):aU P w K mg base aZ 4 f fd ["thing"] (bA K pB):=by
 obtain⟨_,_,jV⟩:=F.Br
 obtain⟨_,_,jT⟩:=F.AW
 have bH:(["mark"]:List Str).Nodup:=by decide +kernel
 have aB:=A0.nd
 exact bK (k:=3) G.fn A0 λaX A outer s H E hr=>(aN (bz (ef (bU iA rfl F.gQ gR (ah (ag 0) (ah (iF fu rfl F.fm) ao))) (ef (bU (uj rfl) rfl F.tX uk (ah (cL (N:=["mark"]) (nt:=1) (cap:=[]) rfl (cw (by kernel_rfl)) (bY 0) (eh (ag 0)) (λcl C s H ex pn=>⟨(bI (i:=0) bH rfl (Or.inl rfl)),eG,(aK (Bu F jV) (hr.mono (by decide)) rfl jV.mg jV.fn.kp jV.b (ah (ag 0) ao))⟩)) ao)) (dO (aK (AY F jT) (hr.mono (by decide)) rfl jT.mg jT.fn.kp jT.b (ah (ag 0) ao)))))))
theorem A2:bB ["marks","others"] ["marks","others"] (aY (top 23)):=⟨rfl,rfl,rfl,by decide +kernel,rfl,by decide +kernel,by decide +kernel⟩
theorem HK (F:bN K mg) {f:Addr} {fd:FuncData} (G:Gd K mg "are_apart" (top 23) ["marks","others"] f fd):aU P w K mg base aZ 1 f fd ["marks","others"] (bA K sj):=by
 have bH:(["mark","others"]:List Str).Nodup:=by decide +kernel
 have aB:=A2.nd
 exact bK (k:=0) G.fn A2 λaX A outer s H E hr=>(aN (bz (uh (bU (E5 rfl) rfl F.EE Fc (ah (cL (N:=["mark","others"]) (nt:=1) (cap:=[1]) rfl (cw (by kernel_rfl)) (bY 0) (eh (ag 0)) (λcl C s H ex pn=>⟨(bI (i:=0) bH rfl (Or.inl rfl)),eG,(dN (gg hr) (ag 0) (ag 1) rfl)⟩)) ao)))))
theorem Be:bB ["thing","has","lacks"] ["thing"] (aY (top 22)):=⟨rfl,rfl,rfl,by decide +kernel,rfl,by decide +kernel,by decide +kernel⟩
theorem Ii (F:bN K mg) {f:Addr} {fd:FuncData} (G:Gd K mg "is_sheet" (top 22) ["thing"] f fd):aU P w K mg base aZ 5 f fd ["thing"] (bA K sy):=by
 obtain⟨_,_,kE⟩:=F.HF
 obtain⟨_,_,sr⟩:=F.HG
 have aB:=Be.nd
 exact bK (k:=4) G.fn Be λaX A outer s H E hr=>(aL (eM (PW.pt (w_or (iS (fb (bU iA rfl F.gQ gR (ah (ag 0) (ah (iF fu rfl F.fm) ao))))) (kS (bQ (mJ hr) (bU mm rfl F.ma mx (ah (ag 0) ao)) ay (bJ _))))) (aN (bz dQ)) fc) (aL (mj (ag 0) (mi rfl (fq (bZ 1 aB) (fq (bZ 2 aB) lX)))) (aN (bz (ef (aK (A1 F kE) (hr.mono (by decide)) rfl kE.mg kE.fn.kp kE.b (ah (ag 1) ao)) (ef (aK (A1 F kE) (hr.mono (by decide)) rfl kE.mg kE.fn.kp kE.b (ah (ag 2) ao)) (dO (aK (HK F sr) (hr.mono (by decide)) rfl sr.mg sr.fn.kp sr.b (ah (ag 1) (ah (ag 2) ao))))))))))
theorem Bf:bB ["thing"] ["thing"] (aY (top 12)):=⟨rfl,rfl,rfl,by decide +kernel,rfl,by decide +kernel,by decide +kernel⟩
theorem Bg (F:bN K mg) {f:Addr} {fd:FuncData} (G:Gd K mg "is_mould" (top 12) ["thing"] f fd):aU P w K mg base aZ 3 f fd ["thing"] (bA K pE):=by
 obtain⟨_,_,gE⟩:=F.vE
 have aB:=Bf.nd
 exact bK (k:=2) G.fn Bf λaX A outer s H E hr=>(aN (bz (aK (vF F gE) (hr.mono (by decide)) rfl gE.mg gE.fn.kp gE.b (ah (ag 0) (ah (fF F.sJ rfl) ao)))))
theorem Cb:bB ["thing"] ["thing"] (aY (top 13)):=⟨rfl,rfl,rfl,by decide +kernel,rfl,by decide +kernel,by decide +kernel⟩
theorem Cc (F:bN K mg) {f:Addr} {fd:FuncData} (G:Gd K mg "is_day" (top 13) ["thing"] f fd):aU P w K mg base aZ 3 f fd ["thing"] (bA K pM):=by
 obtain⟨_,_,gE⟩:=F.vE
 have aB:=Cb.nd
 exact bK (k:=2) G.fn Cb λaX A outer s H E hr=>(aN (bz (aK (vF F gE) (hr.mono (by decide)) rfl gE.mg gE.fn.kp gE.b (ah (ag 0) (ah (fF F.lS rfl) ao)))))
theorem Bv:bB ["thing","word","mould","day","what"] ["thing"] (aY (top 24)):=⟨rfl,rfl,rfl,by decide +kernel,rfl,by decide +kernel,by decide +kernel⟩
theorem IW (F:bN K mg) {f:Addr} {fd:FuncData} (G:Gd K mg "is_page" (top 24) ["thing"] f fd):aU P w K mg base aZ 6 f fd ["thing"] (bA K sI):=by
 obtain⟨_,_,jU⟩:=F.Bb
 obtain⟨_,_,jY⟩:=F.BZ
 obtain⟨_,_,sE⟩:=F.Ib
 obtain⟨_,_,jV⟩:=F.Br
 have aB:=Bv.nd
 exact bK (k:=5) G.fn Bv λaX A outer s H E hr=>(aL (eM (PW.pt (w_or (iS (fb (bU iA rfl F.gQ gR (ah (ag 0) (ah (iF fu rfl F.fm) ao))))) (kS (bQ (mJ hr) (bU mm rfl F.ma mx (ah (ag 0) ao)) ay (bJ _))))) (aN (bz dQ)) fc) (aL (mj (ag 0) (mi rfl (fq (bZ 1 aB) (fq (bZ 2 aB) (fq (bZ 3 aB) (fq (bZ 4 aB) lX)))))) (aL (eM (PW.pt (w_or (iS (fb (aK (Bg F jU) (hr.mono (by decide)) rfl jU.mg jU.fn.kp jU.b (ah (ag 2) ao)))) (kS (iS (fb (aK (Cc F jY) (hr.mono (by decide)) rfl jY.mg jY.fn.kp jY.b (ah (ag 3) ao))))))) (aN (bz dQ)) fc) (aL (eM (bQ (df hr) (ag 1) jq (bJ _)) (aN (bz (aK (Ii F sE) (hr.mono (by decide)) rfl sE.mg sE.fn.kp sE.b (ah (ag 4) ao)))) fc) (aN (bz (ef (dN (df hr) (ag 1) jq (bJ _)) (dO (aK (Bu F jV) (hr.mono (by decide)) rfl jV.mg jV.fn.kp jV.b (ah (ag 4) ao))))))))))
theorem Bh:bB ["thing"] ["thing"] (aY (top 25)):=⟨rfl,rfl,rfl,by decide +kernel,rfl,by decide +kernel,by decide +kernel⟩
theorem Ij (F:bN K mg) {f:Addr} {fd:FuncData} (G:Gd K mg "are_laid" (top 25) ["thing"] f fd):aU P w K mg base aZ 7 f fd ["thing"] (bA K sA):=by
 obtain⟨_,_,sL⟩:=F.IU
 obtain⟨_,_,jT⟩:=F.AW
 have bH:(["page"]:List Str).Nodup:=by decide +kernel
 have aB:=Bh.nd
 exact bK (k:=6) G.fn Bh λaX A outer s H E hr=>(aN (bz (ef (bU iA rfl F.gQ gR (ah (ag 0) (ah (iF fu rfl F.fm) ao))) (ef (dN FQ (bU mm rfl F.ma mx (ah (ag 0) ao)) (fF F.wq rfl) (bJ _)) (ef (bU (uj rfl) rfl F.tX uk (ah (cL (N:=["page"]) (nt:=1) (cap:=[]) rfl (cw (by kernel_rfl)) (bY 0) (eh (ag 0)) (λcl C s H ex pn=>⟨(bI (i:=0) bH rfl (Or.inl rfl)),eG,(aK (IW F sL) (hr.mono (by decide)) rfl sL.mg sL.fn.kp sL.b (ah (ag 0) ao))⟩)) ao)) (dO (aK (AY F jT) (hr.mono (by decide)) rfl jT.mg jT.fn.kp jT.b (ah (ag 0) ao))))))))
theorem A3:bB ["pages","mould","mark","half"] ["pages","mould","mark","half"] (aY (top 30)):=⟨rfl,rfl,rfl,by decide +kernel,rfl,by decide +kernel,by decide +kernel⟩
theorem se (F:bN K mg) {f:Addr} {fd:FuncData} (G:Gd K mg "days_seen" (top 30) ["pages","mould","mark","half"] f fd):aU P w K mg base aZ 1 f fd ["pages","mould","mark","half"] (bA K jl):=by
 have bH:(["page","mould","mark","half"]:List Str).Nodup:=by decide +kernel
 have aB:=A3.nd
 exact bK (k:=0) G.fn A3 λaX A outer s H E hr=>(aN (bz (cL (N:=["page","mould","mark","half"]) (nt:=1) (cap:=[1,2,3]) rfl (cw (by kernel_rfl)) (bY 0) (eh (ag 0)) (λcl C s H ex pn=>⟨(bI (i:=0) bH rfl (Or.inl rfl)),(f6 (PW.pt (w_and (bQ (df hr) (aV (ag 0) ay) jq (bJ _)) (w_and (bQ (df hr) (aV (ag 0) ay) (ag 1) (bJ _)) (lW (bQ (gg hr) (ag 2) (aV (aV (ag 0) ay) (ag 3)) rfl)))))),(aV (ag 0) ay)⟩))))
theorem AJ:bB ["pages","mould","mark"] ["pages","mould","mark"] (aY (top 31)):=⟨rfl,rfl,rfl,by decide +kernel,rfl,by decide +kernel,by decide +kernel⟩
theorem vw (F:bN K mg) {f:Addr} {fd:FuncData} (G:Gd K mg "days_mended" (top 31) ["pages","mould","mark"] f fd):aU P w K mg base aZ 1 f fd ["pages","mould","mark"] (bA K nG):=by
 have bH:(["page","mould","mark"]:List Str).Nodup:=by decide +kernel
 have aB:=AJ.nd
 exact bK (k:=0) G.fn AJ λaX A outer s H E hr=>(aN (bz (cL (N:=["page","mould","mark"]) (nt:=1) (cap:=[1,2]) rfl (cw (by kernel_rfl)) (bY 0) (eh (ag 0)) (λcl C s H ex pn=>⟨(bI (i:=0) bH rfl (Or.inl rfl)),(f6 (PW.pt (w_and (bQ (df hr) (aV (ag 0) ay) jq (bJ _)) (w_and (bQ (df hr) (aV (ag 0) ay) (ag 1) (bJ _)) (lW (bQ (df hr) (aV (ag 0) ay) (ag 2) (bJ _))))))),(aV (ag 0) ay)⟩))))
theorem AH:bB ["days","day","later"] ["days","day","later"] (aY (top 29)):=⟨rfl,rfl,rfl,by decide +kernel,rfl,by decide +kernel,by decide +kernel⟩
theorem G4 (F:bN K mg) {f:Addr} {fd:FuncData} (G:Gd K mg "is_any_behind" (top 29) ["days","day","later"] f fd):aU P w K mg base aZ 1 f fd ["days","day","later"] (bA K rQ):=by
 have bH:(["other","day","later"]:List Str).Nodup:=by decide +kernel
 have aB:=AH.nd
 exact bK (k:=0) G.fn AH λaX A outer s H E hr=>(aN (bz (bU (E5 rfl) rfl F.EE Fc (ah (cL (N:=["other","day","later"]) (nt:=1) (cap:=[1,2]) rfl (cw (by kernel_rfl)) (bY 0) (eh (ag 0)) (λcl C s H ex pn=>⟨(bI (i:=0) bH rfl (Or.inl rfl)),eG,(Me (uQ hr) FQ (ag 1) (ag 0) (ag 2))⟩)) ao))))
theorem Bw:bB ["pages","mould","mark","lacked","mended"] ["pages","mould","mark"] (aY (top 28)):=⟨rfl,rfl,rfl,by decide +kernel,rfl,by decide +kernel,by decide +kernel⟩
theorem IY (F:bN K mg) {f:Addr} {fd:FuncData} (G:Gd K mg "clashes" (top 28) ["pages","mould","mark"] f fd):aU P w K mg base aZ 2 f fd ["pages","mould","mark"] (bA K pI):=by
 obtain⟨_,_,eV⟩:=F.vA
 obtain⟨_,_,gC⟩:=F.vv
 obtain⟨_,_,rR⟩:=F.G3
 have bH:(["day","later","lacked","mended"]:List Str).Nodup:=by decide +kernel
 have aB:=Bw.nd
 exact bK (k:=1) G.fn Bw λaX A outer s H E hr=>(aL (bW 3 aB (aK (se F eV) (hr.mono (by decide)) rfl eV.mg eV.fn.kp eV.b (ah (ag 0) (ah (ag 1) (ah (ag 2) (ah (fF F.sQ rfl) ao)))))) (aL (bW 4 aB (aK (vw F gC) (hr.mono (by decide)) rfl gC.mg gC.fn.kp gC.b (ah (ag 0) (ah (ag 1) (ah (ag 2) ao))))) (aN (bz (Ml (N:=["day","later","lacked","mended"]) (nt:=2) (cap:=[3,4]) rfl (EX (by kernel_rfl)) (bY 0) (tu 0) (bY 1) (tu 1) (eh (IM (aK (se F eV) (hr.mono (by decide)) rfl eV.mg eV.fn.kp eV.b (ah (ag 0) (ah (ag 1) (ah (ag 2) (ah (fF F.tY rfl) ao))))) rfl rfl F.vU wc rfl F.N5 O4)) (λcl C s H ex pn=>⟨(bI (i:=0) bH rfl (Or.inl rfl)),eG,(Eh rfl F.cK (ah (ag 0) (ah (fF F.lS rfl) ao))),(bI (i:=1) bH rfl (Or.inl rfl)),(f6 (PW.pt (w_and (PW.pt (w_or (bQ (gg hr) (ag 1) (ag 2) rfl) (kS (PW.pt (w_and (bQ (df hr) (ag 1) (ag 0) (bJ _)) (lW (bQ (gg hr) (ag 0) (ag 3) rfl))))))) (lW (iS (fb (aK (G4 F rR) (hr.mono (by decide)) rfl rR.mg rR.fn.kp rR.b (ah (ag 3) (ah (ag 0) (ah (ag 1) ao)))))))))),(eZ (ah (ag 0) (ah (ag 1) ao)))⟩))))))
theorem A4:bB ["pages"] ["pages"] (aY (top 27)):=⟨rfl,rfl,rfl,by decide +kernel,rfl,by decide +kernel,by decide +kernel⟩
theorem HL (F:bN K mg) {f:Addr} {fd:FuncData} (G:Gd K mg "faults_of" (top 27) ["pages"] f fd):aU P w K mg base aZ 3 f fd ["pages"] (bA K sk):=by
 obtain⟨_,_,sM⟩:=F.IV
 have bH:(["mould","mark","day","later","pages"]:List Str).Nodup:=by decide +kernel
 have aB:=A4.nd
 exact bK (k:=2) G.fn A4 λaX A outer s H E hr=>(aN (bz (Mm (N:=["mould","mark","day","later","pages"]) (nt:=4) (cap:=[0]) rfl (EX (by kernel_rfl)) (bY 0) (tu 0) (bY 1) (tu 1) (xl (nL 2 (nL 3 wQ))) (xh [2,3]) (dF rfl F.cK (ah (fF F.sJ rfl) ao)) (λcl C s H ex pn=>⟨(bI (i:=0) bH rfl (Or.inl rfl)),eG,(dF rfl F.cK (ah (fF F.lP rfl) ao)),(bI (i:=1) bH rfl (Or.inl rfl)),eG,(eh (aK (IY F sM) (hr.mono (by decide)) rfl sM.mg sM.fn.kp sM.b (ah (ag 4) (ah (ag 0) (ah (ag 1) ao))))),(lT rfl (lO (bI (i:=2) bH rfl (Or.inl rfl)) (lO (bI (i:=3) bH rfl (Or.inl rfl)) sZ))),eG,(eZ (ah (ag 0) (ah (ag 1) (ah (ag 2) (ah (ag 3) ao)))))⟩))))
theorem Bx:bB ["thing"] ["thing"] (aY (top 26)):=⟨rfl,rfl,rfl,by decide +kernel,rfl,by decide +kernel,by decide +kernel⟩
theorem By (F:bN K mg) {f:Addr} {fd:FuncData} (G:Gd K mg "is_book" (top 26) ["thing"] f fd):aU P w K mg base aZ 8 f fd ["thing"] (bA K nJ):=by
 obtain⟨_,_,sF⟩:=F.Ic
 obtain⟨_,_,su⟩:=F.HH
 have aB:=Bx.nd
 exact bK (k:=7) G.fn Bx λaX A outer s H E hr=>(aN (bz (ef (aK (Ij F sF) (hr.mono (by decide)) rfl sF.mg sF.fn.kp sF.b (ah (ag 0) ao)) (dO (TK.N2 (aK (HL F su) (hr.mono (by decide)) rfl su.mg su.fn.kp su.b (ah (ag 0) ao)))))))
theorem Cd:bB ["_law_later","_law_one","_law_free"] ["_law_later","_law_one","_law_free"] (aY (top 51)):=⟨rfl,rfl,rfl,by decide +kernel,rfl,by decide +kernel,by decide +kernel⟩
theorem JX (F:bN K mg) {f:Addr} {fd:FuncData} (G:Gd K mg "_law_leads" (top 51) ["_law_later","_law_one","_law_free"] f fd):aU P w K mg base aZ 1 f fd ["_law_later","_law_one","_law_free"] (bA K wo):=by
 have aB:=Cd.nd
 exact bK (k:=0) G.fn Cd λaX A outer s H E hr=>(aN (bz (oG (dN (gg hr) dQ (ag 0) rfl) (dO (ef (dN (gg hr) dQ (ag 0) rfl) (dO (oG (uh (ag 1)) (dO (ag 2)))))))))
theorem CS:bB ["_law_ahead","_law_one","_law_free"] ["_law_ahead","_law_one","_law_free"] (aY (top 50)):=⟨rfl,rfl,rfl,by decide +kernel,rfl,by decide +kernel,by decide +kernel⟩
theorem Lc (F:bN K mg) {f:Addr} {fd:FuncData} (G:Gd K mg "_law_gone" (top 50) ["_law_ahead","_law_one","_law_free"] f fd):aU P w K mg base aZ 1 f fd ["_law_ahead","_law_one","_law_free"] (bA K wW):=by
 have aB:=CS.nd
 exact bK (k:=0) G.fn CS λaX A outer s H E hr=>(aN (bz (ef (uh (ag 1)) (dO (oG (dN (gg hr) dQ (ag 0) rfl) (dO (ef (ag 2) (dO (dN (mJ hr) (ag 0) (oj ao) (bJ _))))))))))
theorem DE:bB ["_law_laid","_law_mould","_law_mark","_law_rows","_law_free","_law_page","_law_day","_law_ahead","_law_off"] ["_law_laid","_law_mould","_law_mark"] (aY (top 49)):=⟨rfl,rfl,rfl,by decide +kernel,rfl,by decide +kernel,by decide +kernel⟩
theorem MB (F:bN K mg) {f:Addr} {fd:FuncData} (G:Gd K mg "_law_may" (top 49) ["_law_laid","_law_mould","_law_mark"] f fd):aU P w K mg base aZ 2 f fd ["_law_laid","_law_mould","_law_mark"] (bA K p6):=by
 obtain⟨_,_,tG⟩:=F.K8
 obtain⟨_,_,sS⟩:=F.JT
 have bH:(["_law_day"]:List Str).Nodup:=by decide +kernel
 have nq:(["_law_day"]:List Str).Nodup:=by decide +kernel
 have nr:(["_law_one"]:List Str).Nodup:=by decide +kernel
 have rL:(["_law_one","_law_mark","_law_page"]:List Str).Nodup:=by decide +kernel
 have R0:(["_law_one","_law_ahead","_law_off"]:List Str).Nodup:=by decide +kernel
 have R1:(["_law_one","_law_rows","_law_free","_law_day"]:List Str).Nodup:=by decide +kernel
 have R3:(["_law_row"]:List Str).Nodup:=by decide +kernel
 have aB:=DE.nd
 exact bK (k:=1) G.fn DE λaX A outer s H E hr=>(aL (bW 3 aB (CJ (N:=["_law_day"]) (nt:=1) (cap:=[]) rfl (cw (by kernel_rfl)) (bY 0) (dF rfl F.cK (ah ay ao)) (λcl C s H ex pn=>⟨(bI (i:=0) bH rfl (Or.inl rfl)),eG,(oj (ah dQ (ah dQ ao)))⟩))) (aL (bW 4 aB (CJ (N:=["_law_day"]) (nt:=1) (cap:=[]) rfl (cw (by kernel_rfl)) (bY 0) (dF rfl F.cK (ah ay ao)) (λcl C s H ex pn=>⟨(bI (i:=0) nq rfl (Or.inl rfl)),eG,dQ⟩))) (aL (gH PassesOwn.never rfl (eh (ag 0)) (bZ 5 aB) (aL (eM (PW.pt (w_and (bQ (df hr) (aV (ag 5) ay) jq (bJ _)) (w_and (bQ (df hr) (aV (ag 5) ay) (ag 1) (bJ _)) (lW (bQ (df hr) (aV (ag 5) ay) (ag 2) (bJ _)))))) (aL (mv (cL (N:=["_law_one"]) (nt:=1) (cap:=[]) rfl (cw (by kernel_rfl)) (bY 0) (eh (aV (ag 3) (aV (ag 5) ay))) (λcl C s H ex pn=>⟨(bI (i:=0) nr rfl (Or.inl rfl)),(f6 (iS (fb (ag 0)))),(ag 0)⟩)) (ag 3) (aV (ag 5) ay)) (aN (mv dQ (ag 4) (aV (ag 5) ay)))) fc) (aN (eM (PW.pt (w_and (bQ (df hr) (aV (ag 5) ay) jq (bJ _)) (w_and (bQ (df hr) (aV (ag 5) ay) (ag 1) (bJ _)) (lW (bQ (gg hr) (ag 2) (cf f9 (aV (aV (ag 5) ay) ay) (aV (aV (ag 5) ay) ay)) rfl))))) (aN (mv (cL (N:=["_law_one","_law_mark","_law_page"]) (nt:=1) (cap:=[2,5]) rfl (cw (by kernel_rfl)) (bY 0) (eh (aV (ag 3) (aV (ag 5) ay))) (λcl C s H ex pn=>⟨(bI (i:=0) rL rfl (Or.inl rfl)),(f6 (bQ (df hr) (ag 0) (dN (gg hr) (ag 1) (aV (aV (ag 2) ay) ay) rfl) (bJ _))),(ag 0)⟩)) (ag 3) (aV (ag 5) ay))) fc)))) (aL (gH PassesOwn.never rfl (Eh rfl F.cK (ah ay (ah ay ao))) (bZ 6 aB) (aL (mj (eZ (ah (aV (ag 3) (cf E2 (ag 6) ay)) (ah (aV (ag 4) (ag 6)) ao))) (mi rfl (fq (bZ 7 aB) (fq (bZ 8 aB) lX)))) (aN (mv (cL (N:=["_law_one","_law_ahead","_law_off"]) (nt:=1) (cap:=[7,8]) rfl (cw (by kernel_rfl)) (bY 0) (eh (aV (ag 3) (ag 6))) (λcl C s H ex pn=>⟨(bI (i:=0) R0 rfl (Or.inl rfl)),(f6 (PW.pt (w_or (PW.pt (w_and (fb (ag 0)) (lW (bQ (mJ hr) (ag 1) (oj ao) (bJ _))))) (kS (fb (aK (Lc F tG) (hr.mono (by decide)) rfl tG.mg tG.fn.kp tG.b (ah (ag 1) (ah (ag 0) (ah (ag 2) ao))))))))),(ag 0)⟩)) (ag 3) (ag 6))))) (aL (gH PassesOwn.never rfl (NT rfl F.cK (ah ay (ah (FN E4 ay) (ah (FN E4 ay) ao)))) (bZ 6 aB) (aN (mv (cL (N:=["_law_one","_law_rows","_law_free","_law_day"]) (nt:=1) (cap:=[3,4,6]) rfl (cw (by kernel_rfl)) (bY 0) (eh (aV (ag 3) (ag 6))) (λcl C s H ex pn=>⟨(bI (i:=0) R1 rfl (Or.inl rfl)),(f6 (fb (aK (JX F sS) (hr.mono (by decide)) rfl sS.mg sS.fn.kp sS.b (ah (aV (ag 1) (cf f9 (ag 3) ay)) (ah (ag 0) (ah (aV (ag 2) (cf f9 (ag 3) ay)) ao)))))),(ag 0)⟩)) (ag 3) (ag 6)))) (aN (bz (cL (N:=["_law_row"]) (nt:=1) (cap:=[]) rfl (cw (by kernel_rfl)) (bY 0) (eh (ug (ag 3))) (λcl C s H ex pn=>⟨(bI (i:=0) R3 rfl (Or.inl rfl)),eG,(iu jn rfl F.fm fu (ah (ag 0) ao))⟩)))))))))
theorem CT:bB ["_law_found","_law_due"] ["_law_found","_law_due"] (aY (top 43)):=⟨rfl,rfl,rfl,by decide +kernel,rfl,by decide +kernel,by decide +kernel⟩
theorem CU (F:bN K mg) {f:Addr} {fd:FuncData} (G:Gd K mg "_law_same" (top 43) ["_law_found","_law_due"] f fd):∀n,aU P w K mg base aZ (1+n) f fd ["_law_found","_law_due"] (bA K (gS n))
 |0=>O6 λ_ _=>rfl
 |n+1=>by
  have bH:(["_law_one","_law_other"]:List Str).Nodup:=by decide +kernel
  have aB:=CT.nd
  have ih:=CU F G n
  exact bK G.fn CT λaX A outer s H E hr=>(aL (eM (fb (Mj (ag 1) rfl F.gQ gR (wC rfl F.fm fu rfl) (wC rfl F.pR pX rfl))) (aL (eM (PW.pt (w_or (bQ (mJ hr) (bU iA rfl F.gQ gR (ah (ag 0) (ah (iF fu rfl F.fm) ao))) (bU iA rfl F.gQ gR (ah (ag 1) (ah (iF fu rfl F.fm) ao))) (bJ _)) (kS (bQ (mJ hr) (bU iA rfl F.gQ gR (ah (ag 0) (ah (iF pX rfl F.pR) ao))) (bU iA rfl F.gQ gR (ah (ag 1) (ah (iF pX rfl F.pR) ao))) (bJ _))))) (aN (bz dQ)) fc) (aN (bz (ef (dN (df hr) (bU mm rfl F.ma mx (ah (ag 0) ao)) (bU mm rfl F.ma mx (ah (ag 1) ao)) (bJ _)) (dO (bU (uj rfl) rfl F.tX uk (ah (cL (N:=["_law_one","_law_other"]) (nt:=2) (cap:=[]) rfl (cw (by kernel_rfl)) (xl (nL 0 (nL 1 wQ))) (E1 rfl F.EG (ah (ag 0) (ah (ag 1) ao))) (λcl C s H ex pn=>⟨(lT rfl (lO (bI (i:=0) bH rfl (Or.inl rfl)) (lO (bI (i:=1) bH rfl (Or.inl rfl)) sZ))),eG,(aK ih hr rfl G.mg G.fn.kp G.b (ah (ag 0) (ah (ag 1) ao)))⟩)) ao))))))) fc) (aN (bz (ef (dN (df hr) (bU iA rfl F.gQ gR (ah (ag 0) (ah (iF xp rfl F.wX) ao))) (bU iA rfl F.gQ gR (ah (ag 1) (ah (iF xp rfl F.wX) ao))) (bJ _)) (dO (dN (df hr) (ag 0) (ag 1) (bJ _)))))))
theorem A5:bB ["thing"] ["thing"] (aY (top 32)):=⟨rfl,rfl,rfl,by decide +kernel,rfl,by decide +kernel,by decide +kernel⟩
theorem HM (F:bN K mg) {f:Addr} {fd:FuncData} (G:Gd K mg "need_book" (top 32) ["thing"] f fd):aU P w K mg base aZ 9 f fd ["thing"] (bA K sm):=by
 obtain⟨_,_,jW⟩:=F.Bs
 have aB:=A5.nd
 exact bK (k:=8) G.fn A5 λaX A outer s H E hr=>(aN (eM (iS (fb (aK (By F jW) (hr.mono (by decide)) rfl jW.mg jW.fn.kp jW.b (ah (ag 0) ao)))) v5 fc))
theorem AO:bB ["thing"] ["thing"] (aY (top 15)):=⟨rfl,rfl,rfl,by decide +kernel,rfl,by decide +kernel,by decide +kernel⟩
theorem Hr (F:bN K mg) {f:Addr} {fd:FuncData} (G:Gd K mg "need_mould" (top 15) ["thing"] f fd):aU P w K mg base aZ 4 f fd ["thing"] (bA K sd):=by
 obtain⟨_,_,jU⟩:=F.Bb
 have aB:=AO.nd
 exact bK (k:=3) G.fn AO λaX A outer s H E hr=>(aN (eM (iS (fb (aK (Bg F jU) (hr.mono (by decide)) rfl jU.mg jU.fn.kp jU.b (ah (ag 0) ao)))) v5 fc))
theorem Bi:bB ["thing"] ["thing"] (aY (top 16)):=⟨rfl,rfl,rfl,by decide +kernel,rfl,by decide +kernel,by decide +kernel⟩
theorem Ik (F:bN K mg) {f:Addr} {fd:FuncData} (G:Gd K mg "need_day" (top 16) ["thing"] f fd):aU P w K mg base aZ 4 f fd ["thing"] (bA K sC):=by
 obtain⟨_,_,jY⟩:=F.BZ
 have aB:=Bi.nd
 exact bK (k:=3) G.fn Bi λaX A outer s H E hr=>(aN (eM (iS (fb (aK (Cc F jY) (hr.mono (by decide)) rfl jY.mg jY.fn.kp jY.b (ah (ag 0) ao)))) v5 fc))
theorem AI:bB ["book","mould","mark","shown","mended","present","stays","day"] ["book","mould","mark"] (aY (top 37)):=⟨rfl,rfl,rfl,by decide +kernel,rfl,by decide +kernel,by decide +kernel⟩
theorem G7 (F:bN K mg) {f:Addr} {fd:FuncData} (G:Gd K mg "days_present" (top 37) ["book","mould","mark"] f fd):aU P w K mg base aZ 2 f fd ["book","mould","mark"] (bA K rS):=by
 obtain⟨_,_,eV⟩:=F.vA
 obtain⟨_,_,gC⟩:=F.vv
 have aB:=AI.nd
 exact bK (k:=1) G.fn AI λaX A outer s H E hr=>(aL (bW 3 aB (aK (se F eV) (hr.mono (by decide)) rfl eV.mg eV.fn.kp eV.b (ah (ag 0) (ah (ag 1) (ah (ag 2) (ah (fF F.tY rfl) ao)))))) (aL (bW 4 aB (aK (vw F gC) (hr.mono (by decide)) rfl gC.mg gC.fn.kp gC.b (ah (ag 0) (ah (ag 1) (ah (ag 2) ao))))) (aL (bW 5 aB (om ao)) (aL (bW 6 aB dQ) (aL (gH PassesOwn.never rfl (dF rfl F.cK (ah (fF F.lS rfl) ao)) (bZ 7 aB) (aL (bW 6 aB (oG (dN (gg hr) (ag 7) (ag 3) rfl) (dO (ef (ag 6) (dO (dN (pP hr) (ag 7) (ag 4) rfl)))))) (aN (eM (fb (ag 6)) (aN (kN (qo (ag 5) (ag 7)))) fc)))) (aN (bz (ug (ag 5)))))))))
theorem AK:bB ["book","mould","mark","lacked","mended","absent","barred","day"] ["book","mould","mark"] (aY (top 38)):=⟨rfl,rfl,rfl,by decide +kernel,rfl,by decide +kernel,by decide +kernel⟩
theorem Hf (F:bN K mg) {f:Addr} {fd:FuncData} (G:Gd K mg "days_absent" (top 38) ["book","mould","mark"] f fd):aU P w K mg base aZ 2 f fd ["book","mould","mark"] (bA K rW):=by
 obtain⟨_,_,eV⟩:=F.vA
 obtain⟨_,_,gC⟩:=F.vv
 have aB:=AK.nd
 exact bK (k:=1) G.fn AK λaX A outer s H E hr=>(aL (bW 3 aB (aK (se F eV) (hr.mono (by decide)) rfl eV.mg eV.fn.kp eV.b (ah (ag 0) (ah (ag 1) (ah (ag 2) (ah (fF F.sQ rfl) ao)))))) (aL (bW 4 aB (aK (vw F gC) (hr.mono (by decide)) rfl gC.mg gC.fn.kp gC.b (ah (ag 0) (ah (ag 1) (ah (ag 2) ao))))) (aL (bW 5 aB (om ao)) (aL (bW 6 aB dQ) (aL (gH PassesOwn.never rfl (O8 rfl F.H9 rfl F.cK (ah (fF F.lS rfl) ao)) (bZ 7 aB) (aL (eM (PW.pt (w_or (fb (ag 6)) (w_or (bQ (gg hr) (ag 7) (ag 3) rfl) (kS (bQ (gg hr) (ag 7) (ag 4) rfl))))) (aN (kN (qo (ag 5) (ag 7)))) fc) (aN (bW 6 aB (ef (oG (ag 6) (dO (dN (gg hr) (ag 7) (ag 3) rfl))) (dO (dN (pP hr) (ag 7) (ag 4) rfl))))))) (aN (bz (ug (ag 5)))))))))
theorem Bj:bB ["days_by_mark","day"] ["days_by_mark","day"] (aY (top 36)):=⟨rfl,rfl,rfl,by decide +kernel,rfl,by decide +kernel,by decide +kernel⟩
theorem Bk (F:bN K mg) {f:Addr} {fd:FuncData} (G:Gd K mg "marks_on" (top 36) ["days_by_mark","day"] f fd):aU P w K mg base aZ 1 f fd ["days_by_mark","day"] (bA K pF):=by
 have bH:(["mark","day","days_by_mark"]:List Str).Nodup:=by decide +kernel
 have aB:=Bj.nd
 exact bK (k:=0) G.fn Bj λaX A outer s H E hr=>(aN (bz (iu jn rfl F.fm fu (ah (cL (N:=["mark","day","days_by_mark"]) (nt:=1) (cap:=[1,0]) rfl (cw (by kernel_rfl)) (bY 0) (dF rfl F.cK (ah (fF F.lP rfl) ao)) (λcl C s H ex pn=>⟨(bI (i:=0) bH rfl (Or.inl rfl)),(f6 (bQ (gg hr) (ag 1) (aV (ag 2) (ag 0)) rfl)),(ag 0)⟩)) ao))))
theorem AL:bB ["book","mould","present","absent"] ["book","mould"] (aY (top 35)):=⟨rfl,rfl,rfl,by decide +kernel,rfl,by decide +kernel,by decide +kernel⟩
theorem Hg (F:bN K mg) {f:Addr} {fd:FuncData} (G:Gd K mg "sure_sheets" (top 35) ["book","mould"] f fd):aU P w K mg base aZ 3 f fd ["book","mould"] (bA K rX):=by
 obtain⟨_,_,rT⟩:=F.G6
 obtain⟨_,_,rY⟩:=F.Hd
 obtain⟨_,_,kF⟩:=F.Ig
 have bH:(["mark","book","mould"]:List Str).Nodup:=by decide +kernel
 have nq:(["mark","book","mould"]:List Str).Nodup:=by decide +kernel
 have nr:(["day","present","absent"]:List Str).Nodup:=by decide +kernel
 have aB:=AL.nd
 exact bK (k:=2) G.fn AL λaX A outer s H E hr=>(aL (bW 2 aB (cL (N:=["mark","book","mould"]) (nt:=1) (cap:=[0,1]) rfl (cw (by kernel_rfl)) (bY 0) (dF rfl F.cK (ah (fF F.lP rfl) ao)) (λcl C s H ex pn=>⟨(bI (i:=0) bH rfl (Or.inl rfl)),eG,(aK (G7 F rT) (hr.mono (by decide)) rfl rT.mg rT.fn.kp rT.b (ah (ag 1) (ah (ag 2) (ah (ag 0) ao))))⟩))) (aL (bW 3 aB (cL (N:=["mark","book","mould"]) (nt:=1) (cap:=[0,1]) rfl (cw (by kernel_rfl)) (bY 0) (dF rfl F.cK (ah (fF F.lP rfl) ao)) (λcl C s H ex pn=>⟨(bI (i:=0) nq rfl (Or.inl rfl)),eG,(aK (Hf F rY) (hr.mono (by decide)) rfl rY.mg rY.fn.kp rY.b (ah (ag 1) (ah (ag 2) (ah (ag 0) ao))))⟩))) (aN (bz (cL (N:=["day","present","absent"]) (nt:=1) (cap:=[2,3]) rfl (cw (by kernel_rfl)) (bY 0) (dF rfl F.cK (ah (fF F.lS rfl) ao)) (λcl C s H ex pn=>⟨(bI (i:=0) nr rfl (Or.inl rfl)),eG,(eZ (ah (aK (Bk F kF) (hr.mono (by decide)) rfl kF.mg kF.fn.kp kF.b (ah (ag 1) (ah (ag 0) ao))) (ah (aK (Bk F kF) (hr.mono (by decide)) rfl kF.mg kF.fn.kp kF.b (ah (ag 2) (ah (ag 0) ao))) ao)))⟩))))))
theorem Ce:bB ["book","mould","day"] ["book","mould","day"] (aY (top 34)):=⟨rfl,rfl,rfl,by decide +kernel,rfl,by decide +kernel,by decide +kernel⟩
theorem JY (F:bN K mg) {f:Addr} {fd:FuncData} (G:Gd K mg "surely" (top 34) ["book","mould","day"] f fd):aU P w K mg base aZ 10 f fd ["book","mould","day"] (bA K nQ):=by
 obtain⟨_,_,sv⟩:=F.HI
 obtain⟨_,_,sf⟩:=F.Hq
 obtain⟨_,_,sG⟩:=F.Ie
 obtain⟨_,_,rZ⟩:=F.He
 have aB:=Ce.nd
 exact bK (k:=9) G.fn Ce λaX A outer s H E hr=>(aL (kN (aK (HM F sv) (hr.mono (by decide)) rfl sv.mg sv.fn.kp sv.b (ah (ag 0) ao))) (aL (kN (aK (Hr F sf) (hr.mono (by decide)) rfl sf.mg sf.fn.kp sf.b (ah (ag 1) ao))) (aL (kN (aK (Ik F sG) (hr.mono (by decide)) rfl sG.mg sG.fn.kp sG.b (ah (ag 2) ao))) (aN (bz (aV (aK (Hg F rZ) (hr.mono (by decide)) rfl rZ.mg rZ.fn.kp rZ.b (ah (ag 0) (ah (ag 1) ao))) (ag 2)))))))
theorem EH:bB ["_law_script","_law_k","_law_state_here","_law_book_here","_law_kept","_law_mould","_law_rows","_law_days","_law_day","_law_has","_law_lacks"] ["_law_script"] (aY (top 52)):=⟨rfl,rfl,rfl,by decide +kernel,rfl,by decide +kernel,by decide +kernel⟩
theorem N6 (F:bN K mg) {f:Addr} {fd:FuncData} (G:Gd K mg "law" (top 52) ["_law_script"] f fd):aU P w K mg base aZ 11 f fd ["_law_script"] (bA K (ux w)):=by
 obtain⟨_,_,sT⟩:=F.JQ
 obtain⟨_,_,tH⟩:=F.K6
 obtain⟨_,_,tI⟩:=F.K7
 obtain⟨_,_,jW⟩:=F.Bs
 obtain⟨_,_,aD⟩:=F.pN
 obtain⟨_,_,tZ⟩:=F.MA
 obtain⟨_,_,sU⟩:=F.JU
 obtain⟨_,_,tJ⟩:=F.K9
 have bH:(["_law_mark","_law_book_here","_law_mould"]:List Str).Nodup:=by decide +kernel
 have nq:(["_law_page"]:List Str).Nodup:=by decide +kernel
 have nr:(["_law_mark","_law_day","_law_rows"]:List Str).Nodup:=by decide +kernel
 have rL:(["_law_mark","_law_day","_law_rows"]:List Str).Nodup:=by decide +kernel
 have aB:=EH.nd
 exact bK (k:=10) G.fn EH λaX A outer s H E hr=>(aL (gH PassesOwn.never rfl (dF rfl F.cK (ah (bU (Ei rfl) rfl F.EF Fd (ah ay (ah (bU (NK rfl) rfl F.N4 O5 (ah (bU mm rfl F.ma mx (ah (ag 0) ao)) (ah ay ao))) ao))) ao)) (bZ 1 aB) (aL (bW 2 aB (aK (JV F sT) (hr.mono (by decide)) rfl sT.mg sT.fn.kp sT.b (ah (ag 0) (ah (ag 1) ao)))) (aN (gH PassesOwn.never rfl (eh (oj (ah (yG (aK (La F tH) (hr.mono (by decide)) rfl tH.mg tH.fn.kp tH.b (ah (ag 2) ao)) yF (xQ ay)) (ah (TK.N1 (c:=3) (by decide) (aK (Lb F tI) (hr.mono (by decide)) rfl tI.mg tI.fn.kp tI.b (ah (ag 2) ao))) (ah (eZ ao) ao))))) (bZ 3 aB) (aL (eM (iS (fb (aK (By F jW) (hr.mono (by decide)) rfl jW.mg jW.fn.kp jW.b (ah (ag 3) ao)))) (aN NG) fc) (aL (mj (eZ (ah (bU (El hr) rfl F.DD Eo (ah (ag 3) ao)) (ah (aK (cV F aD) (hr.mono (by decide)) rfl aD.mg aD.fn.kp aD.b (ah (ag 2) (ah ay ao))) ao))) (mi rfl (fq (bZ 4 aB) (fq (bZ 5 aB) lX)))) (aL (bW 6 aB (cL (N:=["_law_mark","_law_book_here","_law_mould"]) (nt:=1) (cap:=[3,5]) rfl (cw (by kernel_rfl)) (bY 0) (dF rfl F.cK (ah ay ao)) (λcl C s H ex pn=>⟨(bI (i:=0) bH rfl (Or.inl rfl)),eG,(aK (MB F tZ) (hr.mono (by decide)) rfl tZ.mg tZ.fn.kp tZ.b (ah (ag 1) (ah (ag 2) (ah (ag 0) ao))))⟩))) (aL (bW 7 aB (cf f9 (oj (ah ay (ah ay (ah (aK (cV F aD) (hr.mono (by decide)) rfl aD.mg aD.fn.kp aD.b (ah (ag 2) (ah ay ao))) (ah (aK (cV F aD) (hr.mono (by decide)) rfl aD.mg aD.fn.kp aD.b (ah (ag 2) (ah ay ao))) ao))))) (cL (N:=["_law_page"]) (nt:=1) (cap:=[]) rfl (cw (by kernel_rfl)) (bY 0) (eh (yG (ag 3) yF (xQ ay))) (λcl C s H ex pn=>⟨(bI (i:=0) nq rfl (Or.inl rfl)),eG,(aV (ag 0) ay)⟩)))) (aN (gH PassesOwn.never rfl (eh (ag 7)) (bZ 8 aB) (aL (bW 9 aB (iu jn rfl F.fm fu (ah (cL (N:=["_law_mark","_law_day","_law_rows"]) (nt:=1) (cap:=[8,6]) rfl (cw (by kernel_rfl)) (bY 0) (dF rfl F.cK (ah ay ao)) (λcl C s H ex pn=>⟨(bI (i:=0) nr rfl (Or.inl rfl)),(f6 (bQ (df hr) (aV (aV (ag 2) (ag 0)) (ag 1)) (eZ (ah dQ ao)) (bJ _))),(ag 0)⟩)) ao))) (aL (bW 10 aB (iu jn rfl F.fm fu (ah (cL (N:=["_law_mark","_law_day","_law_rows"]) (nt:=1) (cap:=[8,6]) rfl (cw (by kernel_rfl)) (bY 0) (dF rfl F.cK (ah ay ao)) (λcl C s H ex pn=>⟨(bI (i:=0) rL rfl (Or.inl rfl)),(f6 (bQ (df hr) (aV (aV (ag 2) (ag 0)) (ag 1)) (eZ (ah dQ ao)) (bJ _))),(ag 0)⟩)) ao))) (aN (eM (PW.pt (w_or (iS (fb (aK (CU F tJ 8) (hr.mono (by decide)) rfl tJ.mg tJ.fn.kp tJ.b (ah (aK (JY F sU) (hr.mono (by decide)) rfl sU.mg sU.fn.kp sU.b (ah (ag 3) (ah (ag 5) (ah (ag 8) ao)))) (ah (eZ (ah (ag 9) (ah (ag 10) ao))) ao))))) (kS (bQ (mJ hr) (bU (El hr) rfl F.DD Eo (ah (ag 3) ao)) (ag 4) (bJ _))))) (aN (bz dQ)) fc)))))))))))))) (aN (bz dQ)))
end
end DI.iN
namespace DI
open PySem L2
def Wp {α:Type} (r:Res α) (Q:α->ae->Prop):Prop:=∃a s,r=some (.ok a,s)/\Q a s
section
variable {α β:Type} {r:Res α} {k:α->ae->Res β} {Q Q':α->ae->Prop} {R:β->ae->Prop} {env:Env} {s:ae}
theorem Wp.ok {a:α} (h:Q a s):Wp (DI.ok a s) Q:=⟨a,s,rfl,h⟩
theorem Wp.mono (h:Wp r Q) (i:∀a s,Q a s->Q' a s):Wp r Q':=by
 obtain⟨a,s,e,q⟩:=h
 exact⟨a,s,e,i a s q⟩
theorem Wp.au (h:Wp r λa s=>Wp (k a s) R):Wp (DI.au r k) R:=by
 obtain⟨a,s,e,b,s',e',q⟩:=h
 exact⟨b,s',by rw[e];exact e',q⟩
theorem Wp.ne (h:Wp r Q):Wp (DI.ne r) Q:=by
 obtain⟨a,s,e,q⟩:=h
 exact⟨a,s,by rw[e];rfl,q⟩
theorem Wp.of {a:α} (e:r=some (.ok a,s)) (h:Q a s):Wp r Q:=⟨a,s,e,h⟩
theorem Wp.seq {f g:Env->ae->Res Fl} {Q:Fl->ae->Prop} (h:Wp (f env s) λfl s=>match fl with
  | .nx env=>Wp (g env s) Q
  |fl=>Q fl s):Wp (az f g env s) Q:=by
 obtain⟨fl,s',e,h⟩:=h
 unfold az
 rw[e]
 cases fl with
 |nx env=>exact h
 |rt d=>exact⟨_,_,rfl,h⟩
 |bk e=>exact⟨_,_,rfl,h⟩
 |ct e=>exact⟨_,_,rfl,h⟩
theorem Wp.gK {g:D->Env->Option Env} {b:Env->ae->Res Fl} {Q:Fl->ae->Prop} (I:Nat->Env->ae->Prop) (all:List D) (h0:I 0 env s)
  (step:∀i d env s,all[i]?=some d->I i env s->∃aE,g d env=some aE/\Wp (b aE s) λfl s=>match fl with
   | .nx e=>I (i+1) e s
   | .ct e=>I (i+1) e s
   | .bk e=>Q (.nx e) s
   | .rt d=>Q (.rt d) s) (fin:∀env s,I all.length env s->Q (.nx env) s):Wp (jr g b all env s) Q:=by
 have key:∀(ds:List D) (i:Nat) (env:Env) (s:ae),all.drop i=ds->i<=all.length->I i env s->Wp (jr g b ds env s) Q:=by
  intro ds
  induction ds with
  |nil =>
   intro i env s hd hi h
   have e:i=all.length:=by
    have:=congrArg List.length hd
    simp at this
    omega
   subst e
   exact Wp.ok (fin _ _ h)
  |cons d ds ih =>
   intro i env s hd hi h
   have hx:all[i]?=some d:=by
    have:=congrArg (λl=>l[0]?) hd
    simpa using this
   have gm:all.drop (i+1)=ds:=by
    have:=congrArg (List.drop 1) hd
    simpa [List.drop_drop] using this
   obtain⟨aE,hg,hb⟩:=step i d env s hx h
   have bg:=(List.getElem?_eq_some_iff.mp hx).1
   unfold jr
   rw[hg]
   refine Wp.au (hb.mono λfl s q=>?_)
   cases fl with
   |nx e=>exact ih (i+1) e s gm bg q
   |ct e=>exact ih (i+1) e s gm bg q
   |bk e=>exact Wp.ok q
   |rt d=>exact Wp.ok q
 exact key all 0 env s rfl (Nat.zero_le _) h0
theorem pS {nt:Nat} {caps:Env} {g:D->Env->Option Env} {t:Env->ae->Res Bool} {f:Env->ae->Res D} {Q:List D->ae->Prop} (I:Nat->List D->ae->Prop) (all:List D) (h0:I 0 [] s)
  (step:∀i d acc s,all[i]?=some d->I i acc s->∃env,g d (List.replicate nt none++caps)=some env/\Wp (t env s) λb s=>if b=true then Wp (f env s) λx s=>I (i+1) (acc++[x]) s else I (i+1) acc s)
  (fin:∀acc s,I all.length acc s->Q acc s):Wp (dY nt caps g t f all s) Q:=by
 have key:∀(ds:List D) (i:Nat) (acc:List D) (s:ae),all.drop i=ds->i<=all.length->I i acc s->Wp (dY nt caps g t f ds s) λxs s=>Q (acc++xs) s:=by
  intro ds
  induction ds with
  |nil =>
   intro i acc s hd hi h
   have e:i=all.length:=by
    have:=congrArg List.length hd
    simp at this
    omega
   subst e
   exact Wp.ok (by rw[List.append_nil];exact fin _ _ h)
  |cons d ds ih =>
   intro i acc s hd hi h
   have hx:all[i]?=some d:=by
    have:=congrArg (λl=>l[0]?) hd
    simpa using this
   have gm:all.drop (i+1)=ds:=by
    have:=congrArg (List.drop 1) hd
    simpa [List.drop_drop] using this
   obtain⟨aE,hg,hb⟩:=step i d acc s hx h
   have bg:=(List.getElem?_eq_some_iff.mp hx).1
   unfold dY
   rw[hg]
   refine Wp.au (Wp.ne (hb.mono λb s q=>?_))
   cases b with
   |true =>
    rw[if_pos rfl] at q |-
    refine Wp.au (Wp.ne (q.mono λx s q=>?_))
    refine Wp.au ((ih (i+1) (acc++[x]) s gm bg q).mono λxs s q=>Wp.ok ?_)
    rw[List.append_assoc] at q
    exact q
   |false =>
    rw[if_neg Bool.false_ne_true] at q |-
    exact ih (i+1) acc s gm bg q
 have:=key all 0 [] s rfl (Nat.zero_le _) h0
 simpa using this
end
section
variable {α β:Type} {Q:D->ae->Prop} {QL:List D->ae->Prop} {QB:Bool->ae->Prop} {QF:Fl->ae->Prop} {QO:Option Int->ae->Prop} {env:Env} {s:ae} {f g h:Env->ae->Res D} {fa:Env->ae->Res (List D)} {c c':Env->ae->Res Bool} {st cT:Env->ae->Res Fl} {o o':D->D->ae->Res D} {u:D->ae->Res D} {bf:List D->ae->Res D}
theorem wp_ok {a:α} {Q:α->ae->Prop}:Wp (ok a s) Q=Q a s:=propext ⟨λ⟨b,s',e,q⟩=>by cases e;exact q,λq=>⟨a,s,rfl,q⟩⟩
theorem wp_ok' {a:α} {Q:α->ae->Prop}:Wp (some (Except.ok a,s)) Q=Q a s:=wp_ok
theorem bj {r:Res α} {k:α->ae->Res β} {R:β->ae->Prop}:Wp (au r k) R=Wp r λa s=>Wp (k a s) R:=propext ⟨λ⟨b,s',e,q⟩=>by
 obtain⟨a,s,e1,e2⟩:=nN e
 exact⟨a,s,e1,b,s',e2,q⟩,λh=>Wp.au h⟩
theorem wp_ne {r:Res α} {Q:α->ae->Prop}:Wp (ne r) Q=Wp r Q:=propext ⟨λ⟨b,s',e,q⟩=>⟨b,s',wR e,q⟩,λh=>h.ne⟩
theorem wp_loc0 {a:D} {r:Env}:Wp (aa 0 (some a::r) s) Q=Q a s:=by rw[show aa 0 (some a::r) s=ok a s from rfl,wp_ok]
theorem wp_locS {i:Nat} {a:Option D} {r:Env}:Wp (aa (i+1) (a::r) s) Q=Wp (aa i r s) Q:=by rw[show aa (i+1) (a::r) s=aa i r s from rfl]
theorem wp_C {d:D}:Wp (eC d env s) Q=Q d s:=by rw[show eC d env s=ok d s from rfl,wp_ok]
theorem wp_e1:Wp (e1 u f env s) Q=Wp (f env s) λx s=>Wp (u x s) Q:=by unfold e1;rw[bj]
theorem wp_e2:Wp (e2 o f g env s) Q=Wp (f env s) λx s=>Wp (g env s) λy s=>Wp (o x y s) Q:=by unfold e2;simp only[bj]
theorem wp_aNil:Wp (ai env s) QL=QL [] s:=by unfold ai;rw[wp_ok]
theorem wp_aCons:Wp (af f fa env s) QL=Wp (f env s) λx s=>Wp (fa env s) λxs s=>QL (x::xs) s:=by unfold af;simp only[bj,wp_ok]
theorem wp_eB:Wp (eB bf fa env s) Q=Wp (fa env s) λds s=>Wp (bf ds s) Q:=by unfold eB;rw[bj]
theorem wp_call {fn:List D->ae->Res D}:Wp (ax fn fa env s) Q=Wp (fa env s) λds s=>Wp (fn ds s) Q:=by unfold ax;simp only[bj,wp_ne]
theorem lQ {ds:List D} {r:Res α} {Q:α->ae->Prop}:Wp (gG ds r) Q=(ds.length<=sizeLine/\Wp r Q):=propext ⟨λ⟨b,s',e,q⟩=>by
 unfold gG at e
 split at e
 ·exact⟨by assumption,b,s',e,q⟩
 ·(cases e),λ⟨hl,b,s',e,q⟩=>⟨b,s',by unfold gG;rw[if_pos hl];exact e,q⟩⟩
theorem wp_tup:Wp (bE fa env s) Q=Wp (fa env s) λds s=>ds.length<=sizeLine/\Q (.tup ds) s:=by unfold bE;simp only[bj,lQ,wp_ok]
theorem wp_lst:Wp (jx fa env s) Q=Wp (fa env s) λds s=>ds.length<=sizeLine/\Q (.lst ds) s:=by unfold jx;simp only[bj,lQ,wp_ok]
theorem wp_new:Wp (eNew fa env s) Q=Wp (fa env s) λds s=>ds.length<=sizeLine/\Q (.aj s.length) (s++[.lst ds]):=by unfold eNew;simp only[bj,lQ,wp_ok]
theorem wp_frz:Wp (jy f env s) Q=Wp (f env s) λd s=>Wp (cF d s) Q:=by unfold jy;rw[bj]
theorem wp_tBl:Wp (aF f env s) QB=Wp (f env s) λd s=>Wp (fe d s) QB:=by unfold aF;rw[bj]
theorem wp_isBl {b:Bool}:Wp (fe (.bl b) s) QB=QB b s:=by rw[show fe (.bl b) s=ok b s from rfl,wp_ok]
theorem wp_tru:Wp (cR f env s) QB=Wp (f env s) λd s=>Wp (truth d s) QB:=by unfold cR;rw[bj]
theorem wp_truB {b:Bool}:Wp (truth (.bl b) s) QB=QB b s:=by rw[show truth (.bl b) s=ok b s from rfl,wp_ok]
theorem wp_tAnd:Wp (cm c c' env s) QB=Wp (c env s) λb s=>if b=true then Wp (c' env s) QB else QB false s:=by
 unfold cm
 rw[bj]
 congr 1
 funext b s
 cases b<;>simp[wp_ok]
theorem wp_tOr:Wp (fW c c' env s) QB=Wp (c env s) λb s=>if b=true then QB true s else Wp (c' env s) QB:=by
 unfold fW
 rw[bj]
 congr 1
 funext b s
 cases b<;>simp[wp_ok]
theorem wp_tNot:Wp (ei c env s) QB=Wp (c env s) λb s=>QB (!b) s:=by unfold ei;simp only[bj,wp_ok]
theorem wp_eAnd:Wp (de f g env s) Q=Wp (f env s) λx s=>Wp (fe x s) λb s=>if b=true then Wp (g env s) Q else Q (.bl false) s:=by
 unfold de
 rw[bj]
 congr 1
 funext x s
 rw[bj]
 congr 1
 funext b s
 cases b<;>simp[wp_ok]
theorem wp_eOr:Wp (jI f g env s) Q=Wp (f env s) λx s=>Wp (fe x s) λb s=>if b=true then Q (.bl true) s else Wp (g env s) Q:=by
 unfold jI
 rw[bj]
 congr 1
 funext x s
 rw[bj]
 congr 1
 funext b s
 cases b<;>simp[wp_ok]
theorem wp_eNot:Wp (mH f env s) Q=Wp (f env s) λx s=>Wp (fe x s) λb s=>Q (.bl (!b)) s:=by unfold mH;simp only[bj,wp_ok]
theorem wp_eIf:Wp (Gv c f g env s) Q=Wp (c env s) λb s=>if b=true then Wp (f env s) Q else Wp (g env s) Q:=by
 unfold Gv
 rw[bj]
 congr 1
 funext b s
 cases b<;>simp
theorem wp_eCh:Wp (rp o o' f g h env s) Q=Wp (f env s) λx s=>Wp (g env s) λy s=>Wp (o x y s) λz s=>Wp (fe z s) λb s=>if b=true then Wp (h env s) λu s=>Wp (o' y u s) Q else Q (.bl false) s:=by
 unfold rp
 simp only[bj]
 congr 1
 funext x s
 congr 1
 funext y s
 congr 1
 funext z s
 congr 1
 funext b s
 cases b<;>simp[wp_ok,bj]
theorem wp_sNil:Wp (cu env s) QF=QF (.nx env) s:=by unfold cu;rw[wp_ok]
theorem wp_sRet:Wp (aS f env s) QF=Wp (f env s) λd s=>QF (.rt d) s:=by unfold aS;simp only[bj,wp_ok]
theorem wp_sExpr:Wp (fv f env s) QF=Wp (f env s) λ_ s=>QF (.nx env) s:=by unfold fv;simp only[bj,wp_ok]
theorem wp_sCont:Wp (qg env s) QF=QF (.ct env) s:=by unfold qg;rw[wp_ok]
noncomputable def nu (st:Env->ae->Res Fl) (Q:Fl->ae->Prop):Fl->ae->Prop:=λfl s=>match fl with
 | .nx env=>Wp (st env s) Q
 |fl=>Q fl s
theorem wp_sSeq:Wp (az st cT env s) QF=Wp (st env s) (nu cT QF):=propext ⟨λh=>by
 unfold az at h
 rw[bj] at h
 refine h.mono λfl s q=>?_
 cases fl with
 |nx e=>exact q
 |rt d=>have q:Wp (ok (Fl.rt d) s) QF:=q;rw[wp_ok] at q;exact q
 |bk d=>have q:Wp (ok (Fl.bk d) s) QF:=q;rw[wp_ok] at q;exact q
 |ct d=>have q:Wp (ok (Fl.ct d) s) QF:=q;rw[wp_ok] at q;exact q,λh=>Wp.seq (h.mono λfl s q=>by cases fl<;>exact q)⟩
theorem Wp.step (h:∀R,R=cT->Wp (st env s) (nu R QF)):Wp (az st cT env s) QF:=by rw[wp_sSeq];exact h _ rfl
theorem aft_nx:nu st QF (.nx env) s=Wp (st env s) QF:=rfl
theorem aft_rt {d:D}:nu st QF (.rt d) s=QF (.rt d) s:=rfl
theorem aft_ct:nu st QF (.ct env) s=QF (.ct env) s:=rfl
theorem wp_sIf:Wp (bS c st cT env s) QF=Wp (c env s) λb s=>if b=true then Wp (st env s) QF else Wp (cT env s) QF:=by
 unfold bS
 rw[bj]
 congr 1
 funext b s
 cases b<;>simp
theorem wp_sAsg {gd:D->Env->Option Env}:Wp (aO f gd env s) QF=Wp (f env s) λd s=>∃e,gd d env=some e/\QF (.nx e) s:=by
 unfold aO
 rw[bj]
 congr 1
 funext d s
 cases h:gd d env with
 |none=>exact propext ⟨λ⟨_,_,e,_⟩=>(by cases e),λ⟨_,e,_⟩=>(by cases e)⟩
 |some e=>rw[wp_ok];exact propext ⟨λq=>⟨e,rfl,q⟩,λ⟨e',z,q⟩=>by cases z;exact q⟩
theorem asg_N {i:Nat} {d:D} {P:Env->Prop}:(∃e,gN i d env=some e/\P e)=P (env.set i (some d)):=propext ⟨λ⟨e,z,q⟩=>by cases z;exact q,λq=>⟨_,rfl,q⟩⟩
theorem asg_T {gs:List (D->Env->Option Env)} {ds:List D} {P:Env->Prop}:(∃e,gT gs (.tup ds) env=some e/\P e)=∃e,fS gs ds env=some e/\P e:=rfl
theorem asg_nil {P:Env->Prop}:(∃e,fS [] [] env=some e/\P e)=P env:=propext ⟨λ⟨e,z,q⟩=>by cases z;exact q,λq=>⟨_,rfl,q⟩⟩
theorem asg_cons {i:Nat} {gs:List (D->Env->Option Env)} {d:D} {ds:List D} {P:Env->Prop}:(∃e,fS (gN i::gs) (d::ds) env=some e/\P e)=∃e,fS gs ds (env.set i (some d))=some e/\P e:=rfl
theorem wp_par2 {i j:Nat}:Wp (qz i j fa env s) QF=Wp (fa env s) λds s=>∃x y,ds=[x,y]/\QF (.nx ((env.set i (some x)).set j (some y))) s:=by
 unfold qz
 rw[bj]
 congr 1
 funext ds s
 match ds with
 | [x,y] =>
  show Wp (ok (Fl.nx ((env.set i (some x)).set j (some y))) s) QF=_
  rw[wp_ok]
  exact propext ⟨λq=>⟨x,y,rfl,q⟩,λ⟨x',y',e,q⟩=>by cases e;exact q⟩
 | []=>exact propext ⟨λ⟨_,_,e,_⟩=>(by cases e),λ⟨_,_,e,_⟩=>(by cases e)⟩
 | [_]=>exact propext ⟨λ⟨_,_,e,_⟩=>(by cases e),λ⟨_,_,e,_⟩=>(by cases e)⟩
 |_::_::_::_=>exact propext ⟨λ⟨_,_,e,_⟩=>(by cases e),λ⟨_,_,e,_⟩=>(by cases e)⟩
theorem par_of {x y:D} {P:D->D->Prop}:(∃x' y',[x,y]=[x',y']/\P x' y')=P x y:=propext ⟨λ⟨_,_,e,q⟩=>by cases e;exact q,λq=>⟨x,y,rfl,q⟩⟩
theorem wp_sFor {it:Env->ae->Res (List D)} {gd:D->Env->Option Env}:Wp (dG it gd st env s) QF=Wp (it env s) λds s=>Wp (jr gd st ds env s) QF:=by unfold dG;rw[bj]
theorem wp_sSub {fo fi:Env->ae->Res D}:Wp (fT f fo fi env s) QF=Wp (f env s) λx s=>Wp (fo env s) λd s=>Wp (fi env s) λn s=>∃s',gj d n x s=some s'/\QF (.nx env) s':=by
 unfold fT
 simp only[bj]
 congr 1
 funext x s
 congr 1
 funext d s
 congr 1
 funext n s
 cases h:gj d n x s with
 |none=>exact propext ⟨λ⟨_,_,e,_⟩=>(by cases e),λ⟨_,e,_⟩=>(by cases e)⟩
 |some e=>simp only[wp_ok];exact propext ⟨λq=>⟨e,rfl,q⟩,λ⟨e',z,q⟩=>by cases z;exact q⟩
theorem wp_app:Wp (gJ f g env s) Q=Wp (f env s) λd s=>hU d s=true/\Wp (g env s) λx s=>Wp (iE d x s) Q:=by
 unfold gJ
 rw[bj]
 congr 1
 funext d s
 cases h:hU d s with
 |true=>rw[if_pos rfl,bj];simp
 |false=>rw[if_neg Bool.false_ne_true];exact propext ⟨λ⟨_,_,e,_⟩=>(by cases e),λ⟨e,_⟩=>(by cases e)⟩
noncomputable def qD (Q:D->ae->Prop):Fl->ae->Prop:=λfl s=>match fl with
 | .rt d=>Q d s
 | .nx _=>Q .aA s
 |_=>False
theorem wp_fn {np ns:Nat} {ds:List D}:Wp (bb np ns st ds s) Q=(ds.length=np/\Wp (st (ds.map some++List.replicate (ns-np) none) s) (qD Q)):=by
 unfold bb
 by_cases h:ds.length=np
 ·rw[if_pos h,bj]
  refine propext ⟨λq=>⟨h,q.mono λfl s q=>?_⟩,λ⟨_,q⟩=>q.mono λfl s q=>?_⟩
  ·cases fl with
   |rt d=>exact(show Wp (ok d s) Q from q) |> λz=>by rw[wp_ok] at z;exact z
   |nx e=>exact(show Wp (ok D.aA s) Q from q) |> λz=>by rw[wp_ok] at z;exact z
   |bk e=>obtain⟨_,_,e,_⟩:=q;cases e
   |ct e=>obtain⟨_,_,e,_⟩:=q;cases e
  ·cases fl with
   |rt d=>exact Wp.ok q
   |nx e=>exact Wp.ok q
   |bk e=>exact q.elim
   |ct e=>exact q.elim
 ·rw[if_neg h]
  exact propext ⟨λ⟨_,_,e,_⟩=>(by cases e),λ⟨e,_⟩=>absurd e h⟩
theorem fin_rt {d:D}:qD Q (.rt d) s=Q d s:=rfl
theorem fin_nx:qD Q (.nx env) s=Q .aA s:=rfl
theorem wp_comp {nt:Nat} {cap:List Nat} {it:Env->ae->Res (List D)} {gd:D->Env->Option Env}:Wp (aW nt cap it gd c f env s) Q=Wp (it env s) λds s=>ds.length<=sizeLine/\Wp (dY nt (fx cap env) gd c f ds s) λxs s=>Q (.lst xs) s:=by
 unfold aW;simp only[bj,lQ,wp_ok]
theorem wp_sl {l' h':Env->ae->Res (Option Int)}:Wp (jL f l' h' env s) Q=Wp (f env s) λd s=>Wp (l' env s) λlo s=>Wp (h' env s) λhi s=>Wp (lZ d lo hi s) Q:=by unfold jL;simp only[bj]
theorem wp_pNo:Wp (jK env s) QO=QO none s:=by unfold jK;rw[wp_ok]
theorem tK {i:Int} (hi:f env s=ok (.int i) s):Wp (jz f env s) QO=QO (some i) s:=by unfold jz;rw[hi,eD,wp_ok]
end
end DI
namespace DI
open PySem L2
def bc (s:ae) (k:Nat):Prop:=∃a b:Int,s[k]?=some (.lst [.int a,.int b])/\0<=a/\0<=b/\b<2147483647
structure Ex (k:Nat) (s s':ae):Prop where
 len:s.length<=s'.length
 val:∀j,j<s.length->j≠k->s'[j]?=s[j]?
theorem Ex.refl (k:Nat) (s:ae):Ex k s s:=⟨Nat.le_refl _,λ_ _ _=>rfl⟩
theorem Ex.trans {k:Nat} {a b c:ae} (h:Ex k a b) (g:Ex k b c):Ex k a c:=⟨Nat.le_trans h.len g.len,λj hj hk=>(g.val j (Nat.lt_of_lt_of_le hj h.len) hk).trans (h.val j hj hk)⟩
theorem Ex.set (k:Nat) (s:ae) (c:Cell):Ex k s (s.set k c):=⟨by simp,λj _ hj=>List.getElem?_set_ne (Ne.symm hj)⟩
theorem Ex.app (k:Nat) (s:ae) (c:List Cell):Ex k s (s++c):=⟨by simp,λj hj _=>List.getElem?_append_left hj⟩
theorem bc.lt {s:ae} {k:Nat} (h:bc s k):k<s.length:=by
 obtain⟨a,b,e,_⟩:=h
 exact(List.getElem?_eq_some_iff.mp e).1
theorem bc.app {s:ae} {k:Nat} (h:bc s k) (c:List Cell):bc (s++c) k:=by
 obtain⟨a,b,e,r⟩:=h
 exact⟨a,b,by rw[List.getElem?_append_left (List.getElem?_eq_some_iff.mp e).1];exact e,r⟩
theorem bc.set {s:ae} {k j:Nat} (h:bc s k) (hj:j≠k) (c:Cell):bc (s.set j c) k:=by
 obtain⟨a,b,e,r⟩:=h
 exact⟨a,b,by rw[List.getElem?_set_ne hj];exact e,r⟩
theorem z9 (x y:D) (k:Nat) (s:ae) (h:s[k]?=some (.lst [x,y])):ar (.aj k) (.int 0) s=ok x s:=by
 simp[ar,gL,res,h,dA,fg,bx]
theorem Aa (x y:D) (k:Nat) (s:ae) (h:s[k]?=some (.lst [x,y])):ar (.aj k) (.int 1) s=ok y s:=by
 simp[ar,gL,res,h,dA,fg,bx]
theorem FV (x y z:D) (k:Nat) (s:ae) (h:s[k]?=some (.lst [x,y])):gj (.aj k) (.int 0) z s=some (s.set k (.lst [z,y])):=by
 simp[gj,h,fg]
theorem FW (x y z:D) (k:Nat) (s:ae) (h:s[k]?=some (.lst [x,y])):gj (.aj k) (.int 1) z s=some (s.set k (.lst [x,z])):=by
 simp[gj,h,fg]
@[simp] theorem n6 {a:D} {r:Env} {s:ae}:aa 0 (some a::r) s=ok a s:=rfl
@[simp] theorem n9 {i:Nat} {a:Option D} {r:Env} {s:ae}:aa (i+1) (a::r) s=aa i r s:=rfl
theorem ltI (i j:Int) (s:ae):jB (.int i) (.int j) s=ok (.bl (decide (i<j))) s:=rfl
theorem Ab (i j:Int) (s:ae):uM (.int i) (.int j) s=ok (.bl (decide (j<i))) s:=rfl
theorem R4 (i j:Int) (s:ae):uN (.int i) (.int j) s=ok (.bl (decide (j<=i))) s:=rfl
theorem R5 (i j:Int) (s:ae):qx (.int i) (.int j) s=ok (.bl (decide (i<=j))) s:=rfl
theorem yL (i j:Int) (s:ae):cI (.int i) (.int j) s=ok (.int (i+j)) s:=rfl
theorem FX (i j:Int) (s:ae):qh (.int i) (.int j) s=ok (.int (i-j)) s:=rfl
theorem GK (i j:Int) (s:ae):aQ (.int i) (.int j) s=ok (.bl (i==j)) s:=rfl
theorem R6 (i j:Int) (s:ae):eO (.int i) (.int j) s=ok (.bl (!(i==j))) s:=rfl
theorem oM {i j:Int} (s:ae) (h:0<j):ke (.int i) (.int j) s=ok (.int (i % j)) s:=by
 simp[ke,yC,h,bx]
theorem FY {i j:Int} (s:ae) (h:0<j) (h2:j<1073741824):qj (.int i) (.int j) s=ok (.int (i / j)) s:=by
 simp[qj,yD,h,h2,bx]
theorem qE {i j:Int} (s:ae) (h:qi i j=true):gW (.int i) (.int j) s=ok (.int (i*j)) s:=by
 simp[gW,yB,h,bx]
theorem mulOk_of {i j:Int} (h1:-(2 ^ 64)<i) (h2:i<2 ^ 64):qi i j=true:=by
 unfold qi
 rw[decide_eq_true h1,decide_eq_true h2]
 rfl
theorem cW {s:ae} {k:Nat} {m:Int} (h:bc s k) (h1:0<m) (h2:m<1073741824):Wp (ba [.aj k,.int m] s) λd s'=>∃r:Int,d=.int r/\0<=r/\r<m/\bc s' k/\Ex k s s':=by
 obtain⟨a,b,e,ha,hb,nk⟩:=h
 have hk:=(List.getElem?_eq_some_iff.mp e).1
 by_cases h0:0<a
 ·have es:(s.set k (.lst [.int (a / m),.int b]))[k]?=some (.lst [.int (a / m),.int b]):=List.getElem?_set_self hk
  refine⟨.int (a % m),s.set k (.lst [.int (a / m),.int b]),?_,a % m,rfl,Int.emod_nonneg _ (by omega),Int.emod_lt_of_pos _ h1,⟨a / m,b,es,Int.ediv_nonneg ha (by omega),hb,nk⟩,Ex.set _ _ _⟩
  simp only[ba,bb,az,bS,aF,e2,n6,n9,eC,eD,List.map_cons,List.map_nil,List.cons_append,List.nil_append,z9 _ _ k s e,Ab,fe,List.length_cons,List.length_nil,decide_eq_true h0,if_true,aO,gN,oM s h1,fT,FY s h1 h2,FV _ _ _ k s e,aS,List.set_cons_succ,List.set_cons_zero,List.replicate]
 ·have hn:decide (0<a)=false:=decide_eq_false h0
  have ex:0<=(b*48271+29) % 2147483647/\(b*48271+29) % 2147483647<2147483647:=⟨Int.emod_nonneg _ (by decide),Int.emod_lt_of_pos _ (by decide)⟩
  generalize hx:(b*48271+29) % 2147483647=x at ex
  have es:(s.set k (.lst [.int a,.int x]))[k]?=some (.lst [.int a,.int x]):=List.getElem?_set_self hk
  generalize hy:(x*x+39373*x+7) % 2147483629=y
  have ey:0<=y/\y<2147483629:=by rw[<- hy];exact⟨Int.emod_nonneg _ (by decide),Int.emod_lt_of_pos _ (by decide)⟩
  generalize hz:(y*y+16807*y) % 2147483587=z
  refine⟨.int (z / 8 % m),s.set k (.lst [.int a,.int x]),?_,_,rfl,Int.emod_nonneg _ (by omega),Int.emod_lt_of_pos _ h1,⟨a,x,es,ha,ex.1,ex.2⟩,Ex.set _ _ _⟩
  have m1:gW (.int b) (.int 48271) s=ok (.int (b*48271)) s:=qE s (mulOk_of (by omega) (by omega))
  have m2:∀s',gW (.int x) (.int x) s'=ok (.int (x*x)) s':=λs'=>qE s' (mulOk_of (by omega) (by omega))
  have m3:∀s',gW (.int 39373) (.int x) s'=ok (.int (39373*x)) s':=λs'=>qE s' (mulOk_of (by decide) (by decide))
  have m4:∀s',gW (.int y) (.int y) s'=ok (.int (y*y)) s':=λs'=>qE s' (mulOk_of (by omega) (by omega))
  have m5:∀s',gW (.int 16807) (.int y) s'=ok (.int (16807*y)) s':=λs'=>qE s' (mulOk_of (by decide) (by decide))
  simp only[ba,bb,az,bS,aF,e2,n6,n9,eC,eD,List.map_cons,List.map_nil,List.cons_append,List.nil_append,z9 _ _ k s e,Aa _ _ k s e,Ab,fe,List.length_cons,List.length_nil,hn,Bool.false_eq_true,if_false,if_true,cu,fT,m1,yL,oM _ (show (0:Int)<2147483647 by decide),hx,FW _ _ _ k s e,aO,gN,Aa _ _ k _ es,m2,m3,
   oM _ (show (0:Int)<2147483629 by decide),hy,List.set_cons_succ,List.set_cons_zero,List.replicate,m4,m5,oM _ (show (0:Int)<2147483587 by decide),hz,aS,FY _ (show (0:Int)<8 by decide) (by decide),oM _ h1]
theorem le_size {n:Nat} (h:n<=1000000):n<=sizeLine:=Nat.le_trans h (by decide)
theorem wu {j:Int} (h1:-1000000<=j) (h2:j<=1000000):iz j=true:=by
 unfold iz
 rw[decide_eq_true (show -(2 ^ 62)<=j by omega),decide_eq_true (show j<2 ^ 62 by omega)]
 rfl
theorem Ld {α:Type} {ds:List D} {r:Res α} (h:ds.length<=1000000):gG ds r=r:=if_pos (le_size h)
theorem DF {α β:Type} (f:α->β) (xs:List α) (i:Int):dA (xs.map f) i=(dA xs i).map f:=by
 unfold dA
 rw[List.length_map]
 cases fg xs.length i with
 |none=>rfl
 |some j=>simp
theorem kP {α:Type} {xs:List α} {i:Int} (h0:0<=i) (h1:i<xs.length):∃x,dA xs i=some x/\xs[i.toNat]?=some x:=by
 have hj:i.toNat<xs.length:=by omega
 refine⟨xs[i.toNat],?_,List.getElem?_eq_getElem hj⟩
 unfold dA fg
 rw[if_pos h0,if_pos h1]
 exact List.getElem?_eq_getElem hj
theorem MC {ns:List Int} {i:Int} {s:ae} (h0:0<=i):∃c:Int,pC [.bC ns,.int i] s=ok (.int c) s:=by
 by_cases h:i<(ns.length:Int)
 ·obtain⟨x,h1,_⟩:=kP h0 h
  refine⟨x,?_⟩
  have hx:ar (.bC ns) (.int i) s=ok (.int x) s:=by simp[ar,gL,res,h1,bx]
  simp only[pC,bb,az,bS,aF,e2,eB,af,ai,eQ,uO,res,bx,n6,n9,eC,eD,List.map_cons,List.map_nil,List.cons_append,List.nil_append,List.length_cons,List.length_nil,if_true,ltI,fe,decide_eq_true h,aS,hx,List.replicate]
 ·refine⟨0,?_⟩
  simp only[pC,bb,az,bS,aF,e2,eB,af,ai,eQ,uO,res,bx,n6,n9,eC,eD,List.map_cons,List.map_nil,List.cons_append,List.nil_append,List.length_cons,List.length_nil,if_true,ltI,fe,decide_eq_false h,Bool.false_eq_true,if_false,cu,aS,List.replicate]
theorem Lf {ns:List Int} {i:Int} {s:ae} (h0:0<=i):Wp (sO [.bC ns,.int i] s) λd s'=>d=.aj s.length/\bc s' s.length/\∃c,s'=s++[c]:=by
 obtain⟨c,hc⟩:=MC (ns:=ns) (s:=s) h0
 have hp:∀s,ui (.int 10) (.int 18) s=ok (.int (10 ^ 18)) s:=λs=>by
  have e:yE (.int 10) (.int 18)=some (.int (10 ^ 18)):=by
   show (if (decide ((0:Int)<=18)&&decide ((18:Int)<=1000000)&&decide ((10:Int).natAbs<2 ^ 64))=true then some (D.int (10 ^ (18:Int).toNat)) else none)=_
   rw[if_pos (by decide)]
   rfl
  simp only[ui,e,bx]
 refine⟨.aj s.length,s++[.lst [.int (if c-10 ^ 18 > 0 then c-10 ^ 18 else 0),.int (c % 2147483647)]],?_,rfl,⟨_,_,by simp;exact⟨rfl,rfl⟩,?_,Int.emod_nonneg _ (by decide),Int.emod_lt_of_pos _ (by decide)⟩,_,rfl⟩
 ·simp only[sO,bb,az,aO,ax,af,ai,n6,n9,eC,eD,List.map_cons,List.map_nil,List.cons_append,List.nil_append,List.length_cons,List.length_nil,if_true,hc,kT,gN,List.set_cons_succ,List.set_cons_zero,List.replicate,aS,eNew,eB,mq,e2,hp,FX,oM _ (show (0:Int)<2147483647 by decide)]
  rw[Ld (by simp)]
  rfl
 ·split<;>omega
structure dj (m:Nat) (ns:List Int):Prop where
 lo:∀x∈ns,0<=x/\x<m
 up:ns.Pairwise (· < ·)
noncomputable abbrev mD (ns:List Int):D:=.tup (ns.map D.int)
theorem dj.len {m:Nat} {ns:List Int} (h:dj m ns):ns.length<=m:=by
 have key:∀(l:List Int) (b:Int),l.Pairwise (· < ·)->(∀x∈l,b<=x/\x<m)->(l.length:Int)<=m-b\/l=[]:=by
  intro l
  induction l with
  |nil=>intro b _ _;exact .inr rfl
  |cons x l ih =>
   intro b hp hb
   obtain⟨h1,h2⟩:=List.pairwise_cons.mp hp
   have hx:=hb x List.mem_cons_self
   left
   rcases ih (x+1) h2 (λy hy=>⟨by have:=h1 y hy;omega,(hb y (List.mem_cons_of_mem _ hy)).2⟩) with h|h
   ·rw[List.length_cons];omega
   ·subst h
    simp
    omega
 rcases key ns 0 h.up h.lo with h'|h'
 ·omega
 ·subst h';simp
theorem JZ {s1:ae} {k n:Nat} {w:Int} (h1:bc s1 k) (w0:0<=w) (w1:w<4):Wp (dY 1 (fx [0,2] [some (.aj k),some (.int n),some (.int (1+w))]) (gN 0) (aF (e2 aQ (ax ba (af (aa 1) (af (e2 cI (aa 2) (eC (.int 1))) ai))) (eC (.int 0)))) (aa 0) (bM 0 n) s1)
   λxs s'=>∃ns,xs=ns.map D.int/\dj n ns/\bc s' k/\Ex k s1 s':=by
 refine pS (λi acc s'=>∃ns:List Int,acc=ns.map D.int/\dj i ns/\bc s' k/\Ex k s1 s') (bM 0 n) ⟨[],rfl,⟨by simp,.nil⟩,h1,Ex.refl _ _⟩ (λi d acc s' hd hI=>?_) λacc s' hI=>?_
 ·obtain⟨ns,rfl,hm,h2,x2⟩:=hI
  rw[fZ] at hd
  split at hd
  ·cases hd
   refine⟨[some (.int (0+i)),some (.aj k),some (.int (1+w))],rfl,?_⟩
   have ht:=cW h2 (m:=1+w+1) (by omega) (by omega)
   obtain⟨d,s3,e3,r,rfl,r0,r1,h3,x3⟩:=ht
   have hb:aF (e2 aQ (ax ba (af (aa 1) (af (e2 cI (aa 2) (eC (.int 1))) ai))) (eC (.int 0))) [some (.int (0+(i:Int))),some (.aj k),some (.int (1+w))] s'=ok (r==0) s3:=by
    simp only[aF,e2,ax,af,ai,n6,n9,eC,eD,yL,e3,kT,GK,fe]
   refine Wp.of hb ?_
   split
   ·refine Wp.ok ⟨ns++[0+(i:Int)],by simp,⟨λx hx=>?_,?_⟩,h3,x2.trans x3⟩
    ·rcases List.mem_append.mp hx with hx|hx
     ·have:=hm.lo x hx;omega
     ·rw[List.mem_singleton.mp hx];omega
    ·refine List.pairwise_append.mpr ⟨hm.up,by simp,λx hx y hy=>?_⟩
     rw[List.mem_singleton.mp hy]
     have:=hm.lo x hx;omega
   ·exact⟨ns,rfl,⟨λx hx=>by have:=hm.lo x hx;omega,hm.up⟩,h3,x2.trans x3⟩
  ·cases hd
 ·rw[cO] at hI
  exact hI
theorem eY {fa:Env->ae->Res (List D)} {env:Env} {s s1:ae} {n:Nat} (h:fa env s=ok [.int n] s1) (hn:n<=1000000):bF fa env s=ok (bM 0 n) s1:=by
 unfold bF
 rw[h,eD]
 show (if iz (n:Int)=true then ok (bM 0 (n:Int).toNat) s1 else none)=_
 rw[if_pos (wu (by omega) (by omega)),Int.toNat_natCast]
theorem tL {fa:Env->ae->Res (List D)} {env:Env} {s s1:ae} {n:Nat} {i:Int} (h:fa env s=ok [.int i] s1) (hi:i=n) (hn:n<=1000000):bF fa env s=ok (bM 0 n) s1:=by
 subst hi
 exact eY h hn
theorem EI {fa:Env->ae->Res (List D)} {env:Env} {s s1:ae} {i j:Int} (h:fa env s=ok [.int i,.int j] s1) (h1:-1000000<=i) (h2:i<=1000000) (h3:-1000000<=j) (h4:j<=1000000):rz fa env s=ok (bM i (j-i).toNat) s1:=by
 unfold rz
 rw[h,eD]
 show (if (iz i&&iz j)=true then ok (bM i (j-i).toNat) s1 else none)=_
 rw[if_pos (by rw[wu h1 h2,wu h3 h4];rfl)]
theorem wp_ltI {i j:Int} {s:ae} {Q:D->ae->Prop}:Wp (jB (.int i) (.int j) s) Q=Q (.bl (decide (i<j))) s:=by rw[ltI,wp_ok]
theorem wp_gtI {i j:Int} {s:ae} {Q:D->ae->Prop}:Wp (uM (.int i) (.int j) s) Q=Q (.bl (decide (j<i))) s:=by rw[Ab,wp_ok]
theorem wp_geI {i j:Int} {s:ae} {Q:D->ae->Prop}:Wp (uN (.int i) (.int j) s) Q=Q (.bl (decide (j<=i))) s:=by rw[R4,wp_ok]
theorem wp_leI {i j:Int} {s:ae} {Q:D->ae->Prop}:Wp (qx (.int i) (.int j) s) Q=Q (.bl (decide (i<=j))) s:=by rw[R5,wp_ok]
theorem wp_addI {i j:Int} {s:ae} {Q:D->ae->Prop}:Wp (cI (.int i) (.int j) s) Q=Q (.int (i+j)) s:=by rw[yL,wp_ok]
theorem wp_subI {i j:Int} {s:ae} {Q:D->ae->Prop}:Wp (qh (.int i) (.int j) s) Q=Q (.int (i-j)) s:=by rw[FX,wp_ok]
theorem wp_eqI {i j:Int} {s:ae} {Q:D->ae->Prop}:Wp (aQ (.int i) (.int j) s) Q=Q (.bl (i==j)) s:=by rw[GK,wp_ok]
theorem wp_neI {i j:Int} {s:ae} {Q:D->ae->Prop}:Wp (eO (.int i) (.int j) s) Q=Q (.bl (!(i==j))) s:=by rw[R6,wp_ok]
theorem CV {s:ae} {k n:Nat} (h:bc s k) (hn:n<=8):Wp (kH [.aj k,.int n] s) λd s'=>∃ns,d=mD ns/\dj n ns/\bc s' k/\Ex k s s':=by
 unfold kH
 simp only[wp_ok,wp_ok',wp_ne,wp_loc0,wp_locS,wp_C,wp_e1,wp_e2,wp_aNil,wp_aCons,wp_eB,wp_call,wp_tup,wp_lst,wp_new,wp_frz,wp_tBl,wp_isBl,wp_tru,wp_truB,wp_tAnd,wp_tOr,wp_tNot,wp_eAnd,wp_eOr,wp_eNot,wp_eIf,wp_eCh,wp_sNil,wp_sRet,wp_sExpr,wp_sCont,wp_sSeq,aft_nx,aft_rt,aft_ct,wp_sIf,wp_sAsg,asg_N,asg_T,asg_nil,asg_cons,wp_par2,par_of,wp_sFor,wp_sSub,wp_app,wp_fn,fin_rt,fin_nx,wp_comp,wp_sl,wp_pNo,List.map_cons,List.map_nil,List.cons_append,List.nil_append,List.length_cons,List.length_nil,List.set_cons_succ,List.set_cons_zero,List.replicate,true_and,Nat.reduceSub,Nat.reduceAdd,wp_ltI,wp_gtI,wp_geI,wp_leI,wp_addI,wp_subI,wp_eqI,wp_neI]
 refine(cW h (by decide) (by decide)).mono λd s1 hd=>?_
 obtain⟨w,rfl,w0,w1,h1,x1⟩:=hd
 simp only[wp_ok,wp_ok',wp_ne,wp_loc0,wp_locS,wp_C,wp_e1,wp_e2,wp_aNil,wp_aCons,wp_eB,wp_call,wp_tup,wp_lst,wp_new,wp_frz,wp_tBl,wp_isBl,wp_tru,wp_truB,wp_tAnd,wp_tOr,wp_tNot,wp_eAnd,wp_eOr,wp_eNot,wp_eIf,wp_eCh,wp_sNil,wp_sRet,wp_sExpr,wp_sCont,wp_sSeq,aft_nx,aft_rt,aft_ct,wp_sIf,wp_sAsg,asg_N,asg_T,asg_nil,asg_cons,wp_par2,par_of,wp_sFor,wp_sSub,wp_app,wp_fn,fin_rt,fin_nx,wp_comp,wp_sl,wp_pNo,List.map_cons,List.map_nil,List.cons_append,List.nil_append,List.length_cons,List.length_nil,List.set_cons_succ,List.set_cons_zero,List.replicate,true_and,Nat.reduceSub,Nat.reduceAdd,wp_ltI,wp_gtI,wp_geI,wp_leI,wp_addI,wp_subI,wp_eqI,wp_neI]
 refine Wp.of (eY rfl (by omega)) ⟨by rw[cO];exact le_size (by omega),(JZ h1 w0 w1).mono λxs s2 hx=>?_⟩
 obtain⟨ns,rfl,hm,h2,x2⟩:=hx
 exact Wp.of rfl ⟨ns,rfl,hm,h2,x1.trans x2⟩
end DI
local macro_rules | `(tactic| simp only[VC])=>`(tactic| simp only[DI.wp_ok,DI.wp_ok',DI.wp_ne,DI.wp_loc0,DI.wp_locS,DI.wp_C,DI.wp_e1,DI.wp_e2,DI.wp_aNil,DI.wp_aCons,DI.wp_eB,DI.wp_call,DI.wp_tup,DI.wp_lst,DI.wp_new,DI.wp_frz,DI.wp_tBl,DI.wp_isBl,DI.wp_tru,DI.wp_truB,DI.wp_tAnd,DI.wp_tOr,DI.wp_tNot,DI.wp_eAnd,DI.wp_eOr,DI.wp_eNot,DI.wp_eIf,DI.wp_eCh,DI.wp_sNil,DI.wp_sRet,DI.wp_sExpr,DI.wp_sCont,DI.wp_sSeq,DI.aft_nx,DI.aft_rt,DI.aft_ct,DI.wp_sIf,DI.wp_sAsg,DI.asg_N,DI.asg_T,DI.asg_nil,DI.asg_cons,DI.wp_par2,DI.par_of,DI.wp_sFor,DI.wp_sSub,DI.wp_app,DI.wp_fn,DI.fin_rt,DI.fin_nx,DI.wp_comp,DI.wp_sl,DI.wp_pNo,List.map_cons,List.map_nil,List.cons_append,List.nil_append,List.length_cons,List.length_nil,List.set_cons_succ,List.set_cons_zero,List.replicate,true_and,Nat.reduceSub,Nat.reduceAdd,DI.wp_ltI,DI.wp_gtI,DI.wp_geI,DI.wp_leI,DI.wp_addI,DI.wp_subI,DI.wp_eqI,DI.wp_neI])
local macro_rules | `(tactic| simp only[VC,$xs,*])=>`(tactic| simp only[DI.wp_ok,DI.wp_ok',DI.wp_ne,DI.wp_loc0,DI.wp_locS,DI.wp_C,DI.wp_e1,DI.wp_e2,DI.wp_aNil,DI.wp_aCons,DI.wp_eB,DI.wp_call,DI.wp_tup,DI.wp_lst,DI.wp_new,DI.wp_frz,DI.wp_tBl,DI.wp_isBl,DI.wp_tru,DI.wp_truB,DI.wp_tAnd,DI.wp_tOr,DI.wp_tNot,DI.wp_eAnd,DI.wp_eOr,DI.wp_eNot,DI.wp_eIf,DI.wp_eCh,DI.wp_sNil,DI.wp_sRet,DI.wp_sExpr,DI.wp_sCont,DI.wp_sSeq,DI.aft_nx,DI.aft_rt,DI.aft_ct,DI.wp_sIf,DI.wp_sAsg,DI.asg_N,DI.asg_T,DI.asg_nil,DI.asg_cons,DI.wp_par2,DI.par_of,DI.wp_sFor,DI.wp_sSub,DI.wp_app,DI.wp_fn,DI.fin_rt,DI.fin_nx,DI.wp_comp,DI.wp_sl,DI.wp_pNo,List.map_cons,List.map_nil,List.cons_append,List.nil_append,List.length_cons,List.length_nil,List.set_cons_succ,List.set_cons_zero,List.replicate,true_and,Nat.reduceSub,Nat.reduceAdd,DI.wp_ltI,DI.wp_gtI,DI.wp_geI,DI.wp_leI,DI.wp_addI,DI.wp_subI,DI.wp_eqI,DI.wp_neI,$xs,*])
namespace DI
open PySem L2
theorem Wp.eq {α:Type} {r:Res α} {d:α} {s:ae} (h:Wp r λa s'=>a=d/\s'=s):r=DI.ok d s:=by
 obtain⟨a,s',e,rfl,rfl⟩:=h
 exact e
theorem jZ {f:Env->ae->Res D} {env:Env} {s s1:ae} {ds:List D} (h:f env s=ok (.tup ds) s1):bo f env s=ok ds s1:=by
 unfold bo
 rw[h]
 rfl
theorem jm {f:Env->ae->Res D} {env:Env} {s s1:ae} {ds:List D} (h:f env s=ok (.lst ds) s1):bo f env s=ok ds s1:=by
 unfold bo
 rw[h]
 rfl
theorem vV:∀(ns:List Int),dR (ns.map D.int)=true
 | []=>rfl
 |n::ns=>by simp only[List.map_cons,dR,lay,vV ns,Bool.and_self]
theorem DG (x:Int) (ns:List Int):((ns.map D.int).any λy=>beq y (.int x))=decide (x∈ns):=by
 induction ns with
 |nil=>simp
 |cons n ns ih =>
  simp only[List.map_cons,List.any_cons,ih,beq]
  by_cases h:n=x
  ·subst h;simp
  ·have h':¬ x=n:=λe=>h e.symm
   simp[h,h']
theorem nT {x:Int} {ns:List Int} {s:ae}:cg (.int x) (mD ns) s=ok (.bl (decide (x∈ns))) s:=by
 have hl:oq 100 (.int x) (ns.map D.int)=true:=by simp only[oq,lay,vV,dep,Bool.and_self,Nat.zero_le,decide_true]
 have e:inD (.int x) (ns.map D.int)=some (decide (x∈ns)):=by unfold inD;rw[if_pos hl,DG]
 unfold cg
 rw[show mr (mD ns) s=some (ns.map D.int) from rfl]
 simp only[e]
 rfl
theorem Bz {x:Int} {ns:List Int} {s:ae}:dX (.int x) (mD ns) s=ok (.bl (!decide (x∈ns))) s:=by
 have hl:oq 100 (.int x) (ns.map D.int)=true:=by simp only[oq,lay,vV,dep,Bool.and_self,Nat.zero_le,decide_true]
 have e:inD (.int x) (ns.map D.int)=some (decide (x∈ns)):=by unfold inD;rw[if_pos hl,DG]
 unfold dX
 rw[show mr (mD ns) s=some (ns.map D.int) from rfl]
 simp only[e]
 rfl
noncomputable def sub (a b:List Int):Bool:=a.all λx=>decide (x∈b)
theorem nU {α:Type} (p:α->Bool) (xs:List α) (s:ae):mM [.lst (xs.map λx=>D.bl (p x))] s=ok (.bl (xs.all p)) s:=by
 have e:gy (xs.map λx=>D.bl (p x))=some (xs.map p):=by
  have:=Mh (bs:=xs.map p)
  rw[List.map_map] at this
  exact this
 show bx ((gy (xs.map λx=>D.bl (p x))).map λ(bs:List Bool)=>D.bl (bs.all id)) s=_
 rw[e]
 show ok (D.bl ((xs.map p).all id)) s=_
 rw[List.all_map]
 rfl
theorem filter_tt {α:Type} (xs:List α):xs.filter (λ_=>true)=xs:=by simp
theorem iq {nt:Nat} {caps:Env} {g:D->Env->Option Env} {t:Env->ae->Res Bool} {f:Env->ae->Res D} {s:ae} (p:Int->Bool) (h:Int->D) (ns:List Int) (hh:∀n∈ns,∃env,g (.int n) (List.replicate nt none++caps)=some env/\t env s=ok (p n) s/\(p n=true->f env s=ok (h n) s)) :
  dY nt caps g t f (ns.map D.int) s=ok ((ns.filter p).map h) s:=by
 induction ns with
 |nil=>rfl
 |cons n ns ih =>
  obtain⟨env,h1,h2,h3⟩:=hh n List.mem_cons_self
  have ih:=ih λn' h'=>hh n' (List.mem_cons_of_mem _ h')
  rw[List.map_cons]
  unfold dY
  rw[h1]
  simp only[h2,kT,eD]
  cases hp:p n with
  |true=>simp only[if_true,h3 hp,kT,eD,ih,List.filter_cons,hp,List.map_cons]
  |false=>simp only[Bool.false_eq_true,if_false,ih,List.filter_cons,hp]
theorem comp_map {α:Type} (d:α->D) {nt:Nat} {caps:Env} {g:D->Env->Option Env} {t:Env->ae->Res Bool} {f:Env->ae->Res D} {s:ae} (p:α->Bool) (h:α->D) (xs:List α) (hh:∀x∈xs,∃env,g (d x) (List.replicate nt none++caps)=some env/\t env s=ok (p x) s/\(p x=true->f env s=ok (h x) s)) :
  dY nt caps g t f (xs.map d) s=ok ((xs.filter p).map h) s:=by
 induction xs with
 |nil=>rfl
 |cons n ns ih =>
  obtain⟨env,h1,h2,h3⟩:=hh n List.mem_cons_self
  have ih:=ih λn' h'=>hh n' (List.mem_cons_of_mem _ h')
  rw[List.map_cons]
  unfold dY
  rw[h1]
  simp only[h2,kT,eD]
  cases hp:p n with
  |true=>simp only[if_true,h3 hp,kT,eD,ih,List.filter_cons,hp,List.map_cons]
  |false=>simp only[Bool.false_eq_true,if_false,ih,List.filter_cons,hp]
end DI
namespace DI
open PySem L2
theorem J0 {i:Int} {s:ae}:vD [.int i] s=ok (.bl (decide (0<=i))) s:=by
 rfl
theorem nK {i m:Int} {s:ae}:nI [.int i,.int m] s=ok (.bl (decide (0<=i)&&decide (i<m))) s:=by
 refine Wp.eq ?_
 unfold nI
 simp only[VC,J0]
 by_cases h:0<=i
 ·simp[h]
 ·simp[h]
theorem DH {i:Int} {s:ae}:pH [.int i] s=ok (.bl (decide (0<=i)&&decide (i<8))) s:=by
 refine Wp.eq ?_
 unfold pH
 simp only[VC,nK,true_and]
theorem CY (xs:List D):cutD xs (some 1) none=xs.drop 1:=by
 unfold cutD HT.aP
 cases xs with
 |nil=>simp
 |cons x xs =>
  simp only[List.length_cons]
  have e:(if (1:Int)<0 then (1+((xs.length+1:Nat):Int)).toNat else min (1:Int).toNat (xs.length+1))=1:=by simp
  simp
noncomputable def rise:List Int->Bool
 | []=>true
 | [_]=>true
 |a::b::r=>decide (a<b)&&rise (b::r)
theorem MD {ns:List Int} (h:ns.Pairwise (· < ·)):rise ns=true:=by
 induction ns with
 |nil=>rfl
 |cons a ns ih =>
  cases ns with
  |nil=>rfl
  |cons b r =>
   obtain⟨h1,h2⟩:=List.pairwise_cons.mp h
   simp only[rise,ih h2,Bool.and_true]
   exact decide_eq_true (h1 b List.mem_cons_self)
theorem CZ:∀(ns:List Int),((ns.zip (ns.drop 1)).all λp=>decide (p.1<p.2))=rise ns
 | []=>rfl
 | [_]=>rfl
 |a::b::r=>by
  have ih:=CZ (b::r)
  simp only[List.drop_succ_cons,List.drop_zero,List.zip_cons_cons,List.all_cons,rise] at ih |-
  rw[ih]
theorem Cf (xs ys:List Int):gb (xs.map D.int) (ys.map D.int)=(xs.zip ys).map λp=>D.tup [.int p.1,.int p.2]:=by
 unfold gb
 rw[List.zip_map,List.map_map]
 rfl
theorem sV {fa:Env->ae->Res (List D)} {env:Env} {s s1:ae} {xs ys:List D} (h:fa env s=ok [.tup xs,.tup ys] s1):mI fa env s=ok (gb xs ys) s1:=by
 unfold mI
 rw[h]
 rfl
theorem J1 {ns:List Int} {s:ae} (hl:ns.length<=1000000):lL [mD ns] s=ok (.bl (rise ns)) s:=by
 refine Wp.eq ?_
 unfold lL
 simp only[VC]
 have hz:mI (af (aa 0) (af (jL (aa 0) (jz (eC (.int 1))) jK) ai)) [some (mD ns)] s=ok (gb (ns.map D.int) ((ns.drop 1).map D.int)) s:=by
  refine sV (Wp.eq ?_)
  simp only[VC]
  rw[tK (i:=1) rfl]
  try simp only[VC]
  refine Wp.of (show lZ (mD ns) (some 1) none s=ok (.tup (cutD (ns.map D.int) (some 1) none)) s from rfl) ⟨?_,rfl⟩
  rw[CY,List.map_drop]
 refine Wp.of hz ⟨le_size (by rw[pK];simp only[List.length_map];omega),?_⟩
 rw[Cf]
 refine Wp.of (comp_map (λp:Int×Int=>D.tup [.int p.1,.int p.2]) (λ_=>true) (λp=>.bl (decide (p.1<p.2))) _ λp _=>⟨[some (.int p.1),some (.int p.2)],rfl,rfl,λ_=>rfl⟩) ?_
 rw[filter_tt]
 exact Wp.of (nU _ _ _) ⟨by rw[CZ],rfl⟩
structure Td (rs:List (List Int)):Prop where
 lo:1<=rs.length
 hi:rs.length<=10
 vp:∀r∈rs,dj 8 r
end DI
namespace DI
open PySem L2
theorem QE {ns:List Int} {s:ae}:eQ [mD ns] s=ok (.int ns.length) s:=by
 show ok (D.int (ns.map D.int).length) s=_
 rw[List.length_map]
theorem wY (lo:Int) (n:Nat):bM lo n=(List.range n).map λi:Nat=>D.int (lo+i):=rfl
noncomputable def N7 (rs:List (List Int)) (laid:List Int) (m:Int):Bool:=((List.range laid.length).filter λi=>laid.getD i 0==m).all λi=>sub (rs.getD i []) (rs.getD laid.length [])
theorem p9 {α:Type} (d:α->D) {kW:Env} {g:D->Env->Option Env} {t:Env->ae->Res Bool} {act:Env->ae->Res (List D)} {s:ae} (p:α->Bool) (h:α->List D) (xs:List α) (hh:∀x∈xs,∃env,g (d x) kW=some env/\t env s=ok (p x) s/\(p x=true->act env s=ok (h x) s)) :
  iG g t act kW (xs.map d) s=ok ((xs.filter p).flatMap h) s:=by
 induction xs with
 |nil=>rfl
 |cons n ns ih =>
  obtain⟨env,h1,h2,h3⟩:=hh n List.mem_cons_self
  have ih:=ih λn' h'=>hh n' (List.mem_cons_of_mem _ h')
  rw[List.map_cons]
  unfold iG
  rw[h1]
  simp only[h2,kT,eD]
  cases hp:p n with
  |true=>simp only[if_true,h3 hp,kT,eD,ih,List.filter_cons,hp,List.flatMap_cons]
  |false=>simp only[Bool.false_eq_true,if_false,ih,List.filter_cons,hp]
theorem C0 {nt:Nat} {cap:List Nat} {it:Env->ae->Res (List D)} {gd:D->Env->Option Env} {c:Env->ae->Res Bool} {act:Env->ae->Res (List D)} {env:Env} {s:ae} {Q:D->ae->Prop} :
  Wp (pY nt cap it gd c act env s) Q=Wp (it env s) λds s=>Wp (iG gd c act (List.replicate nt none++fx cap env) ds s) λxs s=>xs.length<=sizeLine/\Q (.lst xs) s:=by
 unfold pY;simp only[bj,wp_ne,lQ,wp_ok]
noncomputable def step (rs:List (List Int)) (told:List (List Int)):List (List Int):=told.flatMap λlaid=>([0,1].filter λm=>N7 rs laid m).map λm=>laid++[m]
theorem fH {a b:List Int} {s:ae} (h:a.length+b.length<=1000000):cI (mD a) (mD b) s=ok (mD (a++b)) s:=by
 have e:mL (mD a) (mD b)=some (mD (a++b)):=by
  show (if mK (a.map D.int) (b.map D.int)=true then some (D.tup (a.map D.int++b.map D.int)) else none)=_
  have hf:mK (a.map D.int) (b.map D.int)=true:=by
   unfold mK
   rw[List.length_map,List.length_map]
   exact decide_eq_true (le_size h)
  rw[if_pos hf]
  show some (D.tup (a.map D.int++b.map D.int))=some (D.tup ((a++b).map D.int))
  rw[List.map_append]
 show bx (mL (mD a) (mD b)) s=_
 rw[e]
 rfl
end DI
namespace DI
open PySem L2 TK
noncomputable def markB (i:Int):Bool:=decide (0<=i)&&decide (i<8)
noncomputable def ix (i:Int):Bool:=decide (0<=i)&&decide (i<4)
noncomputable def ib (i:Int):Bool:=decide (0<=i)&&decide (i<31)
noncomputable def iy (ns:List Int):Bool:=ns.all markB&&rise ns
noncomputable def qa (a b:List Int):Bool:=!(a.any λx=>decide (x∈b))
noncomputable def eI:Pg->Bool
 | .made m d h l=>ix m&&ib d&&(iy h&&(iy l&&qa h l))
 | .bL m d k=>ix m&&ib d&&markB k
noncomputable def fI:Pg->Prop
 | .made _ _ h l=>h.length<=1000/\l.length<=1000
 | .bL _ _ _=>True
theorem Lg {bs:List Bool}:gy (bs.map D.bl)=some bs:=by
 induction bs with
 |nil=>rfl
 |cons b bs ih=>simp only[List.map_cons,gy,ih];rfl
theorem C1 {α:Type} (p:α->Bool) (xs:List α) (s:ae):oI [.lst (xs.map λx=>D.bl (p x))] s=ok (.bl (xs.any p)) s:=by
 have e:gy (xs.map λx=>D.bl (p x))=some (xs.map p):=by
  have:=Lg (bs:=xs.map p)
  rw[List.map_map] at this
  exact this
 simp only[oI,res,e,bx,Option.map_some,List.any_map,Function.comp_def,id]
theorem C2 {ns:List Int} {s:ae} (hl:ns.length<=1000):pB [mD ns] s=ok (.bl (iy ns)) s:=by
 refine Wp.eq ?_
 unfold pB
 simp only[VC]
 refine Wp.of (show cE [mD ns,.ty "tuple"] s=ok (.bl true) s from rfl) ?_
 simp only[VC,if_true]
 refine Wp.of (jZ rfl) ⟨le_size (by rw[List.length_map];omega),?_⟩
 refine Wp.of (iq (λ_=>true) (λx=>.bl (markB x)) ns λn _=>⟨[some (.int n)],rfl,rfl,λ_=>?_⟩) ?_
 ·refine Wp.eq ?_
  simp only[VC,DH,markB,true_and]
 ·rw[filter_tt]
  refine Wp.of (nU _ _ _) ?_
  simp only[VC]
  unfold iy
  cases e:ns.all markB with
  |true =>
   simp only[if_true,Bool.true_and]
   exact Wp.of (J1 (by omega)) ⟨rfl,rfl⟩
  |false=>simp
theorem Lh {a b:List Int} {s:ae} (ha:a.length<=1000):sj [mD a,mD b] s=ok (.bl (qa a b)) s:=by
 refine Wp.eq ?_
 unfold sj
 simp only[VC]
 refine Wp.of (jZ rfl) ⟨le_size (by rw[List.length_map];omega),?_⟩
 refine Wp.of (iq (λ_=>true) (λx=>.bl (decide (x∈b))) a λn _=>⟨[some (.int n),some (mD b)],rfl,rfl,λ_=>?_⟩) ?_
 ·refine Wp.eq ?_
  simp only[VC,nT,true_and]
 ·rw[filter_tt]
  refine Wp.of (C1 _ _ _) ?_
  simp only[VC]
  exact⟨rfl,trivial⟩
theorem Li {h l:List Int} {s:ae} (h1:h.length<=1000) (h2:l.length<=1000):sy [.tup [mD h,mD l]] s=ok (.bl (iy h&&(iy l&&qa h l))) s:=by
 refine Wp.eq ?_
 unfold sy
 simp only[VC]
 refine Wp.of (show cE [.tup [mD h,mD l],.ty "tuple"] s=ok (.bl true) s from rfl) ?_
 simp only[VC,Bool.not_true,Bool.false_eq_true,if_false]
 refine Wp.of (show eQ [.tup [mD h,mD l]] s=ok (.int 2) s from rfl) ?_
 simp only[VC]
 simp only[VC,beq_self_eq_true,Bool.not_true,Bool.false_eq_true,if_false]
 refine Wp.of (C2 h1) ?_
 simp only[VC]
 cases iy h with
 |false=>simp
 |true =>
  simp only[if_true,Bool.true_and]
  refine Wp.of (C2 h2) ?_
  simp only[VC]
  cases iy l with
  |false=>simp
  |true =>
   simp only[if_true,Bool.true_and]
   exact Wp.of (Lh h1) ⟨rfl,rfl⟩
theorem wx {i:Int} {s:ae}:pE [.int i] s=ok (.bl (ix i)) s:=by
 refine Wp.eq ?_
 unfold pE
 simp only[VC,nK,ix,and_self]
theorem xy {i:Int} {s:ae}:pM [.int i] s=ok (.bl (ib i)) s:=by
 refine Wp.eq ?_
 unfold pM
 simp only[VC,nK,ib,and_self]
theorem il {x y:Str} {s:ae}:aQ (.str x) (.str y) s=ok (.bl (decide (x=y))) s:=by
 show ok (D.bl (x==y)) s=_
 by_cases e:x=y<;>simp[e]
theorem DJ:¬ (Str.ofString "made"=Str.ofString "mended"):=by decide +kernel
theorem tM:¬ (Str.ofString "mended"=Str.ofString "made"):=by decide +kernel
theorem ME {p:Pg} {s:ae} (hf:fI p):sI [p.d] s=ok (.bl (eI p)) s:=by
 refine Wp.eq ?_
 unfold sI
 have key:∀(a b c d:D),p.d=.tup [a,b,c,d]->cE [p.d,.ty "tuple"] s=ok (.bl true) s/\eQ [p.d] s=ok (.int 4) s:=λa b c d e=>by rw[e];exact⟨rfl,rfl⟩
 cases p with
 |made m d h l =>
  obtain⟨k1,k2⟩:=key _ _ _ _ rfl
  simp only[VC]
  refine Wp.of k1 ?_
  simp only[VC,Bool.not_true,Bool.false_eq_true,if_false]
  refine Wp.of k2 ?_
  simp only[VC]
  simp only[VC,beq_self_eq_true,Bool.not_true,Bool.false_eq_true,if_false,Pg.d]
  refine Wp.of wx ?_
  simp only[VC,eI]
  cases ix m with
  |false=>simp[aft_rt,fin_rt,wp_sRet,wp_C]
  |true =>
   simp only[Bool.not_true,Bool.false_eq_true,if_false,Bool.true_and]
   refine Wp.of xy ?_
   simp only[VC]
   cases ib d with
   |false=>simp[aft_rt,fin_rt,wp_sRet,wp_C]
   |true =>
    simp only[VC,Bool.not_true,Bool.false_eq_true,if_false,Bool.true_and]
    refine Wp.of il ?_
    simp only[VC,decide_true,if_true]
    exact Wp.of (Li hf.1 hf.2) ⟨rfl,rfl⟩
 |bL m d k =>
  obtain⟨k1,k2⟩:=key _ _ _ _ rfl
  simp only[VC]
  refine Wp.of k1 ?_
  simp only[VC,Bool.not_true,Bool.false_eq_true,if_false]
  refine Wp.of k2 ?_
  simp only[VC]
  simp only[VC,beq_self_eq_true,Bool.not_true,Bool.false_eq_true,if_false,Pg.d]
  refine Wp.of wx ?_
  simp only[VC,eI]
  cases ix m with
  |false=>simp[aft_rt,fin_rt,wp_sRet,wp_C]
  |true =>
   simp only[Bool.not_true,Bool.false_eq_true,if_false,Bool.true_and]
   refine Wp.of xy ?_
   simp only[VC]
   cases ib d with
   |false=>simp[aft_rt,fin_rt,wp_sRet,wp_C]
   |true =>
    simp only[VC,Bool.not_true,Bool.false_eq_true,if_false,Bool.true_and]
    refine Wp.of il ?_
    simp only[VC,decide_eq_false tM,Bool.false_eq_true,if_false]
    refine Wp.of il ?_
    simp only[VC,decide_true,if_true]
    exact Wp.of DH ⟨rfl,rfl⟩
end DI
namespace DI
open PySem L2 TK
noncomputable abbrev bD (ps:List Pg):D:=.tup (ps.map Pg.d)
theorem N8 {p q:Pg} {s:ae}:jB p.d q.d s=ok (.bl (dI.lt p q)) s:=by
 unfold jB
 rw[if_pos (by rw[l6 _ (mz p),l6 _ (mz q)];simp only[Bool.and_self,Bool.true_and,decide_eq_true_eq];have:=xw p;omega),Fm]
 rfl
noncomputable def uy (ps:List Pg):Bool:=(ps.zip (ps.drop 1)).all λp=>dI.lt p.1 p.2
theorem Lj (xs ys:List Pg):gb (xs.map Pg.d) (ys.map Pg.d)=(xs.zip ys).map λp=>D.tup [p.1.d,p.2.d]:=by
 unfold gb
 rw[List.zip_map,List.map_map]
 rfl
theorem IZ {ps:List Pg} {s:ae} (hl:ps.length<=1000):lL [bD ps] s=ok (.bl (uy ps)) s:=by
 refine Wp.eq ?_
 unfold lL
 simp only[VC]
 have hz:mI (af (aa 0) (af (jL (aa 0) (jz (eC (.int 1))) jK) ai)) [some (bD ps)] s=ok (gb (ps.map Pg.d) ((ps.drop 1).map Pg.d)) s:=by
  refine sV (Wp.eq ?_)
  simp only[VC]
  rw[tK (i:=1) rfl]
  try simp only[VC]
  refine Wp.of (show lZ (bD ps) (some 1) none s=ok (.tup (cutD (ps.map Pg.d) (some 1) none)) s from rfl) ⟨?_,rfl⟩
  rw[CY,List.map_drop]
 refine Wp.of hz ⟨le_size (by rw[pK];simp only[List.length_map];omega),?_⟩
 rw[Lj]
 refine Wp.of (comp_map (λp:Pg×Pg=>D.tup [p.1.d,p.2.d]) (λ_=>true) (λp=>.bl (dI.lt p.1 p.2)) _ λp _=>⟨[some p.1.d,some p.2.d],rfl,rfl,λ_=>?_⟩) ?_
 ·refine Wp.eq ?_
  simp only[VC,N8,and_self]
 rw[filter_tt]
 exact Wp.of (nU _ _ _) ⟨rfl,rfl⟩
noncomputable def js (ps:List Pg):Bool:=decide (ps.length<=24)&&(ps.all eI&&uy ps)
theorem MF {ps:List Pg} {s:ae} (hl:ps.length<=1000) (hf:∀p∈ps,fI p):sA [bD ps] s=ok (.bl (js ps)) s:=by
 refine Wp.eq ?_
 unfold sA js
 simp only[VC]
 refine Wp.of (show cE [bD ps,.ty "tuple"] s=ok (.bl true) s from rfl) ?_
 simp only[VC,if_true]
 refine Wp.of (show eQ [bD ps] s=ok (.int ps.length) s from by show ok (D.int (ps.map Pg.d).length) s=_;rw[List.length_map]) ?_
 simp only[VC]
 by_cases h:ps.length<=24
 ·have h':(ps.length:Int)<=24:=by omega
  simp only[h,h',decide_true,if_true,Bool.true_and]
  refine Wp.of (jZ rfl) ⟨le_size (by rw[List.length_map];omega),?_⟩
  refine Wp.of (comp_map Pg.d (λ_=>true) (λp=>.bl (eI p)) ps λp hp=>⟨[some p.d],rfl,rfl,λ_=>?_⟩) ?_
  ·refine Wp.eq ?_
   simp only[VC,ME (hf p hp),and_self]
  ·rw[filter_tt]
   refine Wp.of (nU _ _ _) ?_
   simp only[VC]
   cases ps.all eI with
   |false=>simp
   |true =>
    simp only[if_true,Bool.true_and]
    exact Wp.of (IZ hl) ⟨rfl,rfl⟩
 ·have h':¬ (ps.length:Int)<=24:=by omega
  simp[h,h']
noncomputable def _root_.TK.Pg.day:Pg->Int
 | .made _ d _ _=>d
 | .bL _ d _=>d
noncomputable def jO (m k:Int):Pg->Bool
 | .made m' _ h _=>decide (m'=m)&&decide (k∈h)
 |_=>false
noncomputable def jP (m k:Int):Pg->Bool
 | .made m' _ _ l=>decide (m'=m)&&decide (k∈l)
 |_=>false
noncomputable def jh (m k:Int):Pg->Bool
 | .bL m' _ k'=>decide (m'=m)&&decide (k'=k)
 |_=>false
noncomputable def shown (ps:List Pg) (m k:Int):List Int:=(ps.filter (jO m k)).map Pg.day
noncomputable def cP (ps:List Pg) (m k:Int):List Int:=(ps.filter (jP m k)).map Pg.day
noncomputable def cb (ps:List Pg) (m k:Int):List Int:=(ps.filter (jh m k)).map Pg.day
noncomputable abbrev lI (ns:List Int):D:=.lst (ns.map D.int)
theorem dU (a b c d:D) (s:ae):ar (.tup [a,b,c,d]) (.int 0) s=ok a s/\ar (.tup [a,b,c,d]) (.int 1) s=ok b s/\ar (.tup [a,b,c,d]) (.int 2) s=ok c s/\ar (.tup [a,b,c,d]) (.int 3) s=ok d s:=⟨rfl,rfl,rfl,rfl⟩
theorem rM (a b:D) (s:ae):ar (.tup [a,b]) (.int 0) s=ok a s/\ar (.tup [a,b]) (.int 1) s=ok b s:=⟨rfl,rfl⟩
theorem lJ (p:Pg) (s:ae):ar p.d (.int 1) s=ok (.int (match p with | .made m _ _ _=>m | .bL m _ _=>m)) s/\ar p.d (.int 2) s=ok (.int p.day) s:=by cases p<;>exact⟨rfl,rfl⟩
theorem tN {ps:List Pg} {m k:Int} {s:ae} (hl:ps.length<=1000):jl [bD ps,.int m,.int k,.int 0] s=ok (lI (shown ps m k)) s/\jl [bD ps,.int m,.int k,.int 1] s=ok (lI (cP ps m k)) s:=by
 constructor
 ·refine Wp.eq ?_
  unfold jl
  simp only[VC]
  refine Wp.of (jZ rfl) ⟨le_size (by rw[List.length_map];omega),?_⟩
  refine Wp.of (comp_map Pg.d (jO m k) (λp=>.int p.day) ps λp hp=>⟨[some p.d,some (.int m),some (.int k),some (.int 0)],rfl,?_,λ_=>?_⟩) ?_
  ·refine Wp.eq ?_
   cases p with
   |made m' d h l =>
    simp only[VC,Pg.d]
    rw[(dU _ _ _ _ s).1]
    simp only[VC,il,decide_true,if_true]
    rw[(dU _ _ _ _ s).2.1]
    simp only[VC,jO]
    by_cases e:m'=m
    ·simp only[e,beq_self_eq_true,if_true,decide_true,Bool.true_and]
     rw[(dU _ _ _ _ s).2.2.2]
     simp only[VC]
     rw[(rM _ _ s).1]
     simp only[VC]
     refine Wp.of (nT (ns:=h)) ?_
     simp only[VC,and_self]
    ·simp[e]
   |bL m' d k' =>
    simp only[VC,Pg.d]
    rw[(dU _ _ _ _ s).1]
    simp only[VC,il,decide_eq_false tM,Bool.false_eq_true,if_false,jO,and_self]
  ·refine Wp.eq ?_
   simp only[VC,(lJ p s).2,and_self]
  ·simp only[shown,lI,List.map_map,Function.comp_def,and_self]
 ·refine Wp.eq ?_
  unfold jl
  simp only[VC]
  refine Wp.of (jZ rfl) ⟨le_size (by rw[List.length_map];omega),?_⟩
  refine Wp.of (comp_map Pg.d (jP m k) (λp=>.int p.day) ps λp hp=>⟨[some p.d,some (.int m),some (.int k),some (.int 1)],rfl,?_,λ_=>?_⟩) ?_
  ·refine Wp.eq ?_
   cases p with
   |made m' d h l =>
    simp only[VC,Pg.d]
    rw[(dU _ _ _ _ s).1]
    simp only[VC,il,decide_true,if_true]
    rw[(dU _ _ _ _ s).2.1]
    simp only[VC,jP]
    by_cases e:m'=m
    ·simp only[e,beq_self_eq_true,if_true,decide_true,Bool.true_and]
     rw[(dU _ _ _ _ s).2.2.2]
     simp only[VC]
     rw[(rM _ _ s).2]
     simp only[VC]
     refine Wp.of (nT (ns:=l)) ?_
     simp only[VC,and_self]
    ·simp[e]
   |bL m' d k' =>
    simp only[VC,Pg.d]
    rw[(dU _ _ _ _ s).1]
    simp only[VC,il,decide_eq_false tM,Bool.false_eq_true,if_false,jP,and_self]
  ·refine Wp.eq ?_
   simp only[VC,(lJ p s).2,and_self]
  ·simp only[cP,lI,List.map_map,Function.comp_def,and_self]
theorem wZ {ps:List Pg} {m k:Int} {s:ae} (hl:ps.length<=1000):nG [bD ps,.int m,.int k] s=ok (lI (cb ps m k)) s:=by
 refine Wp.eq ?_
 unfold nG
 simp only[VC]
 refine Wp.of (jZ rfl) ⟨le_size (by rw[List.length_map];omega),?_⟩
 refine Wp.of (comp_map Pg.d (jh m k) (λp=>.int p.day) ps λp hp=>⟨[some p.d,some (.int m),some (.int k)],rfl,?_,λ_=>?_⟩) ?_
 ·refine Wp.eq ?_
  cases p with
  |bL m' d k' =>
   simp only[VC,Pg.d]
   rw[(dU _ _ _ _ s).1]
   simp only[VC,il,decide_true,if_true]
   rw[(dU _ _ _ _ s).2.1]
   simp only[VC,jh]
   by_cases e:m'=m
   ·simp only[e,beq_self_eq_true,if_true,decide_true,Bool.true_and]
    rw[(dU _ _ _ _ s).2.2.2]
    simp only[VC]
    by_cases e:k'=k<;>simp[e]
   ·simp[e]
  |made m' d h l =>
   simp only[VC,Pg.d]
   rw[(dU _ _ _ _ s).1]
   simp only[VC,il,decide_eq_false DJ,Bool.false_eq_true,if_false,jh,and_self]
 ·refine Wp.eq ?_
  simp only[VC,(lJ p s).2,and_self]
 ·simp only[cb,lI,List.map_map,Function.comp_def,and_self]
theorem j9 {n:Nat} (h:n<=1000):n<=sizeLine:=le_size (by omega)
theorem ou {x:Int} {ns:List Int} {s:ae}:cg (.int x) (lI ns) s=ok (.bl (decide (x∈ns))) s:=by
 show cg (.int x) (mD ns) s=_
 exact nT
theorem nR {x:Int} {ns:List Int} {s:ae}:dX (.int x) (lI ns) s=ok (.bl (!decide (x∈ns))) s:=by
 show dX (.int x) (mD ns) s=_
 exact Bz
noncomputable def yM (ds:List Int) (a b:Int):Bool:=ds.any λx=>decide (a<x)&&decide (x<=b)
theorem J2 {ds:List Int} {a b:Int} {s:ae} (hl:ds.length<=1000):rQ [lI ds,.int a,.int b] s=ok (.bl (yM ds a b)) s:=by
 refine Wp.eq ?_
 unfold rQ
 simp only[VC]
 refine Wp.of (jm rfl) ⟨j9 (by rw[List.length_map];omega),?_⟩
 refine Wp.of (iq (λ_=>true) (λx=>.bl (decide (a<x)&&decide (x<=b))) ds λn _=>⟨[some (.int n),some (.int a),some (.int b)],rfl,rfl,λ_=>?_⟩) ?_
 ·refine Wp.eq ?_
  simp only[VC]
  by_cases e:a<n<;>simp[e,wp_ok,wp_leI,wp_locS,wp_loc0]
 ·rw[filter_tt]
  exact Wp.of (C1 _ _ _) ⟨rfl,rfl⟩
noncomputable def nv (ps:List Pg) (m k d l:Int):Bool:=(decide (l∈cP ps m k)||(decide (l=d)&&decide (d∈cb ps m k)))&&!yM (cb ps m k) d l
noncomputable def md (d:Int):List Int:=(List.range (31-d).toNat).map λi:Nat=>d+(i:Int)
noncomputable def ka (ps:List Pg) (m k:Int):List (Int×Int):=(fy (shown ps m k)).flatMap λd=>((md d).filter (nv ps m k d)).map λl=>(d,l)
theorem sW {ps:List Pg} {f:Pg->Bool}:((ps.filter f).map Pg.day).length<=ps.length:=by rw[List.length_map];exact List.length_filter_le _ _
theorem pO {α β:Type} {f:α->List β} {b:Nat}:∀{l:List α},(∀x∈l,(f x).length<=b)->(l.flatMap f).length<=l.length*b
 | [],_=>by simp
 |x::l,h=>by
  rw[List.flatMap_cons,List.length_append,List.length_cons,Nat.succ_mul]
  have h1:=h x List.mem_cons_self
  have h2:=pO (l:=l) λy hy=>h y (List.mem_cons_of_mem _ hy)
  omega
theorem BA (d:Int) (h:0<=d):(md d).length<=31:=by unfold md;rw[List.length_map,List.length_range];omega
structure oO (ps:List Pg):Prop where
 len:ps.length<=24
 lo:∀p∈ps,0<=p.day/\p.day<31
theorem oO.of {ps:List Pg} (h:oO ps) {f:Pg->Bool} {x:Int} (hx:x∈(ps.filter f).map Pg.day):0<=x/\x<31:=by
 obtain⟨p,hp,rfl⟩:=List.mem_map.mp hx
 exact h.lo p (List.mem_filter.mp hp).1
theorem Cg (l:List Int):(fy l).length<=l.length:=by
 induction l with
 |nil=>exact Nat.le_refl _
 |cons x l ih =>
  have:(fy (x::l)).length<=(fy l).length+1:=by
   show (jA x (fy l)).length<=_
   generalize fy l=m
   induction m with
   |nil=>exact Nat.le_refl _
   |cons y m TB =>
    unfold jA
    split
    ·simp
    ·split
     ·simp
     ·simp only[List.length_cons];omega
  simp only[List.length_cons]
  omega
theorem I0 {ps:List Pg} {m k:Int} {s:ae} (h:oO ps):pI [bD ps,.int m,.int k] s=ok (.lst ((ka ps m k).map λp=>D.tup [.int p.1,.int p.2])) s:=by
 have hl:=h.len
 have l1:(shown ps m k).length<=24:=Nat.le_trans sW hl
 have l2:(cP ps m k).length<=24:=Nat.le_trans sW hl
 have l3:(cb ps m k).length<=24:=Nat.le_trans sW hl
 refine Wp.eq ?_
 unfold pI
 simp only[VC]
 refine Wp.of (tN (by omega)).2 ?_
 refine Wp.of (wZ (by omega)) ?_
 rw[C0]
 have hs:bo (e1 nM (ax jl (af (aa 0) (af (aa 1) (af (aa 2) (af (eC (.int (0))) ai)))))) [some (bD ps),some (.int m),some (.int k),some (lI (cP ps m k)),some (lI (cb ps m k))] s=ok ((fy (shown ps m k)).map D.int) s:=by
  refine jm (Wp.eq ?_)
  simp only[VC]
  refine Wp.of (tN (by omega)).1 ?_
  refine Wp.of (show nM (lI (shown ps m k)) s=ok (lI (fy (shown ps m k))) s from ?_) ⟨rfl,rfl⟩
  unfold nM
  simp only[JA]
  rw[if_pos (by rw[decide_eq_true_eq];omega)]
 refine Wp.of hs ?_
 have day:∀d∈fy (shown ps m k),0<=d/\d<31:=λd hd=>h.of (pG.mp hd)
 refine Wp.of (p9 D.int (λ_=>true) (λd=>((md d).filter (nv ps m k d)).map λl=>D.tup [.int d,.int l]) _ λd hd=>⟨[some (.int d),none,some (lI (cP ps m k)),some (lI (cb ps m k))],rfl,rfl,λ_=>?_⟩) ?_
 ·have hd:=day d hd
  unfold more
  rw[EI (i:=d) (j:=31) rfl (by omega) (by omega) (by omega) (by omega),eD]
  have er:bM d (31-d).toNat=(md d).map D.int:=by unfold md;rw[wY,List.map_map];rfl
  rw[er]
  rw[p9 D.int (nv ps m k d) (λl=>[D.tup [.int d,.int l]]) (md d) λl hl=>⟨[some (.int d),some (.int l),some (lI (cP ps m k)),some (lI (cb ps m k))],rfl,?_,λ_=>?_⟩]
  ·rw[<- List.map_eq_flatMap]
  ·refine Wp.eq ?_
   simp only[VC,ou]
   unfold nv
   have GN:=J2 (ds:=cb ps m k) (a:=d) (b:=l) (s:=s) (by omega)
   by_cases c1:l∈cP ps m k
   ·simp only[VC,c1,decide_true,if_true,Bool.true_or,Bool.true_and]
    exact Wp.of GN (by simp only[VC,and_self])
   ·simp only[c1,decide_false,Bool.false_eq_true,if_false,Bool.false_or]
    by_cases c2:l=d
    ·subst c2
     simp only[VC,beq_self_eq_true,if_true,decide_true,Bool.true_and]
     by_cases c3:l∈cb ps m k
     ·simp only[c3,decide_true,if_true,Bool.true_and]
      exact Wp.of GN (by simp only[VC,and_self])
     ·simp[c3]
    ·simp[c2]
  ·refine Wp.eq ?_
   unfold emit
   rw[bj]
   simp only[VC]
   exact⟨by decide,trivial⟩
 ·rw[filter_tt]
  refine⟨?_,?_,rfl⟩
  ·refine j9 (Nat.le_trans (pO (b:=31) λd hd=>?_) ?_)
   ·rw[List.length_map]
    exact Nat.le_trans (List.length_filter_le _ _) (BA d (day d hd).1)
   ·have:=Cg (shown ps m k)
    have:(fy (shown ps m k)).length<=24:=by omega
    omega
  ·unfold ka
   simp only[List.map_flatMap,List.map_map,Function.comp_def]
noncomputable def m4:List Int:=(List.range 4).map λi:Nat=>(i:Int)
noncomputable def k8:List Int:=(List.range 8).map λi:Nat=>(i:Int)
noncomputable def me (ps:List Pg):List (Int×Int×Int×Int):=m4.flatMap λm=>k8.flatMap λk=>(ka ps m k).map λp=>(m,k,p.1,p.2)
noncomputable def fD (p:Int×Int×Int×Int):D:=.tup [.int p.1,.int p.2.1,.int p.2.2.1,.int p.2.2.2]
theorem J3 {ps:List Pg} (h:oO ps) (m k:Int):(ka ps m k).length<=744:=by
 have l1:(shown ps m k).length<=24:=Nat.le_trans sW h.len
 have:=Cg (shown ps m k)
 refine Nat.le_trans (pO (b:=31) λd hd=>?_) (by omega)
 rw[List.length_map]
 exact Nat.le_trans (List.length_filter_le _ _) (BA d (h.of (pG.mp hd)).1)
theorem J4 {ps:List Pg} {s:ae} (h:oO ps):sk [bD ps] s=ok (.lst ((me ps).map fD)) s:=by
 refine Wp.eq ?_
 unfold sk
 simp only[wp_fn,wp_sRet,fin_rt,List.map_cons,List.map_nil,List.cons_append,List.nil_append,List.length_cons,List.length_nil,List.replicate,true_and,Nat.reduceSub,Nat.reduceAdd]
 rw[C0]
 refine Wp.of (eY (n:=4) rfl (by decide)) ?_
 have e4:bM 0 4=m4.map D.int:=rfl
 have e8:bM 0 8=k8.map D.int:=rfl
 rw[e4]
 refine Wp.of (p9 D.int (λ_=>true) (λm=>k8.flatMap λk=>(ka ps m k).map λp=>fD (m,k,p.1,p.2)) m4 λm hm=>⟨[some (.int m),none,none,none,some (bD ps)],rfl,rfl,λ_=>?_⟩) ?_
 ·unfold more
  rw[eY (n:=8) rfl (by decide),eD,e8]
  rw[p9 D.int (λ_=>true) (λk=>(ka ps m k).map λp=>fD (m,k,p.1,p.2)) k8 λk hk=>⟨[some (.int m),some (.int k),none,none,some (bD ps)],rfl,rfl,λ_=>?_⟩]
  ·rw[filter_tt]
  ·have hi:bo (ax pI (af (aa 4) (af (aa 0) (af (aa 1) ai)))) [some (.int m),some (.int k),none,none,some (bD ps)] s=ok ((ka ps m k).map λp=>D.tup [.int p.1,.int p.2]) s:=by
    refine jm (Wp.eq ?_)
    simp only[VC]
    exact Wp.of (I0 h) ⟨rfl,rfl⟩
   rw[hi,eD]
   rw[p9 (λp:Int×Int=>D.tup [.int p.1,.int p.2]) (λ_=>true) (λp=>[fD (m,k,p.1,p.2)]) (ka ps m k) λp hp=>⟨[some (.int m),some (.int k),some (.int p.1),some (.int p.2),some (bD ps)],rfl,rfl,λ_=>?_⟩]
   ·rw[filter_tt,<- List.map_eq_flatMap]
   ·refine Wp.eq ?_
    unfold emit
    rw[bj]
    simp only[VC]
    exact⟨by decide,rfl,trivial⟩
 ·rw[filter_tt]
  refine⟨?_,?_,rfl⟩
  ·refine le_size (Nat.le_trans (pO (b:=8*744) λm hm=>?_) (by decide))
   refine Nat.le_trans (pO (b:=744) λk hk=>?_) (by decide)
   rw[List.length_map]
   exact J3 h m k
  ·unfold me
   simp only[List.map_flatMap,List.map_map,Function.comp_def]
noncomputable def iT (ps:List Pg):Bool:=js ps&&(me ps).isEmpty
theorem J5 {ps:List Pg} (h:js ps=true):oO ps:=by
 unfold js at h
 simp only[Bool.and_eq_true,decide_eq_true_eq,List.all_eq_true] at h
 refine⟨h.1,λp hp=>?_⟩
 have:=h.2.1 p hp
 cases p<;>simp only[eI,ib,Bool.and_eq_true,decide_eq_true_eq] at this<;>exact this.1.2
theorem DK {ps:List Pg} {s:ae} (hl:ps.length<=1000) (hf:∀p∈ps,fI p):nJ [bD ps] s=ok (.bl (iT ps)) s:=by
 refine Wp.eq ?_
 unfold nJ
 simp only[VC]
 refine Wp.of (MF hl hf) ?_
 simp only[VC]
 unfold iT
 cases h:js ps with
 |false=>simp
 |true =>
  simp only[if_true,Bool.true_and]
  unfold xV
  simp only[VC,bj]
  refine Wp.of (J4 (J5 h)) ?_
  refine Wp.of (show truth (.lst ((me ps).map fD)) s=ok (!((me ps).map fD).isEmpty) s from rfl) ?_
  simp only[wp_ok]
  refine⟨?_,trivial⟩
  cases me ps<;>rfl
theorem N9 {m:Int}:m∈m4↔0<=m/\m<4:=by
 unfold m4
 rw[List.mem_map]
 constructor
 ·rintro ⟨i,hi,rfl⟩
  have:=List.mem_range.mp hi
  omega
 ·rintro ⟨h1,h2⟩
  exact⟨m.toNat,List.mem_range.mpr (by omega),by omega⟩
theorem mf {m:Int}:m∈k8↔0<=m/\m<8:=by
 unfold k8
 rw[List.mem_map]
 constructor
 ·rintro ⟨i,hi,rfl⟩
  have:=List.mem_range.mp hi
  omega
 ·rintro ⟨h1,h2⟩
  exact⟨m.toNat,List.mem_range.mpr (by omega),by omega⟩
theorem Lk {ps:List Pg} (h:iT ps=true) {m k d l:Int} (hm:0<=m/\m<4) (hk:0<=k/\k<8) (hd:d∈shown ps m k) (h1:d<=l) (h2:l<31):nv ps m k d l=false:=by
 unfold iT at h
 rw[Bool.and_eq_true,List.isEmpty_iff] at h
 cases hc:nv ps m k d l with
 |false=>rfl
 |true =>
  exfalso
  have kq:(d,l)∈ka ps m k:=by
   refine List.mem_flatMap.mpr ⟨d,pG.mpr hd,List.mem_map.mpr ⟨l,List.mem_filter.mpr ⟨?_,hc⟩,rfl⟩⟩
   exact List.mem_map.mpr ⟨(l-d).toNat,List.mem_range.mpr (by omega),by omega⟩
  have:(m,k,d,l)∈me ps:=List.mem_flatMap.mpr ⟨m,N9.mpr hm,List.mem_flatMap.mpr ⟨k,mf.mpr hk,List.mem_map.mpr ⟨(d,l),kq,rfl⟩⟩⟩
  rw[h.2] at this
  cases this
end DI
namespace DI
section
variable (s l m:Nat->Bool)
noncomputable def pr:Nat->Bool
 |0=>s 0
 |d+1=>s (d+1)||(pr d&&!m (d+1))
noncomputable def fk:Nat->Bool
 |0=>false
 |n+1=>(fk n||l (30-n))&&!m (30-n)
noncomputable def br (d:Nat):Bool:=fk l m (31-d)
noncomputable def ab (d:Nat):Bool:=br l m (d+1)||(l d||m d)
theorem Fn {d:Nat} (h:d<=30):br l m d=((br l m (d+1)||l d)&&!m d):=by
 unfold br
 have e1:31-d=(30-d)+1:=by omega
 have e2:31-(d+1)=30-d:=by omega
 rw[e1,e2]
 simp only[fk]
 rw[show 30-(30-d)=d by omega]
theorem Fo:br l m 31=false:=rfl
noncomputable def f0 (d:Nat):Bool:=!s d
noncomputable def t0 (d:Nat):Bool:=!m d&&!l d
noncomputable def fw:Nat->Bool×Bool
 |0=>(f0 s 0,t0 l m 0)
 |d+1=>(f0 s (d+1)&&((fw d).1||(m (d+1)&&((fw d).1||(fw d).2))),t0 l m (d+1)&&((fw d).1||(fw d).2))
noncomputable def pw:Nat->Bool×Bool
 |0=>fw s l m 30
 |n+1=>let q:=pw n;let a:=fw s l m (29-n);(a.1&&(q.2||q.1),a.2&&(q.2||(q.1&&m (30-n))))
noncomputable def bw (d:Nat):Bool×Bool:=pw s l m (30-d)
def DL:Prop:=∀d e,s d=true->d<=e->e<=30->(l e=true\/(e=d/\m d=true))->∃x,d<x/\x<=e/\m x=true
variable {s l m}
theorem xA:∀{d:Nat},pr s m d=true↔∃e,e<=d/\s e=true/\∀x,e<x->x<=d->m x=false
 |0=>by
  simp only[pr]
  constructor
  ·intro h;exact⟨0,Nat.le_refl _,h,λx h1 h2=>by omega⟩
  ·rintro ⟨e,h1,h2,_⟩
   have:e=0:=by omega
   rw[<- this];exact h2
 |d+1=>by
  simp only[pr,Bool.or_eq_true,Bool.and_eq_true,Bool.not_eq_true']
  rw[xA (d:=d)]
  constructor
  ·rintro (h | ⟨⟨e,h1,h2,h3⟩,h4⟩)
   ·exact⟨d+1,Nat.le_refl _,h,λx h1 h2=>by omega⟩
   ·refine⟨e,by omega,h2,λx kz jH=>?_⟩
    by_cases hx:x=d+1
    ·rw[hx];exact h4
    ·exact h3 x kz (by omega)
  ·rintro ⟨e,h1,h2,h3⟩
   by_cases he:e=d+1
   ·left;rw[<- he];exact h2
   ·right
    exact⟨⟨e,by omega,h2,λx kz jH=>h3 x kz (by omega)⟩,h3 (d+1) (by omega) (Nat.le_refl _)⟩
theorem Pl:∀{n:Nat},n<=31->br l m (31-n)=true->∃e,31-n<=e/\e<=30/\l e=true/\∀x,31-n<=x->x<=e->m x=false:=by
 intro n
 induction n with
 |zero=>intro _ h;rw[show 31-0=31 from rfl,Fo] at h;cases h
 |succ n ih =>
  intro hn h
  have e1:31-(n+1)+1=31-n:=by omega
  rw[Fn l m (by omega),e1,Bool.and_eq_true,Bool.or_eq_true,Bool.not_eq_true'] at h
  rcases h.1 with h1|h1
  ·obtain⟨e,q1,q2,q3,q4⟩:=ih (by omega) h1
   refine⟨e,by omega,q2,q3,λx kz jH=>?_⟩
   by_cases hx:x=31-(n+1)
   ·rw[hx];exact h.2
   ·exact q4 x (by omega) jH
  ·refine⟨31-(n+1),Nat.le_refl _,by omega,h1,λx kz jH=>?_⟩
   rw[show x=31-(n+1) by omega];exact h.2
section
variable (N:DL s l m)
include N
theorem xW {d:Nat} (hd:d<=30) (h:pr s m d=true):t0 l m d=true:=by
 obtain⟨e,h1,h2,h3⟩:=xA.mp h
 unfold t0
 rw[Bool.and_eq_true,Bool.not_eq_true',Bool.not_eq_true']
 constructor
 ·cases hm:m d with
  |false=>rfl
  |true =>
   by_cases he:e=d
   ·subst he
    obtain⟨x,q1,q2,_⟩:=N e e h2 (Nat.le_refl _) hd (.inr ⟨rfl,hm⟩)
    omega
   ·have:=h3 d (by omega) (Nat.le_refl _)
    rw[this] at hm;cases hm
 ·cases hl:l d with
  |false=>rfl
  |true =>
   obtain⟨x,q1,q2,q3⟩:=N e d h2 h1 hd (.inl hl)
   rw[h3 x q1 q2] at q3;cases q3
theorem xX:∀{d:Nat},d<=30->fw s l m d=(!pr s m d,t0 l m d)
 |0,_=>rfl
 |d+1,h=>by
  have ih:=xX (d:=d) (by omega)
  have ne:(!pr s m d||t0 l m d)=true:=by
   cases hp:pr s m d with
   |false=>rfl
   |true=>rw[xW N (by omega) hp];rfl
  simp only[fw,ih,ne,Bool.and_true,f0,pr]
  cases s (d+1)<;>cases pr s m d<;>cases m (d+1)<;>simp
theorem xY {d:Nat} (hd:d<=30) (h:pr s m d=true):ab l m d=false:=by
 have ht:=xW N hd h
 unfold t0 at ht
 rw[Bool.and_eq_true,Bool.not_eq_true',Bool.not_eq_true'] at ht
 unfold ab
 rw[ht.1,ht.2]
 cases hb:br l m (d+1) with
 |false=>rfl
 |true =>
  exfalso
  have fK:br l m (31-(30-d))=true:=by rw[show 31-(30-d)=d+1 by omega];exact hb
  obtain⟨e,q1,q2,q3,q4⟩:=Pl (by omega) fK
  obtain⟨c,h1,h2,h3⟩:=xA.mp h
  obtain⟨x,z1,z2,z3⟩:=N c e h2 (by omega) q2 (.inl q3)
  by_cases hx:x<=d
  ·rw[h3 x z1 hx] at z3;cases z3
  ·rw[q4 x (by omega) z2] at z3;cases z3
theorem EJ:∀{n:Nat},n<=30->pw s l m n=(!pr s m (30-n),!ab l m (30-n))
 |0,_=>by
  simp only[pw,xX N (Nat.le_refl 30),Nat.sub_zero]
  congr 1
  unfold ab t0
  rw[Fo]
  cases m 30<;>cases l 30<;>rfl
 |n+1,h=>by
  have ih:=EJ (n:=n) (by omega)
  have R7:29-n=30-(n+1):=by omega
  have R8:30-n=(30-(n+1))+1:=by omega
  generalize hd:30-(n+1)=d at *
  have yN:d+1<=30:=by omega
  simp only[pw,ih,R7,R8,xX N (show d<=30 by omega)]
  have p1:=λz=>xY N yN z
  have p2:=λz=>xW N yN z
  have eb:=Fn l m yN
  congr 1
  ·cases hp:pr s m (d+1) with
   |false=>simp
   |true=>rw[p1 hp];simp
  ·show (t0 l m d&&(!ab l m (d+1)||(!pr s m (d+1)&&m (d+1))))=!(br l m (d+1)||(l d||m d))
   rw[eb]
   unfold ab
   cases hm:m (d+1) with
   |false=>unfold t0;cases m d<;>cases l d<;>cases br l m (d+1+1)<;>cases l (d+1)<;>simp
   |true =>
    have hp:pr s m (d+1)=false:=by
     cases hp:pr s m (d+1) with
     |false=>rfl
     |true=>have:=p2 hp;unfold t0 at this;rw[hm] at this;cases this
    rw[hp]
    unfold t0
    cases m d<;>cases l d<;>simp
theorem Pn {d:Nat} (h:d<=30):bw s l m d=(!pr s m d,!ab l m d):=by
 unfold bw
 rw[EJ N (by omega),show 30-(30-d)=d by omega]
end
end
end DI
namespace DI
open PySem L2 TK
theorem DM:∀{ns:List Int},rise ns=true->ns.Pairwise (· < ·)
 | [],_=>.nil
 | [a],_=>by simp
 |a::b::r,h=>by
  simp only[rise,Bool.and_eq_true,decide_eq_true_eq] at h
  have ih:=DM h.2
  refine List.pairwise_cons.mpr ⟨λx hx=>?_,ih⟩
  rcases List.mem_cons.mp hx with rfl|hx
  ·exact h.1
  ·have:=(List.pairwise_cons.mp ih).1 x hx
   omega
theorem sH {ns:List Int} (h:iy ns=true):dj 8 ns:=by
 unfold iy at h
 rw[Bool.and_eq_true,List.all_eq_true] at h
 refine⟨λx hx=>?_,DM h.2⟩
 have:=h.1 x hx
 unfold markB at this
 simp only[Bool.and_eq_true,decide_eq_true_eq] at this
 exact this
theorem BB {n:Nat} {ns:List Int} (h:dj n ns) (hn:n<=8):iy ns=true:=by
 unfold iy
 rw[Bool.and_eq_true,List.all_eq_true]
 refine⟨λx hx=>?_,MD h.up⟩
 have:=h.lo x hx
 unfold markB
 simp only[Bool.and_eq_true,decide_eq_true_eq]
 omega
theorem dj.filter {n:Nat} {ns:List Int} (h:dj n ns) (p:Int->Bool):dj n (ns.filter p):=⟨λx hx=>h.lo x (List.mem_filter.mp hx).1,h.up.filter p⟩
theorem Ci {m d k:Int} (hm:0<=m/\m<4) (hd:0<=d/\d<31) (hk:0<=k/\k<8):eI (.bL m d k)=true:=by
 simp only[eI,ix,ib,markB,Bool.and_eq_true,decide_eq_true_eq]
 omega
theorem Cj {m d:Int} {h l:List Int} {n:Nat} (hm:0<=m/\m<4) (hd:0<=d/\d<31) (h1:dj n h) (h2:dj n l) (hn:n<=8) (ha:∀x∈h,x∉l):eI (.made m d h l)=true:=by
 simp only[eI,ix,ib,Bool.and_eq_true,decide_eq_true_eq,qa,Bool.not_eq_true',List.any_eq_false]
 exact⟨⟨hm,hd⟩,BB h1 hn,BB h2 hn,ha⟩
theorem Ck {p:Pg} (h:eI p=true):fI p:=by
 cases p with
 |made m d h' l =>
  simp only[eI,Bool.and_eq_true] at h
  exact⟨by have:=(sH h.2.1).len;omega,by have:=(sH h.2.2.1).len;omega⟩
 |bL m d k=>trivial
def cB (W:World) (R:Pg->Prop) (s:ae) (j n:Nat):Prop:=∃ps:List Pg,s[j]?=some (.dT (ps.map λp=>(p.d,hs W p.d)))/\(ps.Nodup/\∀p∈ps,R p)/\ps.length<=n
theorem cB.lt {W:World} {R:Pg->Prop} {s:ae} {j n:Nat} (h:cB W R s j n):j<s.length:=by
 obtain⟨ps,e,_⟩:=h
 exact(List.getElem?_eq_some_iff.mp e).1
theorem cB.ex {W:World} {R:Pg->Prop} {s s':ae} {j n k:Nat} (h:cB W R s j n) (x:Ex k s s') (hj:j≠k):cB W R s' j n:=by
 have hl:=h.lt
 obtain⟨ps,e,r⟩:=h
 exact⟨ps,(x.val j hl hj).trans e,r⟩
theorem cB.more {W:World} {R:Pg->Prop} {s:ae} {j n m:Nat} (h:cB W R s j n) (hm:n<=m):cB W R s j m:=by
 obtain⟨ps,e,r,l⟩:=h
 exact⟨ps,e,r,by omega⟩
theorem cB.app {W:World} {R:Pg->Prop} {s:ae} {j n:Nat} (h:cB W R s j n) (c:List Cell):cB W R (s++c) j n:=by
 have hl:=h.lt
 obtain⟨ps,e,r⟩:=h
 exact⟨ps,by rw[List.getElem?_append_left hl];exact e,r⟩
theorem cB.set {W:World} {R:Pg->Prop} {s:ae} {j n i:Nat} (h:cB W R s j n) (hi:i≠j) (c:Cell):cB W R (s.set i c) j n:=by
 obtain⟨ps,e,r⟩:=h
 exact⟨ps,by rw[List.getElem?_set_ne hi];exact e,r⟩
theorem cB.mono {W:World} {R R':Pg->Prop} {s:ae} {j n:Nat} (h:cB W R s j n) (hR:∀p,R p->R' p):cB W R' s j n:=by
 obtain⟨ps,e,r,l⟩:=h
 exact⟨ps,e,⟨r.1,λp hp=>hR p (r.2 p hp)⟩,l⟩
theorem Ex.ny {k j:Nat} {s s':ae} (h:Ex k s s') (hj:s.length<=j) (c:Cell):Ex k s (s'.set j c) :=
 ⟨by rw[List.length_set];exact h.len,λi hi hk=>by rw[List.getElem?_set_ne (by omega)];exact h.val i hi hk⟩
theorem lT (p:Pg):∃ks,p.d=.tup ks/\cz ks=true/\cJ ks<=6:=by
 have h1:=mz p
 have h2:=xw p
 obtain⟨x,r,e⟩:=CM p
 rw[e] at h1 h2
 simp only[kd,dep] at h1 h2
 exact⟨_,e,h1,by omega⟩
theorem Oa (W:World) (ps:List Pg):(ps.map λp=>(p.d,hs W p.d)).all (keyOk W)=true:=by
 rw[List.all_map,List.all_eq_true]
 intro p _
 obtain⟨ks,e,h1,h2⟩:=lT p
 simp only[Function.comp,keyOk]
 rw[e]
 simp only[h1,decide_eq_true h2,decide_true,Bool.and_self]
theorem xB {W:World} {R:Pg->Prop} {s:ae} {j n:Nat} {p:Pg} (h:cB W R s j n) (hf:R p) (hn:n<1000):∃c,kY W (.aj j) p.d (.bl true) s=some (s.set j c)/\cB W R (s.set j c) j (n+1):=by
 have hl:=h.lt
 obtain⟨ps,e,cZ,len⟩:=h
 obtain⟨ks,ep,k1,k2⟩:=lT p
 have FZ:=Oa W ps
 generalize hk:(ps.map λp=>(p.d,hs W p.d))=ak at e FZ
 have kl:ak.length=ps.length:=by rw[<- hk,List.length_map]
 refine⟨.dT (TK.fH W ak (.tup ks)),?_,?_⟩
 ·rw[ep]
  unfold kY
  simp only[e]
  rw[if_pos]
  rw[k1,decide_eq_true k2,FZ,decide_eq_true (Nat.lt_of_lt_of_le (show ak.length<1000 by omega) (le_size (by decide)))]
  rfl
 ·unfold TK.fH
  split
  ·exact⟨ps,by rw[hk];exact List.getElem?_set_self hl,cZ,by omega⟩
  ·rename_i yX
   refine⟨ps++[p],?_,⟨List.nodup_append.mpr ⟨cZ.1,by simp,λa ha b hb=>?_⟩,λq hq=>?_⟩,by simp;omega⟩
   ·rw[List.getElem?_set_self hl,List.map_append,hk]
    simp only[List.map_cons,List.map_nil,ep]
   ·rw[List.mem_singleton.mp hb]
    rintro rfl
    refine yX (List.any_eq_true.mpr ⟨(a.d,hs W a.d),?_,?_⟩)
    ·rw[<- hk];exact List.mem_map.mpr ⟨a,ha,rfl⟩
    ·rw[<- ep];exact(tV _ _ (mz a) (mz a)).mpr rfl
   ·rcases List.mem_append.mp hq with hq|hq
    ·exact cZ.2 q hq
    ·rw[List.mem_singleton.mp hq];exact hf
theorem tO {W:World} {f fo fi:Env->ae->Res D} {env:Env} {s:ae} {QF:Fl->ae->Prop}:Wp (gX W f fo fi env s) QF=Wp (f env s) λx s=>Wp (fo env s) λd s=>Wp (fi env s) λn s=>∃s',kY W d n x s=some s'/\QF (.nx env) s':=by
 unfold gX
 simp only[bj]
 congr 1;funext x s;congr 1;funext d s;congr 1;funext n s
 cases kY W d n x s with
 |none=>exact propext ⟨λ⟨_,_,e,_⟩=>(by cases e),λ⟨_,e,_⟩=>(by cases e)⟩
 |some s'=>exact propext ⟨λh=>⟨s',rfl,by simpa only [wp_ok] using h⟩,λ⟨t,e,h⟩=>by cases e;simpa only [wp_ok] using h⟩
theorem DN {env:Env} {s:ae} {Q:D->ae->Prop}:Wp (qr env s) Q=Q (.aj s.length) (s++[.dT []]):=by unfold qr;rw[wp_ok]
theorem DO:∀{ps:List Pg},ps.Pairwise (λa b=>dI.lt a b=true)->uy ps=true
 | [],_=>rfl
 | [a],_=>rfl
 |a::b::r,h=>by
  obtain⟨h1,h2⟩:=List.pairwise_cons.mp h
  have ih:=DO h2
  unfold uy at ih |-
  simp only[List.drop_succ_cons,List.drop_zero,List.zip_cons_cons,List.all_cons,Bool.and_eq_true] at ih |-
  exact⟨h1 b List.mem_cons_self,ih⟩
theorem Ll {ps:List Pg} (h:ps.Nodup):(ST.iB dI ps).Pairwise λa b=>dI.lt a b=true:=by
 have h1:=ST.CH (O:=dI) ps
 have h2:(ST.iB dI ps).Nodup:=(ST.sx ps).nodup_iff.mpr h
 refine(h1.and h2).imp λ{a b} rg=>?_
 cases hl:dI.lt a b with
 |true=>rfl
 |false=>exact(rg.2 (dI.rH a b hl rg.1)).elim
theorem DP {W:World} {R:Pg->Prop} {s:ae} {j n:Nat} {env:Env} {Q:D->ae->Prop} (h:cB W R s j n) (hn:n<64) (hj:env[1]?=some (some (.aj j)))
  (q:∀ps:List Pg,(∀p∈ps,R p)->ps.length<=n->(ps.Pairwise λa b=>dI.lt a b=true)->Q (bD ps) s):Wp (eB cv (af (eB l9 (af (eB l7 (af (aa 1) ai)) ai)) ai) env s) Q:=by
 obtain⟨ps,e,cZ,len⟩:=h
 have e1:aa 1 env s=ok (.aj j) s:=by unfold aa;rw[hj]
 have e2:l7 [.aj j] s=ok (.lst (ps.map Pg.d)) s:=by
  unfold l7
  simp only[e]
  rw[if_pos (by rw[List.length_map];exact j9 (by omega)),List.map_map]
  rfl
 have e3:l9 [.lst (ps.map Pg.d)] s=ok (.lst ((ST.iB dI ps).map Pg.d)) s:=by
  unfold l9
  simp only[res]
  rw[if_pos (by rw[List.length_map];omega),CN]
  rfl
 simp only[wp_eB,wp_aCons,wp_aNil]
 refine Wp.of e1 (Wp.of e2 (Wp.of e3 ?_))
 refine Wp.of (show cv [.lst ((ST.iB dI ps).map Pg.d)] s=ok (bD (ST.iB dI ps)) s from rfl) (q _ (λp hp=>cZ.2 p ((ST.sx ps).mem_iff.mp hp)) (by rw[(ST.sx ps).length_eq];exact len) (Ll cZ.1))
theorem Wp.Fp {i j k:Nat} {fa:Env->ae->Res (List D)} {env:Env} {s:ae} {QF:Fl->ae->Prop} (h:Wp (fa env s) λds s=>∃x y z,ds=[x,y,z]/\QF (.nx (((env.set i (some x)).set j (some y)).set k (some z))) s):Wp (qC i j k fa env s) QF:=by
 unfold qC
 refine Wp.au (h.mono λds s ⟨x,y,z,e,q⟩=>?_)
 subst e
 exact Wp.ok q
theorem Po {xs:List Int} {i:Int} {s:ae} (h0:0<=i) (h1:i<xs.length):∃x∈xs,ar (lI xs) (.int i) s=ok (.int x) s:=by
 obtain⟨x,e1,e2⟩:=kP h0 h1
 refine⟨x,List.mem_of_getElem? e2,?_⟩
 simp only[ar,gL,res,lI,DF,e1,Option.map_some,bx]
abbrev kC (p:Pg):Prop:=eI p=true
structure Laid (ps:List Pg):Prop where
 pg:∀p∈ps,eI p=true
 up:ps.Pairwise λa b=>dI.lt a b=true
theorem Laid.js {ps:List Pg} (h:Laid ps) (hl:ps.length<=24):js ps=true:=by
 unfold DI.js
 rw[decide_eq_true hl,List.all_eq_true.mpr h.pg,DO h.up]
 rfl
theorem Laid.sub {ps qs:List Pg} (h:Laid ps) (hs:qs.Sublist ps):Laid qs:=⟨λp hp=>h.pg p (hs.subset hp),h.up.sublist hs⟩
theorem J6 {W:World} {s:ae} {k j n:Nat} {mo la ms:Int} {a5 a6 a7 a8 a9:Option D} {Q:Fl->ae->Prop} (h:bc s k) (hd:cB W kC s j n) (fP:j≠k) (hn:n<1000) (m1:0<mo) (m2:mo<=4) (l1:0<la) (l2:la<=31) (s1:0<ms) (s2:ms<=4)
  (q:∀(b5 b6 b7 b8 b9:Option D) (s':ae),bc s' k->cB W kC s' j (n+1)->(∀s0,s0.length<=j->Ex k s0 s->Ex k s0 s')->Q (.nx [some (.aj k),some (.aj j),some (.int mo),some (.int la),some (.int ms),b5,b6,b7,b8,b9]) s') :
  Wp ((az (qz 6 7 (af (ax ba (af (aa 0) (af (aa 2) ai))) (af (ax ba (af (aa 0) (af (aa 3) ai))) ai))) (bS (aF (e2 aQ (ax ba (af (aa 0) (af (eC (.int 4)) ai))) (eC (.int 0)))) (TK.gX W (eC (.bl true)) (aa 1) (bE (af (eC (.str "mended")) (af (aa 6) (af (aa 7) (af (ax ba (af (aa 0) (af (aa 4) ai))) ai)))))) (az (aO (ax kH (af (aa 0) (af (aa 4) ai))) (gN 8)) (az (aO (eB cv (af (aW 1 [8] (bo (ax kH (af (aa 0) (af (aa 4) ai)))) (gN 0) (aF (e2 dX (aa 0) (aa 1))) (aa 0)) ai)) (gN 9)) (TK.gX W (eC (.bl true)) (aa 1) (bE (af (eC (.str "made")) (af (aa 6) (af (aa 7) (af (bE (af (aa 8) (af (aa 9) ai))) ai)))))))))) [some (.aj k),some (.aj j),some (.int mo),some (.int la),some (.int ms),a5,a6,a7,a8,a9] s) Q:=by
 try simp only[VC]
 refine(cW h m1 (by omega)).mono λd t1 ji=>?_
 obtain⟨x1,rfl,jQ,jR,h1,e1⟩:=ji
 try simp only[VC]
 refine(cW h1 l1 (by omega)).mono λd t2 hd2=>?_
 obtain⟨x2,rfl,nA,nB,h2,e2⟩:=hd2
 try simp only[VC]
 refine(cW h2 (by decide) (by decide)).mono λd t3 Ac=>?_
 obtain⟨x3,rfl,_,_,h3,e3⟩:=Ac
 have d3:=hd.ex (e1.trans (e2.trans e3)) fP
 try simp only[VC]
 split
 ·rw[tO]
  try simp only[VC]
  refine(cW h3 s1 (by omega)).mono λd t4 Ad=>?_
  obtain⟨x4,rfl,R9,Sa,h4,e4⟩:=Ad
  refine⟨by decide,?_⟩
  obtain⟨c,ec,dc⟩:=xB (p:=.bL x1 x2 x4) (d3.ex e4 fP) (Ci (by omega) (by omega) (by omega)) hn
  exact⟨_,ec,q _ _ _ _ _ _ (h4.set fP c) dc λs0 l0 x0=>(x0.trans (e1.trans (e2.trans (e3.trans e4)))).ny l0 c⟩
 ·obtain⟨n4,rfl⟩:∃n4:Nat,ms=n4:=⟨ms.toNat,by omega⟩
  refine(CV h3 (by omega)).mono λd t4 Ad=>?_
  obtain⟨u1,rfl,k1,h4,e4⟩:=Ad
  have hi:∀{env:Env} {t:ae},bc t k->env[0]?=some (some (.aj k))->env[4]?=some (some (.int n4))->Wp (bo (ax kH (af (aa 0) (af (aa 4) ai))) env t) λds t'=>∃ns,ds=ns.map D.int/\dj n4 ns/\bc t' k/\Ex k t t':=λ{env t} ht z0 z4=>by
   obtain⟨d,t',e,ns,rfl,r⟩:=CV (n:=n4) ht (by omega)
   refine Wp.of (jZ (s1:=t') (ds:=ns.map D.int) (Wp.eq ?_)) ⟨ns,rfl,r⟩
   try simp only[VC]
   refine Wp.of (show aa 0 env t=ok (.aj k) t by unfold aa;rw[z0]) (Wp.of (show aa 4 env t=ok (.int n4) t by unfold aa;rw[z4]) (Wp.of e ⟨rfl,rfl⟩))
  try simp only[VC]
  refine(hi h4 rfl rfl).mono λds t5 Sb=>?_
  obtain⟨u2,rfl,k2,h5,e5⟩:=Sb
  refine⟨j9 (by rw[List.length_map];have:=k2.len;omega),?_⟩
  refine Wp.of (iq (λx=>!decide (x∈u1)) (λx=>.int x) u2 λx _=>⟨[some (.int x),some (mD u1)],rfl,?_,λ_=>rfl⟩) ?_
  ·refine Wp.eq ?_
   simp only[VC,Bz,and_self]
  ·refine Wp.of (show cv [.lst ((u2.filter λx=>!decide (x∈u1)).map λx=>.int x)] t5=ok (mD (u2.filter λx=>!decide (x∈u1))) t5 from rfl) ?_
   rw[tO]
   try simp only[VC]
   refine⟨by decide,by decide,?_⟩
   have ll:(u2.filter λx=>!decide (x∈u1)).length<=8:=Nat.le_trans (List.length_filter_le _ _) (by have:=k2.len;omega)
   obtain⟨c,ec,dc⟩:=xB (p:=.made x1 x2 u1 (u2.filter λx=>!decide (x∈u1))) (d3.ex (e4.trans e5) fP) (Cj (by omega) (by omega) k1 (k2.filter _) (by omega) λx hx hl=>by simpa [hx] using (List.mem_filter.mp hl).2) hn
   exact⟨_,ec,q _ _ _ _ _ _ (h5.set fP c) dc λs0 l0 x0=>(x0.trans (e1.trans (e2.trans (e3.trans (e4.trans e5))))).ny l0 c⟩
theorem MG {W:World} {s:ae} {k:Nat} (h:bc s k):Wp (tF W [.aj k] s) λd s'=>∃ps,d=bD ps/\(∀p∈ps,fI p)/\ps.length<=24/\bc s' k/\Ex k s s'/\Laid ps:=by
 have hk:=h.lt
 have fP:s.length≠k:=by omega
 unfold tF
 simp only[wp_fn,wp_sSeq,wp_sAsg,asg_N,aft_nx,DN,List.map_cons,List.map_nil,List.cons_append,List.nil_append,List.length_cons,List.length_nil,List.replicate,true_and,Nat.reduceSub,Nat.reduceAdd,List.set_cons_succ,List.set_cons_zero]
 have d0:cB W kC (s++[.dT []]) s.length 0:=⟨[],by simp,⟨.nil,λ_ h=>(List.not_mem_nil h).elim⟩,Nat.le_refl _⟩
 have h0:bc (s++[.dT []]) k:=h.app _
 refine Wp.Fp ?_
 try simp only[VC]
 refine(cW h0 (by decide) (by decide)).mono λd t1 ji=>?_
 obtain⟨x1,rfl,jQ,jR,h1,e1⟩:=ji
 try simp only[VC]
 refine⟨by decide,?_⟩
 refine(cW h1 (by decide) (by decide)).mono λd t2 hd2=>?_
 obtain⟨x2,rfl,nA,nB,h2,e2⟩:=hd2
 obtain⟨la,GO,Sd⟩:=Po (xs:=[3,8,31]) (s:=t2) nA (by simpa using nB)
 refine Wp.of Sd ?_
 refine(cW h2 (by decide) (by decide)).mono λd t3 Ac=>?_
 obtain⟨x3,rfl,TC,TF,h3,e3⟩:=Ac
 try simp only[VC]
 refine⟨_,_,_,rfl,?_⟩
 try simp only[VC]
 have F0:0<la/\la<=31:=by
  simp only[List.mem_cons,List.not_mem_nil,or_false] at GO
  rcases GO with rfl|rfl|rfl<;>decide
 have dt:=d0.ex (e1.trans (e2.trans e3)) fP
 have ext:Ex k s t3:=(Ex.app k s _).trans (e1.trans (e2.trans e3))
 obtain⟨d4,t4,e4,x4,rfl,R9,Sa,h4,GP⟩:=cW (m:=25) h3 (by decide) (by decide)
 have Se:=dt.ex GP fP
 have QG:=ext.trans GP
 refine Wp.of (tL (s1:=t4) (n:=x4.toNat) (i:=x4) (Wp.eq ?_) (by omega) (by omega)) ?_
 ·simp only[VC]
  exact Wp.of e4 ⟨rfl,rfl⟩
 refine Wp.gK (λi env s'=>i<=x4.toNat->∃b5 b6 b7 b8 b9,env=[some (.aj k),some (.aj s.length),some (.int (1+x1)),some (.int la),some (.int (1+x3)),b5,b6,b7,b8,b9]/\bc s' k/\cB W kC s' s.length i/\Ex k s s') _ (λ_=>⟨_,_,_,_,_,rfl,h4,Se,QG⟩) (λi d env s' hd hI=>?_) (λenv s' hI=>?_)
 ·rw[fZ] at hd
  split at hd
  ·rename_i hi
   cases hd
   obtain⟨b5,b6,b7,b8,b9,rfl,g1,g2,g3⟩:=hI (by omega)
   refine⟨_,rfl,?_⟩
   exact J6 g1 g2 fP (by omega) (by omega) (by omega) F0.1 F0.2 (by omega) (by omega) λc5 c6 c7 c8 c9 s2 k1 k2 k3=>(λ_=>⟨_,_,_,_,_,rfl,k1,k2,k3 s (Nat.le_refl _) g3⟩)
  ·cases hd
 ·rw[cO] at hI
  obtain⟨b5,b6,b7,b8,b9,rfl,g1,g2,g3⟩:=hI (Nat.le_refl _)
  simp only[wp_sRet,aft_nx,fin_rt]
  exact DP (g2.more (m:=24) (by omega)) (by decide) rfl λps hp hl hu=>⟨ps,rfl,λp h=>Ck (hp p h),hl,g1,g3,hp,hu⟩
end DI
namespace DI
open PySem L2 TK
def cC (s:ae) (j n:Nat):Prop:=∃ns:List Int,s[j]?=some (.lst (ns.map D.int))/\ns.length<=n
theorem cC.lt {s:ae} {j n:Nat} (h:cC s j n):j<s.length:=by
 obtain⟨ps,e,_⟩:=h
 exact(List.getElem?_eq_some_iff.mp e).1
theorem cC.ex {s s':ae} {j n k:Nat} (h:cC s j n) (x:Ex k s s') (hj:j≠k):cC s' j n:=by
 have hl:=h.lt
 obtain⟨ps,e,r⟩:=h
 exact⟨ps,(x.val j hl hj).trans e,r⟩
theorem cC.set {s:ae} {j n i:Nat} (h:cC s j n) (hi:i≠j) (c:Cell):cC (s.set i c) j n:=by
 obtain⟨ps,e,r⟩:=h
 exact⟨ps,by rw[List.getElem?_set_ne hi];exact e,r⟩
theorem cC.app {s:ae} {j n:Nat} (h:cC s j n) (c:List Cell):cC (s++c) j n:=by
 have hl:=h.lt
 obtain⟨ps,e,r⟩:=h
 exact⟨ps,by rw[List.getElem?_append_left hl];exact e,r⟩
theorem EK {s:ae} {j n:Nat} {x:Int} (h:cC s j n) (hn:n<1000):hU (.aj j) s=true/\∃c,iE (.aj j) (.int x) s=ok .aA (s.set j c)/\cC (s.set j c) j (n+1):=by
 have hl:=h.lt
 obtain⟨ns,e,len⟩:=h
 refine⟨by simp only[hU,e],.lst ((ns++[x]).map D.int),?_,ns++[x],List.getElem?_set_self hl,by simp;omega⟩
 unfold iE
 simp only[e]
 rw[if_pos (by rw[decide_eq_true_eq,List.length_map];exact Nat.lt_of_lt_of_le (show ns.length<1000 by omega) (le_size (by decide)))]
 simp
theorem C3 {s:ae} {j n:Nat} {x:Int} (h:cC s j n):∃b,dX (.int x) (.aj j) s=ok (.bl b) s:=by
 obtain⟨ns,e,len⟩:=h
 have h2:dX (.int x) (.aj j) s=dX (.int x) (lI ns) s:=by
  simp only[dX,mr,res,e]
 exact⟨_,h2.trans nR⟩
theorem Lm {s:ae} {k m n:Nat} (h:bc s k) (hm:cC s m n) (GQ:m≠k):Wp (nP [.aj k,.aj m] s) λd s'=>∃ds:List Int,d=lI ds/\ds.length<=31/\bc s' k/\Ex k s s':=by
 unfold nP
 rw[wp_fn]
 refine⟨rfl,?_⟩
 rw[wp_sSeq]
 refine Wp.Fp ?_
 try simp only[VC]
 refine(cW h (by decide) (by decide)).mono λd t1 ji=>?_
 obtain⟨x1,rfl,jQ,jR,h1,e1⟩:=ji
 try simp only[VC]
 refine⟨by decide,?_⟩
 have fP:t1.length≠k:=by have:=h1.lt;omega
 refine(cW (h1.app _) (by decide) (by decide)).mono λd t2 hd2=>?_
 obtain⟨x2,rfl,nA,nB,h2,e2⟩:=hd2
 try simp only[VC]
 refine⟨_,_,_,rfl,?_⟩
 try simp only[VC]
 have GR:Ex k s t2:=e1.trans ((Ex.app k t1 _).trans e2)
 have i2:cC t2 t1.length 0:=cC.ex (s:=t1++[Cell.lst []]) ⟨[],by simp,Nat.le_refl _⟩ e2 fP
 have hlen:s.length<=t1.length:=e1.len
 refine Wp.of (eY (n:=31) rfl (by decide)) ?_
 have Sf:m≠t1.length:=by have:=hm.lt;omega
 refine Wp.gK (λi env s'=>i<=31->∃b a5,env=[some (.aj k),some (.aj m),some (.bl b),some (.aj t1.length),some (.int (2+x2)),a5]/\bc s' k/\cC s' t1.length i/\cC s' m n/\Ex k s s') _ (λ_=>⟨_,_,rfl,h2,i2,hm.ex GR GQ,GR⟩) (λi d env s' hd hI=>?_) (λenv s' hI=>?_)
 ·rw[fZ] at hd
  split at hd
  ·rename_i hi
   cases hd
   obtain⟨b,a5,rfl,g1,g2,g3,g4⟩:=hI (by omega)
   refine⟨_,rfl,?_⟩
   simp only[VC]
   have fin:∀(c:Bool) (s2:ae),bc s2 k->cC s2 t1.length i->cC s2 m n->Ex k s s2 ->
     if c=true then hU (.aj t1.length) s2=true/\Wp (iE (.aj t1.length) (.int (0+(i:Int))) s2) λx s3=>i+1<=31->∃b a5,([some (.aj k),some (.aj m),some (.bl c),some (.aj t1.length),some (.int (2+x2)),some (.int (0+(i:Int)))]:Env)=[some (.aj k),some (.aj m),some (.bl b),some (.aj t1.length),some (.int (2+x2)),a5]/\bc s3 k/\cC s3 t1.length (i+1)/\cC s3 m n/\Ex k s s3
     else i+1<=31->∃b a5,([some (.aj k),some (.aj m),some (.bl c),some (.aj t1.length),some (.int (2+x2)),some (.int (0+(i:Int)))]:Env)=[some (.aj k),some (.aj m),some (.bl b),some (.aj t1.length),some (.int (2+x2)),a5]/\bc s2 k/\cC s2 t1.length (i+1)/\cC s2 m n/\Ex k s s2:=λc s2 k1 k2 k3 k4=>by
    cases c with
    |true =>
     obtain⟨q1,cc,q2,q3⟩:=EK (x:=0+(i:Int)) k2 (by omega)
     rw[if_pos rfl]
     exact⟨q1,Wp.of q2 λ_=>⟨_,_,rfl,k1.set fP cc,q3,k3.set (Ne.symm Sf) cc,k4.ny hlen cc⟩⟩
    |false =>
     rw[if_neg Bool.false_ne_true]
     obtain⟨ns,z1,z2⟩:=k2
     exact λ_=>⟨_,_,rfl,k1,⟨ns,z1,by omega⟩,k3,k4⟩
   cases b with
   |true =>
    simp only[if_true]
    obtain⟨b2,eb⟩:=C3 (x:=0+(i:Int)) g3
    refine Wp.of eb ?_
    simp only[wp_truB]
    exact fin b2 s' g1 g2 g3 g4
   |false =>
    simp only[Bool.false_eq_true,if_false]
    refine(cW g1 (by omega) (by omega)).mono λd s2 hd2=>?_
    obtain⟨x3,rfl,_,_,k1,e3⟩:=hd2
    have k2:=g2.ex e3 fP
    have k3:=g3.ex e3 GQ
    have k4:=g4.trans e3
    simp only[wp_eqI,wp_isBl]
    cases (x3==0) with
    |true =>
     simp only[if_true]
     obtain⟨b2,eb⟩:=C3 (x:=0+(i:Int)) k3
     refine Wp.of eb ?_
     simp only[wp_truB]
     exact fin b2 s2 k1 k2 k3 k4
    |false =>
     simp only[Bool.false_eq_true,if_false,wp_truB]
     exact fin false s2 k1 k2 k3 k4
  ·cases hd
 ·rw[cO] at hI
  obtain⟨b,a5,rfl,g1,⟨ns,z1,z2⟩,g3,g4⟩:=hI (Nat.le_refl _)
  simp only[VC]
  refine Wp.of (show cF (.aj t1.length) s'=ok (lI ns) (s'.set t1.length .dead) from by simp only[cF,z1]) ?_
  exact⟨ns,rfl,z2,g1.set fP _,g4.ny hlen _⟩
end DI
namespace DI
open PySem L2 TK
theorem cC.more {s:ae} {j n m:Nat} (h:cC s j n) (hm:n<=m):cC s j m:=by
 obtain⟨ns,e,l⟩:=h
 exact⟨ns,e,by omega⟩
def dJ (s:ae) (j n:Nat):Prop:=∃ls:List (List Int),s[j]?=some (.lst (ls.map lI))/\ls.length=n
theorem dJ.lt {s:ae} {j n:Nat} (h:dJ s j n):j<s.length:=by
 obtain⟨ps,e,_⟩:=h
 exact(List.getElem?_eq_some_iff.mp e).1
theorem dJ.ex {s s':ae} {j n k:Nat} (h:dJ s j n) (x:Ex k s s') (hj:j≠k):dJ s' j n:=by
 have hl:=h.lt
 obtain⟨ps,e,r⟩:=h
 exact⟨ps,(x.val j hl hj).trans e,r⟩
theorem dJ.set {s:ae} {j n i:Nat} (h:dJ s j n) (hi:i≠j) (c:Cell):dJ (s.set i c) j n:=by
 obtain⟨ps,e,r⟩:=h
 exact⟨ps,by rw[List.getElem?_set_ne hi];exact e,r⟩
theorem DQ {s:ae} {j n:Nat} {ds:List Int} (h:dJ s j n) (hn:n<1000):hU (.aj j) s=true/\∃c,iE (.aj j) (lI ds) s=ok .aA (s.set j c)/\dJ (s.set j c) j (n+1):=by
 have hl:=h.lt
 obtain⟨ns,e,len⟩:=h
 refine⟨by simp only[hU,e],.lst ((ns++[ds]).map lI),?_,ns++[ds],List.getElem?_set_self hl,by simp;omega⟩
 unfold iE
 simp only[e]
 rw[if_pos (by rw[decide_eq_true_eq,List.length_map];exact Nat.lt_of_lt_of_le (show ns.length<1000 by omega) (le_size (by decide)))]
 simp
structure BI (W:World) (k j b n q:Nat) (s0 s:ae):Prop where
 st:bc s k
 dict:cB W kC s j n
 bL:∀i,i<8->cC s (b+i) q
 ext:Ex k s0 s
section
variable {W:World} {k j b n q:Nat} {s0 s:ae}
theorem BI.draw (h:BI W k j b n q s0 s) (hj:j≠k) (hb:∀i,i<8->b+i≠k) {s':ae} (x:Ex k s s') (hs:bc s' k):BI W k j b n q s0 s' :=
 ⟨hs,h.dict.ex x hj,λi hi=>(h.bL i hi).ex x (hb i hi),h.ext.trans x⟩
theorem BI.put (h:BI W k j b n q s0 s) (hj:j≠k) (kD:∀i,i<8->b+i≠j) (hl:s0.length<=j) {p:Pg} (hf:eI p=true) (hn:n<1000):∃s',kY W (.aj j) p.d (.bl true) s=some s'/\BI W k j b (n+1) q s0 s'/\Ex j s s':=by
 obtain⟨c,e,d⟩:=xB h.dict hf hn
 exact⟨_,e,⟨h.st.set hj c,d,λi hi=>(h.bL i hi).set (Ne.symm (kD i hi)) c,h.ext.ny hl c⟩,Ex.set j s c⟩
end
noncomputable def memD (b:Nat):D:=.lst ((List.range 8).map λi:Nat=>D.aj (b+i))
theorem EL {b:Nat} {i:Int} {s:ae} (h0:0<=i) (h1:i<8):ar (memD b) (.int i) s=ok (.aj (b+i.toNat)) s:=by
 obtain⟨x,e1,e2⟩:=kP (xs:=(List.range 8).map λi:Nat=>D.aj (b+i)) h0 (by simpa using h1)
 have:x=.aj (b+i.toNat):=by
  rw[List.getElem?_map,List.getElem?_range (by omega)] at e2
  exact(Option.some.inj e2).symm
 subst this
 simp only[ar,gL,res,memD,e1,bx]
theorem J7 {W:World} {k j b n q:Nat} {s0 s:ae} {mo of mu:Int} {a6 a7 a8 a9 gA jS:Option D} {Q:Fl->ae->Prop} (h:BI W k j b n q s0 s) (hj:j≠k) (hb:∀i,i<8->b+i≠k) (kD:∀i,i<8->b+i≠j) (hl:s0.length<=j) (Sg:s0.length<=b) (hn:n<1000) (hq:q<1000) (pA:0<=mu/\mu<4)
  (g:∀(b8 b9:Option D) (s':ae),BI W k j b (n+1) (q+1) s0 s'->(∀t,t<s.length->t≠k->t≠j->(∀i,i<8->b+i≠t)->s'[t]?=s[t]?)->Q (.nx [some (.aj k),some (.aj j),some (.int mo),some (.int of),some (.int mu),some (memD b),a6,a7,b8,b9,gA,jS]) s') :
  Wp ((az (aO (bE (af (ax ba (af (aa 0) (af (eC (.int 8)) ai))) (af (ax ba (af (aa 0) (af (eC (.int 31)) ai))) ai))) (gT [(gN 8),(gN 9)])) (az (fv (gJ (e2 ar (aa 5) (aa 8)) (aa 9))) (TK.gX W (eC (.bl true)) (aa 1) (bE (af (eC (.str "mended")) (af (aa 4) (af (aa 9) (af (aa 8) ai)))))))) [some (.aj k),some (.aj j),some (.int mo),some (.int of),some (.int mu),some (memD b),a6,a7,a8,a9,gA,jS] s) Q:=by
 simp only[VC]
 refine(cW h.st (by decide) (by decide)).mono λd t1 ji=>?_
 obtain⟨x1,rfl,jQ,jR,h1,e1⟩:=ji
 refine(cW h1 (by decide) (by decide)).mono λd t2 hd2=>?_
 obtain⟨x2,rfl,nA,nB,h2,e2⟩:=hd2
 refine⟨by decide,?_⟩
 try simp only[VC]
 refine Wp.of (EL jQ jR) ?_
 have B2:=h.draw hj hb (e1.trans e2) h2
 obtain⟨q1,c,q2,q3⟩:=EK (x:=x2) (B2.bL x1.toNat (by omega)) hq
 refine⟨q1,Wp.of q2 ?_⟩
 have hx:=hb x1.toNat (by omega)
 have Sh:=kD x1.toNat (by omega)
 have B3:BI W k j b n (q+1) s0 (t2.set (b+x1.toNat) c):=⟨B2.st.set hx c,B2.dict.set Sh c,λi hi=>by
  by_cases pk:i=x1.toNat
  ·subst pk;exact q3
  ·exact((B2.bL i hi).set (by omega) c).more (by omega),B2.ext.ny (by omega) c⟩
 rw[tO]
 simp only[VC]
 refine⟨by decide,?_⟩
 obtain⟨s',e,B4,e4⟩:=B3.put hj kD hl (p:=.bL mu x2 x1) (Ci pA ⟨nA,nB⟩ ⟨jQ,jR⟩) hn
 refine⟨s',e,g _ _ _ B4 λt ht Gb Si Sj=>?_⟩
 have l2:s.length<=t2.length:=(e1.trans e2).len
 rw[e4.val t (by rw[List.length_set];omega) Si,List.getElem?_set_ne (Sj _ (by omega)),(e1.trans e2).val t ht Gb]
end DI
namespace DI
open PySem L2 TK
theorem J8 {W:World} {k j b n q:Nat} {s0 s:ae} {mo of mu:Int} {a5 a7 a8 a9 gA jS:Option D} {Q:Fl->ae->Prop} (h:BI W k j b n q s0 s) (L:dJ s (b+8) 8) (hj:j≠k) (hb:∀i,i<8->b+i≠k) (jj:b+8≠k) (kD:∀i,i<8->b+i≠j) (nC:b+8≠j) (hl:s0.length<=j) (hn:n<1000) (o1:0<of) (o2:of<=3) (pA:0<=mu/\mu<4)
  (g:∀(b9 cD eU:Option D) (s':ae),BI W k j b (n+1) q s0 s'->dJ s' (b+8) 8->Q (.nx [some (.aj k),some (.aj j),some (.int mo),some (.int of),some (.int mu),a5,some (.aj (b+8)),a7,a8,b9,cD,eU]) s') :
  Wp ((az (aO (ax ba (af (aa 0) (af (eC (.int 31)) ai))) (gN 9)) (az (aO (aW 1 [0,3] (bF (af (eC (.int 8)) ai)) (gN 0) (aF (e2 aQ (ax ba (af (aa 1) (af (aa 2) ai))) (eC (.int 0)))) (aa 0)) (gN 10)) (az (aO (eB cv (af (aW 1 [9,6] (bo (aa 10)) (gN 0) (aF (e2 cg (aa 1) (e2 ar (aa 2) (aa 0)))) (aa 0)) ai)) (gN 11)) (TK.gX W (eC (.bl true)) (aa 1) (bE (af (eC (.str "made")) (af (aa 4) (af (aa 9) (af (bE (af (aa 11) (af (eB cv (af (aW 1 [9,6] (bo (aa 10)) (gN 0) (aF (e2 dX (aa 1) (e2 ar (aa 2) (aa 0)))) (aa 0)) ai)) ai))) ai))))))))) [some (.aj k),some (.aj j),some (.int mo),some (.int of),some (.int mu),a5,some (.aj (b+8)),a7,a8,a9,gA,jS] s) Q:=by
 rw[wp_sSeq]
 simp only[VC]
 refine(cW h.st (by decide) (by decide)).mono λd t1 ji=>?_
 obtain⟨x1,rfl,jQ,jR,h1,e1⟩:=ji
 have B1:=h.draw hj hb e1 h1
 have L1:=L.ex e1 jj
 try simp only[VC]
 refine Wp.of (eY (n:=8) rfl (by decide)) ⟨by rw[cO];exact le_size (by decide),?_⟩
 have seen:Wp (dY 1 (fx [0,3] [some (.aj k),some (.aj j),some (.int mo),some (.int of),some (.int mu),a5,some (.aj (b+8)),a7,a8,some (.int x1),gA,jS]) (gN 0) (aF (e2 aQ (ax ba (af (aa 1) (af (aa 2) ai))) (eC (.int 0)))) (aa 0) (bM 0 8) t1)
   λxs s'=>∃ns:List Int,xs=ns.map D.int/\(∀x∈ns,0<=x/\x<8)/\(ns.Pairwise (· < ·)/\ns.length<=8)/\BI W k j b n q s0 s'/\dJ s' (b+8) 8:=by
  refine pS (λi acc s'=>i<=8->∃ns:List Int,acc=ns.map D.int/\(∀x∈ns,0<=x/\x<8/\x<i)/\(ns.Pairwise (· < ·)/\ns.length<=i)/\BI W k j b n q s0 s'/\dJ s' (b+8) 8) (bM 0 8) (λ_=>⟨[],rfl,by simp,⟨.nil,Nat.le_refl _⟩,B1,L1⟩) (λi d acc s' hd hI=>?_) λacc s' hI=>?_
  ·rw[fZ] at hd
   split at hd
   ·rename_i hi
    cases hd
    obtain⟨ns,rfl,m1,⟨vq,m2⟩,B,L'⟩:=hI (by omega)
    refine⟨[some (.int (0+i)),some (.aj k),some (.int of)],rfl,?_⟩
    simp only[VC]
    refine(cW B.st o1 (by omega)).mono λd t2 hd2=>?_
    obtain⟨x2,rfl,_,_,h2,e2⟩:=hd2
    try simp only[VC]
    have B':=B.draw hj hb e2 h2
    have L2:=L'.ex e2 jj
    split
    ·exact λ_=>⟨ns++[0+(i:Int)],by simp,λx hx=>by
      rcases List.mem_append.mp hx with hx|hx
      ·have:=m1 x hx;omega
      ·rw[List.mem_singleton.mp hx];omega,⟨List.pairwise_append.mpr ⟨vq,List.pairwise_singleton _ _,λa ha b hb=>by rw[List.mem_singleton.mp hb];have:=m1 a ha;omega⟩,by simp;omega⟩,B',L2⟩
    ·exact λ_=>⟨ns,rfl,λx hx=>by have:=m1 x hx;omega,⟨vq,by omega⟩,B',L2⟩
   ·cases hd
  ·rw[cO] at hI
   obtain⟨ns,e,m1,r⟩:=hI (Nat.le_refl _)
   exact⟨ns,e,λx hx=>⟨(m1 x hx).1,(m1 x hx).2.1⟩,r⟩
 refine seen.mono λxs t2 hx=>?_
 obtain⟨ns,rfl,m1,⟨vq,m2⟩,B2,ls,le,ll⟩:=hx
 have mk:dj 8 ns:=⟨m1,vq⟩
 try simp only[VC]
 have GS:∀x∈ns,∃ds:List Int,ar (.aj (b+8)) (.int x) t2=ok (lI ds) t2:=λx hx=>by
  obtain⟨y,e1,e2⟩:=kP (xs:=ls) (m1 x hx).1 (by have:=(m1 x hx).2;omega)
  refine⟨y,?_⟩
  simp only[ar,gL,res,le,DF,e1,Option.map_some,bx]
 refine Wp.of (jm (ds:=ns.map D.int) rfl) ⟨j9 (by rw[List.length_map];omega),?_⟩
 have pick:∃p:Int->Bool,∀x∈ns,aF (e2 cg (aa 1) (e2 ar (aa 2) (aa 0))) [some (.int x),some (.int x1),some (.aj (b+8))] t2=ok (p x) t2/\aF (e2 dX (aa 1) (e2 ar (aa 2) (aa 0))) [some (.int x),some (.int x1),some (.aj (b+8))] t2=ok (!p x) t2:=by
  refine⟨λx=>if h:x∈ns then decide (x1∈Classical.choose (GS x h)) else false,λx hx=>?_⟩
  have e:=Classical.choose_spec (GS x hx)
  simp only[dif_pos hx]
  constructor
  ·refine Wp.eq ?_
   simp only[VC]
   refine Wp.of e ?_
   simp only[VC,ou,and_self]
  ·refine Wp.eq ?_
   simp only[VC]
   refine Wp.of e ?_
   simp only[VC,nR,and_self]
 obtain⟨p,hp⟩:=pick
 refine Wp.of (iq p (λx=>.int x) ns λx hx=>⟨[some (.int x),some (.int x1),some (.aj (b+8))],rfl,(hp x hx).1,λ_=>rfl⟩) ?_
 refine Wp.of (show cv [.lst ((ns.filter p).map λx=>.int x)] t2=ok (mD (ns.filter p)) t2 from rfl) ?_
 rw[tO]
 simp only[VC]
 refine Wp.of (jm (ds:=ns.map D.int) rfl) ⟨j9 (by rw[List.length_map];omega),?_⟩
 refine Wp.of (iq (λx=>!p x) (λx=>.int x) ns λx hx=>⟨[some (.int x),some (.int x1),some (.aj (b+8))],rfl,(hp x hx).2,λ_=>rfl⟩) ?_
 refine Wp.of (show cv [.lst ((ns.filter λx=>!p x).map λx=>.int x)] t2=ok (mD (ns.filter λx=>!p x)) t2 from rfl) ?_
 refine⟨by decide,by decide,?_⟩
 obtain⟨s',e,B4,e4⟩:=B2.put hj kD hl (p:=.made mu x1 (ns.filter p) (ns.filter λx=>!p x)) (Cj pA ⟨jQ,jR⟩ (mk.filter _) (mk.filter _) (Nat.le_refl _) λx hx hl=>by simpa [(List.mem_filter.mp hx).2] using (List.mem_filter.mp hl).2) hn
 exact⟨s',e,g _ _ _ _ B4 (dJ.ex (⟨ls,le,ll⟩:dJ t2 (b+8) 8) e4 nC)⟩
theorem J9 {W:World} {k j b n q i:Nat} {s0 s:ae} {mo of mu:Int} {a7 a9 gA jS:Option D} {Q:Fl->ae->Prop} (h:BI W k j b n q s0 s) (L:dJ s (b+8) i) (hi:i<8) (hj:j≠k) (hb:∀i,i<8->b+i≠k) (jj:b+8≠k) (nC:b+8≠j) (Sg:s0.length<=b)
  (g:∀s',BI W k j b n q s0 s'->dJ s' (b+8) (i+1)->Q (.nx [some (.aj k),some (.aj j),some (.int mo),some (.int of),some (.int mu),some (memD b),some (.aj (b+8)),a7,some (.int i),a9,gA,jS]) s') :
  Wp ((fv (gJ (aa 6) (ax nP (af (aa 0) (af (e2 ar (aa 5) (aa 8)) ai))))) [some (.aj k),some (.aj j),some (.int mo),some (.int of),some (.int mu),some (memD b),some (.aj (b+8)),a7,some (.int i),a9,gA,jS] s) Q:=by
 simp only[VC]
 obtain⟨q1,_⟩:=DQ (ds:=[]) L (by omega)
 refine⟨q1,?_⟩
 refine Wp.of (EL (i:=(i:Int)) (by omega) (by omega)) ?_
 rw[Int.toNat_natCast]
 refine(Lm h.st (h.bL i hi) (hb i hi)).mono λd t1 hd=>?_
 obtain⟨ds,rfl,_,h1,e1⟩:=hd
 obtain⟨_,c,q2,q3⟩:=DQ (ds:=ds) (L.ex e1 jj) (by omega)
 have B1:=h.draw hj hb e1 h1
 refine Wp.of q2 (g _ ⟨B1.st.set jj c,B1.dict.set nC c,λi hi=>(B1.bL i hi).set (by omega) c,B1.ext.ny (by omega) c⟩ q3)
end DI
namespace DI
open PySem L2 TK
theorem MH {env:Env} {s:ae} {Q:D->ae->Prop} (q:Q (memD s.length) (s++List.replicate 8 (.lst []))):Wp (aW 1 [] (bF (af (eC (.int 8)) ai)) (gN 0) cx (eNew ai) env s) Q:=by
 rw[wp_comp]
 refine Wp.of (eY (n:=8) rfl (by decide)) ⟨by rw[cO];exact le_size (by decide),?_⟩
 refine pS (λi acc s'=>acc=(List.range i).map (λx:Nat=>D.aj (s.length+x))/\s'=s++List.replicate i (.lst [])) (bM 0 8) ⟨rfl,by simp⟩ (λi d acc s' hd hI=>?_) λacc s' hI=>?_
 ·obtain⟨rfl,rfl⟩:=hI
  rw[fZ] at hd
  split at hd
  ·cases hd
   refine⟨[some (.int (0+i))],rfl,?_⟩
   refine Wp.of (show cx _ _=ok true _ from rfl) ?_
   rw[if_pos rfl]
   simp only[wp_new,wp_aNil]
   refine⟨by decide,?_,?_⟩
   ·rw[List.range_succ,List.map_append]
    simp
   ·rw[List.replicate_succ',List.append_assoc]
  ·cases hd
 ·rw[cO] at hI
  obtain⟨rfl,rfl⟩:=hI
  exact q
theorem Ja {W:World} {k j n:Nat} {s0 s:ae} {mo of mu:Int} {a5 a6 a7 a8 a9 gA jS:Option D} {Q:Fl->ae->Prop} (h:bc s k) (hd:cB W kC s j n) (x0:Ex k s0 s) (hj:j≠k) (hl:s0.length<=j) (hn:n<900) (o1:0<of) (o2:of<=3) (pA:0<=mu/\mu<4)
  (g:∀(b5 b6 b7 b8 b9 cD eU:Option D) (s':ae),bc s' k->cB W kC s' j (n+7)->Ex k s0 s'->Q (.nx [some (.aj k),some (.aj j),some (.int mo),some (.int of),some (.int mu),b5,b6,b7,b8,b9,cD,eU]) s') :
  Wp ((az (aO (bE (af (aW 1 [] (bF (af (eC (.int 8)) ai)) (gN 0) cx (eNew ai)) (af (eNew ai) ai))) (gT [(gN 5),(gN 6)])) (az (dG (bF (af (ax ba (af (aa 0) (af (eC (.int 4)) ai))) ai)) (gN 7) (az (aO (bE (af (ax ba (af (aa 0) (af (eC (.int 8)) ai))) (af (ax ba (af (aa 0) (af (eC (.int 31)) ai))) ai))) (gT [(gN 8),(gN 9)])) (az (fv (gJ (e2 ar (aa 5) (aa 8)) (aa 9))) (TK.gX W (eC (.bl true)) (aa 1) (bE (af (eC (.str "mended")) (af (aa 4) (af (aa 9) (af (aa 8) ai))))))))) (az (dG (bF (af (eC (.int 8)) ai)) (gN 8) (fv (gJ (aa 6) (ax nP (af (aa 0) (af (e2 ar (aa 5) (aa 8)) ai)))))) (dG (bF (af (ax ba (af (aa 0) (af (eC (.int 5)) ai))) ai)) (gN 7) (az (aO (ax ba (af (aa 0) (af (eC (.int 31)) ai))) (gN 9)) (az (aO (aW 1 [0,3] (bF (af (eC (.int 8)) ai)) (gN 0) (aF (e2 aQ (ax ba (af (aa 1) (af (aa 2) ai))) (eC (.int 0)))) (aa 0)) (gN 10)) (az (aO (eB cv (af (aW 1 [9,6] (bo (aa 10)) (gN 0) (aF (e2 cg (aa 1) (e2 ar (aa 2) (aa 0)))) (aa 0)) ai)) (gN 11)) (TK.gX W (eC (.bl true)) (aa 1) (bE (af (eC (.str "made")) (af (aa 4) (af (aa 9) (af (bE (af (aa 11) (af (eB cv (af (aW 1 [9,6] (bo (aa 10)) (gN 0) (aF (e2 dX (aa 1) (e2 ar (aa 2) (aa 0)))) (aa 0)) ai)) ai))) ai))))))))))))) [some (.aj k),some (.aj j),some (.int mo),some (.int of),some (.int mu),a5,a6,a7,a8,a9,gA,jS] s) Q:=by
 have hk:=h.lt
 have TH:=hd.lt
 have nj:s0.length<=s.length:=x0.len
 rw[wp_sSeq]
 simp only[wp_sAsg,wp_tup,wp_aCons,wp_aNil]
 refine MH ?_
 simp only[wp_new,wp_aNil]
 refine⟨by decide,le_size (by simp only[List.length_cons,List.length_nil];decide),?_⟩
 simp only[asg_T,asg_cons,asg_nil,List.set_cons_succ,List.set_cons_zero,aft_nx]
 generalize fL:s++List.replicate 8 (Cell.lst [])++[Cell.lst []]=s1
 have Sm:(s++List.replicate 8 (Cell.lst [])).length=s.length+8:=by simp
 rw[Sm]
 have e1:Ex k s s1:=by rw[<- fL,List.append_assoc];exact Ex.app k s _
 have B1:BI W k j s.length n 0 s0 s1:=by
  refine⟨by rw[<- fL,List.append_assoc];exact h.app _,hd.ex e1 hj,λi hi=>⟨[],?_,Nat.le_refl _⟩,x0.trans e1⟩
  rw[<- fL,List.append_assoc,List.getElem?_append_right (by omega),List.getElem?_append_left (by simp;omega),show s.length+i-s.length=i by omega,List.getElem?_replicate,if_pos hi]
  rfl
 have L1:dJ s1 (s.length+8) 0:=⟨[],by rw[<- fL,List.getElem?_append_right (by simp)];simp,rfl⟩
 have hb:∀i,i<8->s.length+i≠k:=λi _=>by omega
 have kD:∀i,i<8->s.length+i≠j:=λi _=>by omega
 have jj:s.length+8≠k:=by omega
 have nC:s.length+8≠j:=by omega
 have l1:s.length+8<s1.length:=L1.lt
 rw[wp_sSeq,wp_sFor]
 obtain⟨_,t1,et,x1,rfl,jQ,jR,h1,GU⟩:=cW (m:=4) B1.st (by decide) (by decide)
 refine Wp.of (tL (s1:=t1) (n:=x1.toNat) (i:=x1) (Wp.eq (by simp only[VC];exact Wp.of et ⟨rfl,rfl⟩)) (by omega) (by omega)) ?_
 have B2:=B1.draw hj hb GU h1
 have L2:=L1.ex GU jj
 refine Wp.gK (λi env s'=>i<=x1.toNat->∃b7 b8 b9 cD eU,env=[some (.aj k),some (.aj j),some (.int mo),some (.int of),some (.int mu),some (memD s.length),some (.aj (s.length+8)),b7,b8,b9,cD,eU]/\BI W k j s.length (n+i) i s0 s'/\dJ s' (s.length+8) 0) _ (λ_=>⟨_,_,_,_,_,rfl,B2,L2⟩) (λi d env s' hd hI=>?_) (λenv s' hI=>?_)
 ·rw[fZ] at hd
  split at hd
  ·cases hd
   obtain⟨b7,b8,b9,cD,eU,rfl,B,L⟩:=hI (by omega)
   refine⟨_,rfl,?_⟩
   exact J7 B hj hb kD hl nj (by omega) (by omega) pA λc8 c9 s2 B' keep=>(λ_=>⟨_,_,_,_,_,rfl,B',by
    obtain⟨ls,le,ll⟩:=L
    exact⟨ls,(keep _ (List.getElem?_eq_some_iff.mp le).1 jj nC λi hi=>by omega).trans le,ll⟩⟩)
  ·cases hd
 rw[cO] at hI
 obtain⟨b7,b8,b9,cD,eU,rfl,B3,L3⟩:=hI (Nat.le_refl _)
 rw[aft_nx,wp_sSeq,wp_sFor]
 refine Wp.of (eY (n:=8) rfl (by decide)) ?_
 refine Wp.gK (λi env s'=>i<=8->∃b7 b8 b9 cD eU,env=[some (.aj k),some (.aj j),some (.int mo),some (.int of),some (.int mu),some (memD s.length),some (.aj (s.length+8)),b7,b8,b9,cD,eU]/\BI W k j s.length (n+x1.toNat) x1.toNat s0 s'/\dJ s' (s.length+8) i) _ (λ_=>⟨_,_,_,_,_,rfl,B3,L3⟩) (λi d env s' hd hI=>?_) (λenv s' hI=>?_)
 ·rw[fZ] at hd
  split at hd
  ·rename_i hi
   cases hd
   obtain⟨b7,b8,b9,cD,eU,rfl,B,L⟩:=hI (by omega)
   refine⟨_,rfl,?_⟩
   simp only[Int.zero_add,List.set_cons_succ,List.set_cons_zero]
   exact J9 B L hi hj hb jj nC nj λs2 B' L'=>(λ_=>⟨_,_,_,_,_,rfl,B',L'⟩)
  ·cases hd
 rw[cO] at hI
 obtain⟨b7,b8,b9,cD,eU,rfl,B4,L4⟩:=hI (Nat.le_refl _)
 rw[aft_nx,wp_sFor]
 obtain⟨_,t5,Sn,x5,rfl,TJ,TL,h5,GV⟩:=cW (m:=5) B4.st (by decide) (by decide)
 refine Wp.of (tL (s1:=t5) (n:=x5.toNat) (i:=x5) (Wp.eq (by simp only[VC];exact Wp.of Sn ⟨rfl,rfl⟩)) (by omega) (by omega)) ?_
 have B5:=B4.draw hj hb GV h5
 have L5:=L4.ex GV jj
 refine Wp.gK (λi env s'=>i<=x5.toNat->∃b7 b8 b9 cD eU,env=[some (.aj k),some (.aj j),some (.int mo),some (.int of),some (.int mu),some (memD s.length),some (.aj (s.length+8)),b7,b8,b9,cD,eU]/\BI W k j s.length (n+x1.toNat+i) x1.toNat s0 s'/\dJ s' (s.length+8) 8) _ (λ_=>⟨_,_,_,_,_,rfl,B5,L5⟩) (λi d env s' hd hI=>?_) (λenv s' hI=>?_)
 ·rw[fZ] at hd
  split at hd
  ·rename_i hi
   cases hd
   obtain⟨b7,b8,b9,cD,eU,rfl,B,L⟩:=hI (by omega)
   refine⟨_,rfl,?_⟩
   exact J8 B L hj hb jj kD nC hl (by omega) o1 o2 pA λc9 GW So s2 B' L'=>(λ_=>⟨_,_,_,_,_,rfl,B',L'⟩)
  ·cases hd
 rw[cO] at hI
 obtain⟨b7,b8,b9,cD,eU,rfl,B6,L6⟩:=hI (Nat.le_refl _)
 exact g _ _ _ _ _ _ _ _ B6.st (B6.dict.more (by omega)) B6.ext
theorem MI {W:World} {s:ae} {k:Nat} (h:bc s k):Wp (tD W [.aj k] s) λd s'=>∃ps,d=bD ps/\(∀p∈ps,fI p)/\ps.length<=24/\bc s' k/\Ex k s s'/\Laid ps:=by
 have hk:=h.lt
 have fP:s.length≠k:=by omega
 unfold tD
 rw[wp_fn]
 refine⟨rfl,?_⟩
 rw[wp_sSeq]
 simp only[wp_sAsg,wp_tup,wp_aCons,wp_aNil,DN]
 have d0:cB W kC (s++[.dT []]) s.length 0:=⟨[],by simp,⟨.nil,λ_ h=>(List.not_mem_nil h).elim⟩,Nat.le_refl _⟩
 have h0:bc (s++[.dT []]) k:=h.app _
 try simp only[VC]
 refine(cW h0 (by decide) (by decide)).mono λd t1 ji=>?_
 obtain⟨x1,rfl,jQ,jR,h1,e1⟩:=ji
 try simp only[VC]
 refine(cW h1 (by decide) (by decide)).mono λd t2 hd2=>?_
 obtain⟨x2,rfl,nA,nB,h2,e2⟩:=hd2
 try simp only[VC]
 refine⟨by decide,?_⟩
 have dt:=d0.ex (e1.trans e2) fP
 have ext:Ex k s t2:=(Ex.app k s _).trans (e1.trans e2)
 try simp only[VC]
 refine Wp.of (tL (s1:=t2) (n:=(1+x1).toNat) (i:=1+x1) rfl (by omega) (by omega)) ?_
 refine Wp.gK (λi env s'=>i<=(1+x1).toNat->∃b4 b5 b6 b7 b8 b9 cD eU,env=[some (.aj k),some (.aj s.length),some (.int (1+x1)),some (.int (1+x2)),b4,b5,b6,b7,b8,b9,cD,eU]/\bc s' k/\cB W kC s' s.length (7*i)/\Ex k s s') _ (λ_=>⟨_,_,_,_,_,_,_,_,rfl,h2,dt,ext⟩) (λi d env s' hd hI=>?_) (λenv s' hI=>?_)
 ·rw[fZ] at hd
  split at hd
  ·rename_i hi
   cases hd
   obtain⟨b4,b5,b6,b7,b8,b9,cD,eU,rfl,g1,g2,g3⟩:=hI (by omega)
   refine⟨_,rfl,?_⟩
   exact Ja g1 g2 g3 fP (Nat.le_refl _) (by omega) (by omega) (by omega) (by omega) λc5 c6 c7 c8 c9 GW So s2 k1 k2 k3=>(λ_=>⟨_,_,_,_,_,_,_,_,rfl,k1,k2.more (by omega),k3⟩)
  ·cases hd
 ·rw[cO] at hI
  obtain⟨b4,b5,b6,b7,b8,b9,cD,eU,rfl,g1,g2,g3⟩:=hI (Nat.le_refl _)
  simp only[wp_sRet,aft_nx,fin_rt]
  exact DP (g2.more (m:=24) (by omega)) (by decide) rfl λps hp hl hu=>⟨ps,rfl,λp h=>Ck (hp p h),hl,g1,g3,hp,hu⟩
end DI
namespace DI
open PySem L2 TK
section
variable (ps:List Pg) (m k:Int)
noncomputable def sN (d:Nat):Bool:=decide ((d:Int)∈shown ps m k)
noncomputable def lN (d:Nat):Bool:=decide ((d:Int)∈cP ps m k)
noncomputable def mN (d:Nat):Bool:=decide ((d:Int)∈cb ps m k)
noncomputable def gB:List Int:=((List.range 31).filter λd=>pr (sN ps m k) (mN ps m k) d).map λd:Nat=>(d:Int)
noncomputable def fQ:List Int:=((List.range 31).filter λn=>ab (lN ps m k) (mN ps m k) (30-n)).map λn:Nat=>((30-n:Nat):Int)
end
theorem MJ {ps:List Pg} (h:iT ps=true) {m k:Int} (hm:0<=m/\m<4) (hk:0<=k/\k<8):DL (sN ps m k) (lN ps m k) (mN ps m k):=by
 intro d e hs TM he hc
 simp only[sN,lN,mN,decide_eq_true_eq] at hs hc
 have c:=Lk h hm hk hs (l:=(e:Int)) (by omega) (by omega)
 unfold nv at c
 have c1:(decide ((e:Int)∈cP ps m k)||(decide ((e:Int)=(d:Int))&&decide ((d:Int)∈cb ps m k)))=true:=by
  rcases hc with hc | ⟨h1,h2⟩
  ·rw[decide_eq_true hc];rfl
  ·rw[decide_eq_true (show (e:Int)=d by omega),decide_eq_true h2];simp
 rw[c1,Bool.true_and,Bool.not_eq_false'] at c
 unfold yM at c
 obtain⟨x,hx,hb⟩:=List.any_eq_true.mp c
 simp only[Bool.and_eq_true,decide_eq_true_eq] at hb
 refine⟨x.toNat,by omega,by omega,?_⟩
 simp only[mN,decide_eq_true_eq]
 rw[show ((x.toNat:Nat):Int)=x by omega]
 exact hx
theorem MK {ps:List Pg} {m k:Int} {d:Nat} (h:d<=30):decide ((d:Int)∈gB ps m k)=pr (sN ps m k) (mN ps m k) d:=by
 have:(d:Int)∈gB ps m k↔pr (sN ps m k) (mN ps m k) d=true:=by
  unfold gB
  rw[List.mem_map]
  constructor
  ·rintro ⟨e,he,hd⟩
   have:e=d:=by omega
   rw[<- this]
   exact(List.mem_filter.mp he).2
  ·intro hp
   exact⟨d,List.mem_filter.mpr ⟨List.mem_range.mpr (by omega),hp⟩,rfl⟩
 cases hp:pr (sN ps m k) (mN ps m k) d with
 |true=>exact decide_eq_true (this.mpr hp)
 |false=>exact decide_eq_false λz=>by rw[this.mp z] at hp;cases hp
theorem ML {ps:List Pg} {m k:Int} {d:Nat} (h:d<=30):decide ((d:Int)∈fQ ps m k)=ab (lN ps m k) (mN ps m k) d:=by
 have:(d:Int)∈fQ ps m k↔ab (lN ps m k) (mN ps m k) d=true:=by
  unfold fQ
  rw[List.mem_map]
  constructor
  ·rintro ⟨e,he,hd⟩
   obtain⟨h1,h2⟩:=List.mem_filter.mp he
   have:=List.mem_range.mp h1
   have:30-e=d:=by omega
   rw[<- this]
   exact h2
  ·intro hp
   exact⟨30-d,List.mem_filter.mpr ⟨List.mem_range.mpr (by omega),by rw[show 30-(30-d)=d by omega];exact hp⟩,by omega⟩
 cases hp:ab (lN ps m k) (mN ps m k) d with
 |true=>exact decide_eq_true (this.mpr hp)
 |false=>exact decide_eq_false λz=>by rw[this.mp z] at hp;cases hp
theorem DR {s:ae} {ns:List Int} {x:Int} (hn:ns.length<1000):hU (.aj s.length) (s++[.lst (ns.map D.int)])=true/\iE (.aj s.length) (.int x) (s++[.lst (ns.map D.int)])=ok .aA (s++[.lst ((ns++[x]).map D.int)]):=by
 have e:(s++[Cell.lst (ns.map D.int)])[s.length]?=some (.lst (ns.map D.int)):=by simp
 refine⟨by simp only[hU,e],?_⟩
 unfold iE
 simp only[e]
 rw[if_pos (by rw[decide_eq_true_eq,List.length_map];exact Nat.lt_of_lt_of_le hn (le_size (by decide)))]
 simp[List.set_append_right]
theorem DT {s:ae} {ns:List Int}:cF (.aj s.length) (s++[.lst (ns.map D.int)])=ok (lI ns) (s++[.dead]):=by
 have e:(s++[Cell.lst (ns.map D.int)])[s.length]?=some (.lst (ns.map D.int)):=by simp
 simp only[cF,e]
 simp[List.set_append_right]
theorem BC {p:Nat->Bool} {f:Nat->Int} {i:Nat}:((List.range (i+1)).filter p).map f=((List.range i).filter p).map f++(if p i=true then [f i] else []):=by
 rw[List.range_succ,List.filter_append,List.map_append]
 congr 1
 cases h:p i<;>simp[h]
theorem Cm {p:Nat->Bool} {f:Nat->Int} {i:Nat}:(((List.range i).filter p).map f).length<=i:=by
 rw[List.length_map]
 exact Nat.le_trans (List.length_filter_le _ _) (by rw[List.length_range];exact Nat.le_refl _)
noncomputable def pv (s m:Nat->Bool):Nat->Bool
 |0=>false
 |i+1=>pr s m i
theorem Jb {ps:List Pg} {m k:Int} {s:ae} (hl:ps.length<=1000):rS [bD ps,.int m,.int k] s=ok (lI (gB ps m k)) (s++[.dead]):=by
 refine Wp.eq ?_
 unfold rS
 simp only[VC]
 refine Wp.of (tN hl).1 ?_
 refine Wp.of (wZ hl) ?_
 try simp only[VC]
 refine⟨by decide,?_⟩
 refine Wp.of (eY (n:=31) rfl (by decide)) ?_
 refine Wp.gK (λi env s'=>i<=31->∃a7,env=[some (bD ps),some (.int m),some (.int k),some (lI (shown ps m k)),some (lI (cb ps m k)),some (.aj s.length),some (.bl (pv (sN ps m k) (mN ps m k) i)),a7]/\s'=s++[.lst ((((List.range i).filter λd=>pr (sN ps m k) (mN ps m k) d).map λd:Nat=>(d:Int)).map D.int)]) _ (λ_=>⟨_,rfl,rfl⟩) (λi d env s' hd hI=>?_) (λenv s' hI=>?_)
 ·rw[fZ] at hd
  split at hd
  ·rename_i hi
   cases hd
   obtain⟨a7,rfl,rfl⟩:=hI (by omega)
   refine⟨_,rfl,?_⟩
   have e0:(0:Int)+(i:Int)=i:=by omega
   have key:(decide ((i:Int)∈shown ps m k)||(pv (sN ps m k) (mN ps m k) i&&!decide ((i:Int)∈cb ps m k)))=pr (sN ps m k) (mN ps m k) i:=by
    cases i with
    |zero=>simp[pv,pr,sN]
    |succ i=>rfl
   have fin:∀c:Bool,c=pr (sN ps m k) (mN ps m k) i->if c=true then hU (.aj s.length) (s++[.lst ((((List.range i).filter λd=>pr (sN ps m k) (mN ps m k) d).map λd:Nat=>(d:Int)).map D.int)])=true/\Wp (iE (.aj s.length) (.int (0+(i:Int))) (s++[.lst ((((List.range i).filter λd=>pr (sN ps m k) (mN ps m k) d).map λd:Nat=>(d:Int)).map D.int)])) λx s'=>i+1<=31->∃a7,([some (bD ps),some (.int m),some (.int k),some (lI (shown ps m k)),some (lI (cb ps m k)),some (.aj s.length),some (.bl c),some (.int (0+(i:Int)))]:Env)=[some (bD ps),some (.int m),some (.int k),some (lI (shown ps m k)),some (lI (cb ps m k)),some (.aj s.length),some (.bl (pv (sN ps m k) (mN ps m k) (i+1))),a7]/\s'=s++[.lst ((((List.range (i+1)).filter λd=>pr (sN ps m k) (mN ps m k) d).map λd:Nat=>(d:Int)).map D.int)]
     else i+1<=31->∃a7,([some (bD ps),some (.int m),some (.int k),some (lI (shown ps m k)),some (lI (cb ps m k)),some (.aj s.length),some (.bl c),some (.int (0+(i:Int)))]:Env)=[some (bD ps),some (.int m),some (.int k),some (lI (shown ps m k)),some (lI (cb ps m k)),some (.aj s.length),some (.bl (pv (sN ps m k) (mN ps m k) (i+1))),a7]/\s++[.lst ((((List.range i).filter λd=>pr (sN ps m k) (mN ps m k) d).map λd:Nat=>(d:Int)).map D.int)]=s++[.lst ((((List.range (i+1)).filter λd=>pr (sN ps m k) (mN ps m k) d).map λd:Nat=>(d:Int)).map D.int)]:=λc hc=>by
    rw[BC]
    have hv:pv (sN ps m k) (mN ps m k) (i+1)=c:=hc.symm
    rw[hv,<- hc]
    cases c with
    |true =>
     rw[if_pos rfl]
     obtain⟨q1,q2⟩:=DR (s:=s) (ns:=((List.range i).filter λd=>pr (sN ps m k) (mN ps m k) d).map λd:Nat=>(d:Int)) (x:=0+(i:Int)) (Nat.lt_of_le_of_lt Cm (by omega))
     exact⟨q1,Wp.of q2 λ_=>⟨_,rfl,by rw[e0];rfl⟩⟩
    |false =>
     rw[if_neg Bool.false_ne_true]
     exact λ_=>⟨_,rfl,by simp⟩
   simp only[VC,ou,e0]
   rw[e0] at fin
   by_cases c1:(i:Int)∈shown ps m k
   ·simp only[c1,decide_true,if_true]
    exact fin true (by rw[<- key,decide_eq_true c1];rfl)
   ·simp only[c1,decide_false,Bool.false_eq_true,if_false]
    cases hp:pv (sN ps m k) (mN ps m k) i with
    |false =>
     simp only[VC,Bool.false_eq_true,if_false]
     exact fin false (by rw[<- key,decide_eq_false c1,hp];rfl)
    |true =>
     simp only[VC,if_true,nR]
     exact fin _ (by rw[<- key,decide_eq_false c1,hp];rfl)
  ·cases hd
 ·rw[cO] at hI
  obtain⟨a7,rfl,rfl⟩:=hI (Nat.le_refl _)
  simp only[VC]
  exact Wp.of DT ⟨rfl,rfl⟩
end DI
namespace DI
open PySem L2 TK
noncomputable def downs:List D:=(List.range 31).map λn:Nat=>D.int ((30-n:Nat):Int)
theorem Ob {env:Env} {s:ae}:zS (af (eC (.int 31)) ai) env s=ok downs s:=by
 have:(bM 0 31).reverse=downs:=by rfl
 rw[<- this]
 rfl
theorem Ka {i:Nat}:downs[i]?=if i<31 then some (.int ((30-i:Nat):Int)) else none:=by
 unfold downs
 rw[List.getElem?_map]
 by_cases h:i<31
 ·rw[if_pos h,List.getElem?_range h];rfl
 ·rw[if_neg h,List.getElem?_eq_none (by simpa using h)];rfl
noncomputable abbrev gP (ps:List Pg) (m k:Int) (i:Nat):List Int:=((List.range i).filter λn=>ab (lN ps m k) (mN ps m k) (30-n)).map λn:Nat=>((30-n:Nat):Int)
theorem Kb {ps:List Pg} {m k:Int} {s:ae} (hl:ps.length<=1000):rW [bD ps,.int m,.int k] s=ok (lI (fQ ps m k)) (s++[.dead]):=by
 refine Wp.eq ?_
 unfold rW
 simp only[VC]
 refine Wp.of (tN hl).2 ?_
 refine Wp.of (wZ hl) ?_
 try simp only[VC]
 refine⟨by decide,?_⟩
 refine Wp.of Ob ?_
 refine Wp.gK (λi env s'=>i<=31->∃a7,env=[some (bD ps),some (.int m),some (.int k),some (lI (cP ps m k)),some (lI (cb ps m k)),some (.aj s.length),some (.bl (fk (lN ps m k) (mN ps m k) i)),a7]/\s'=s++[.lst ((gP ps m k i).map D.int)]) _ (λ_=>⟨_,rfl,rfl⟩) (λi d env s' hd hI=>?_) (λenv s' hI=>?_)
 ·rw[Ka] at hd
  split at hd
  ·rename_i hi
   cases hd
   obtain⟨a7,rfl,rfl⟩:=hI (by omega)
   refine⟨_,rfl,?_⟩
   generalize hd:((30-i:Nat):Int)=d
   have ea:ab (lN ps m k) (mN ps m k) (30-i)=(fk (lN ps m k) (mN ps m k) i||(decide (d∈cP ps m k)||decide (d∈cb ps m k))):=by
    unfold ab br lN mN
    rw[show 31-(30-i+1)=i by omega,hd]
   have eb:fk (lN ps m k) (mN ps m k) (i+1)=((fk (lN ps m k) (mN ps m k) i||decide (d∈cP ps m k))&&!decide (d∈cb ps m k)):=by
    show ((fk _ _ i||lN ps m k (30-i))&&!mN ps m k (30-i))=_
    unfold lN mN
    rw[hd]
   have sec:∀s2,s2=s++[.lst ((gP ps m k (i+1)).map D.int)]->Wp (aO (de (jI (aa 6) (e2 cg (aa 7) (aa 3))) (e2 dX (aa 7) (aa 4))) (gN 6) [some (bD ps),some (.int m),some (.int k),some (lI (cP ps m k)),some (lI (cb ps m k)),some (.aj s.length),some (.bl (fk (lN ps m k) (mN ps m k) i)),some (.int d)] s2) λfl s'=>match fl with
     | .nx env=>i+1<=31->∃a7,env=[some (bD ps),some (.int m),some (.int k),some (lI (cP ps m k)),some (lI (cb ps m k)),some (.aj s.length),some (.bl (fk (lN ps m k) (mN ps m k) (i+1))),a7]/\s'=s++[.lst ((gP ps m k (i+1)).map D.int)]
     | .ct env=>i+1<=31->∃a7,env=[some (bD ps),some (.int m),some (.int k),some (lI (cP ps m k)),some (lI (cb ps m k)),some (.aj s.length),some (.bl (fk (lN ps m k) (mN ps m k) (i+1))),a7]/\s'=s++[.lst ((gP ps m k (i+1)).map D.int)]
     | .bk env=>nu (aS (jy (aa 5))) (qD λa s'=>a=lI (fQ ps m k)/\s'=s++[.dead]) (.nx env) s'
     | .rt d=>nu (aS (jy (aa 5))) (qD λa s'=>a=lI (fQ ps m k)/\s'=s++[.dead]) (.rt d) s':=λs2 dw=>by
    simp only[VC,ou,nR]
    rw[eb]
    cases fk (lN ps m k) (mN ps m k) i with
    |true =>
     simp only[VC,if_true,nR]
     exact λ_=>⟨some (.int d),by simp,dw⟩
    |false =>
     simp only[Bool.false_eq_true,if_false,Bool.false_or]
     by_cases c:d∈cP ps m k
     ·simp only[VC,c,decide_true,if_true,nR]
      exact λ_=>⟨some (.int d),by simp,dw⟩
     ·simp only[c,decide_false,Bool.false_eq_true,if_false]
      exact λ_=>⟨some (.int d),by simp,dw⟩
   have GX:=DR (s:=s) (ns:=gP ps m k i) (x:=d) (Nat.lt_of_le_of_lt Cm (by omega))
   have st:gP ps m k (i+1)=gP ps m k i++(if ab (lN ps m k) (mN ps m k) (30-i)=true then [d] else []):=by
    rw[<- hd]
    exact BC
   have yes:ab (lN ps m k) (mN ps m k) (30-i)=true->Wp (fv (gJ (aa 5) (aa 7)) [some (bD ps),some (.int m),some (.int k),some (lI (cP ps m k)),some (lI (cb ps m k)),some (.aj s.length),some (.bl (fk (lN ps m k) (mN ps m k) i)),some (.int d)] (s++[.lst ((gP ps m k i).map D.int)])) λfl s'=>fl=.nx [some (bD ps),some (.int m),some (.int k),some (lI (cP ps m k)),some (lI (cb ps m k)),some (.aj s.length),some (.bl (fk (lN ps m k) (mN ps m k) i)),some (.int d)]/\s'=s++[.lst ((gP ps m k (i+1)).map D.int)]:=λha=>by
    simp only[VC]
    refine⟨GX.1,Wp.of GX.2 ?_⟩
    rw[st,ha]
    simp
   have no:ab (lN ps m k) (mN ps m k) (30-i)=false->s++[Cell.lst ((gP ps m k i).map D.int)]=s++[Cell.lst ((gP ps m k (i+1)).map D.int)]:=λha=>by
    rw[st,ha]
    simp
   have go:∀{c:Bool},c=ab (lN ps m k) (mN ps m k) (30-i)->∀{Q:Fl->ae->Prop},(∀s2,s2=s++[.lst ((gP ps m k (i+1)).map D.int)]->Q (.nx [some (bD ps),some (.int m),some (.int k),some (lI (cP ps m k)),some (lI (cb ps m k)),some (.aj s.length),some (.bl (fk (lN ps m k) (mN ps m k) i)),some (.int d)]) s2)->if c=true then Wp (fv (gJ (aa 5) (aa 7)) [some (bD ps),some (.int m),some (.int k),some (lI (cP ps m k)),some (lI (cb ps m k)),some (.aj s.length),some (.bl (fk (lN ps m k) (mN ps m k) i)),some (.int d)] (s++[.lst ((gP ps m k i).map D.int)])) Q else Wp (cu [some (bD ps),some (.int m),some (.int k),some (lI (cP ps m k)),some (lI (cb ps m k)),some (.aj s.length),some (.bl (fk (lN ps m k) (mN ps m k) i)),some (.int d)] (s++[.lst ((gP ps m k i).map D.int)])) Q:=λ{c} hc {Q} q=>by
    cases c with
    |true =>
     rw[if_pos rfl]
     exact(yes hc.symm).mono λfl s2 ⟨e1,e2⟩=>by subst e1;exact q s2 e2
    |false =>
     rw[if_neg Bool.false_ne_true,wp_sNil]
     exact q _ (no hc.symm)
   rw[wp_sSeq,wp_sIf]
   simp only[wp_tOr,wp_tru,wp_loc0,wp_locS,wp_truB,wp_tBl,wp_e2,ou,wp_ok,wp_isBl,List.set_cons_succ,List.set_cons_zero]
   rw[ea] at go
   cases hb:fk (lN ps m k) (mN ps m k) i with
   |true =>
    simp only[if_true]
    rw[hb] at go sec
    exact go (c:=true) rfl λs2 h2=>sec s2 h2
   |false =>
    simp only[Bool.false_eq_true,if_false]
    rw[hb] at go sec
    by_cases c:d∈cP ps m k
    ·simp only[c,decide_true,if_true]
     exact go (c:=true) (by simp[c]) λs2 h2=>sec s2 h2
    ·simp only[c,decide_false,Bool.false_eq_true,if_false]
     exact go (by simp[c]) λs2 h2=>sec s2 h2
  ·cases hd
 ·rw[show downs.length=31 from rfl] at hI
  obtain⟨a7,rfl,rfl⟩:=hI (Nat.le_refl _)
  simp only[VC]
  exact Wp.of DT ⟨rfl,rfl⟩
end DI
namespace DI
open PySem L2 TK
noncomputable def nD (F:Int->List Int):D:=.lst (k8.map λk=>lI (F k))
theorem Oc {F:Int->List Int} {k:Int} {s:ae} (h:0<=k/\k<8):ar (nD F) (.int k) s=ok (lI (F k)) s:=by
 obtain⟨x,e1,e2⟩:=kP (xs:=k8.map λk=>lI (F k)) h.1 (by show k<8;exact h.2)
 have:x=lI (F k):=by
  rw[List.getElem?_map] at e2
  have e3:k8[k.toNat]?=some k:=by
   unfold k8
   rw[List.getElem?_map,List.getElem?_range (by omega)]
   simp
   omega
  rw[e3] at e2
  exact(Option.some.inj e2).symm
 subst this
 simp only[ar,gL,res,nD,e1,bx]
theorem yO:bM 0 8=k8.map D.int:=rfl
theorem Fq {F:Int->List Int} {d:Int} {s:ae}:pF [nD F,.int d] s=ok (mD (k8.filter λk=>decide (d∈F k))) s:=by
 refine Wp.eq ?_
 unfold pF
 simp only[VC]
 refine Wp.of (eY (n:=8) rfl (by decide)) ⟨by rw[cO];exact le_size (by decide),?_⟩
 rw[yO]
 refine Wp.of (iq (λk=>decide (d∈F k)) (λk=>.int k) k8 λk hk=>⟨[some (.int k),some (.int d),some (nD F)],rfl,?_,λ_=>rfl⟩) ?_
 ·refine Wp.eq ?_
  simp only[VC]
  refine Wp.of (Oc (mf.mp hk)) ?_
  simp only[VC,ou,and_self]
 ·exact Wp.of (show cv [.lst ((k8.filter λk=>decide (d∈F k)).map λk=>.int k)] s=ok (mD (k8.filter λk=>decide (d∈F k))) s from rfl) ⟨rfl,rfl⟩
noncomputable def fY:List Int:=(List.range 31).map λi:Nat=>(i:Int)
theorem Fs:bM 0 31=fY.map D.int:=by unfold fY;rw[wY,List.map_map];congr 1;funext i;simp
noncomputable def mB (P A:Int->List Int) (d:Int):D:=.tup [mD (k8.filter λk=>decide (d∈P k)),mD (k8.filter λk=>decide (d∈A k))]
theorem DU {fn:List D->ae->Res D} {F:Int->List Int} {b:D} {mu:Int} (hf:∀k s,fn [b,.int mu,.int k] s=ok (lI (F k)) (s++[.dead])) {env:Env} {s:ae} (e0:env[0]?=some (some b)) (e1:env[1]?=some (some (.int mu))) {Q:D->ae->Prop} (q:∀c,Q (nD F) (s++c)) :
  Wp (aW 1 [0,1] (bF (af (eC (.int (8))) ai)) (gN 0) cx (ax fn (af (aa 1) (af (aa 2) (af (aa 0) ai)))) env s) Q:=by
 rw[wp_comp]
 refine Wp.of (eY (n:=8) rfl (by decide)) ⟨by rw[cO];exact le_size (by decide),?_⟩
 have ec:fx [0,1] env=[some b,some (.int mu)]:=by simp[fx,e0,e1]
 rw[ec]
 refine pS (λi acc s'=>i<=8->acc=((List.range i).map λi:Nat=>(i:Int)).map (λk=>lI (F k))/\∃c,s'=s++c) (bM 0 8) (λ_=>⟨rfl,[],by simp⟩) (λi d acc s' hd hI=>?_) λacc s' hI=>?_
 ·rw[fZ] at hd
  split at hd
  ·rename_i hi
   cases hd
   obtain⟨rfl,c,rfl⟩:=hI (by omega)
   refine⟨[some (.int (0+i)),some b,some (.int mu)],rfl,?_⟩
   refine Wp.of (show cx _ _=ok true _ from rfl) ?_
   rw[if_pos rfl]
   simp only[VC]
   refine Wp.of (hf (0+(i:Int)) _) λ_=>⟨?_,c++[.dead],by simp⟩
   rw[List.range_succ,List.map_append,List.map_append]
   simp
  ·cases hd
 ·rw[cO] at hI
  obtain⟨rfl,c,rfl⟩:=hI (Nat.le_refl _)
  exact q c
theorem MM {ps:List Pg} {m:Int} {s:ae} (hl:ps.length<=1000):Wp (rX [bD ps,.int m] s) λd s'=>d=.lst (fY.map (mB (gB ps m) (fQ ps m)))/\∃c,s'=s++c:=by
 unfold rX
 rw[wp_fn]
 refine⟨rfl,?_⟩
 rw[wp_sSeq,wp_sAsg]
 refine DU (b:=bD ps) (mu:=m) (λk s=>Jb hl) rfl rfl λc=>?_
 simp only[asg_N,List.map_cons,List.map_nil,List.cons_append,List.nil_append,List.replicate,Nat.reduceSub,List.set_cons_succ,List.set_cons_zero,aft_nx]
 rw[wp_sSeq,wp_sAsg]
 refine DU (b:=bD ps) (mu:=m) (λk s=>Kb hl) rfl rfl λc'=>?_
 simp only[asg_N,List.set_cons_succ,List.set_cons_zero,aft_nx,wp_sRet,wp_comp,fin_rt]
 refine Wp.of (eY (n:=31) rfl (by decide)) ⟨by rw[cO];exact le_size (by decide),?_⟩
 rw[Fs]
 refine Wp.of (iq (λ_=>true) (mB (gB ps m) (fQ ps m)) fY λd hd=>⟨[some (.int d),some (nD (gB ps m)),some (nD (fQ ps m))],rfl,rfl,λ_=>?_⟩) ?_
 ·refine Wp.eq ?_
  simp only[VC]
  refine Wp.of Fq ?_
  refine Wp.of Fq ?_
  exact⟨by decide,rfl,rfl⟩
 ·rw[filter_tt]
  exact⟨rfl,c++c',by simp⟩
theorem Kc {ps:List Pg} {m d:Int} {s:ae} (hl:ps.length<=1000) (hf:∀p∈ps,fI p) (hb:iT ps=true) (hm:0<=m/\m<4) (hd:0<=d/\d<31):Wp (nQ [bD ps,.int m,.int d] s) λx s'=>x=mB (gB ps m) (fQ ps m) d/\∃c,s'=s++c:=by
 unfold nQ
 have n1:∀s,sm [bD ps] s=ok .aA s:=λs=>by
  refine Wp.eq ?_
  unfold sm
  simp only[VC]
  refine Wp.of (DK hl hf) ?_
  rw[hb]
  simp only[VC,Bool.not_true,Bool.false_eq_true,if_false,and_self]
 have n2:∀s,sd [.int m] s=ok .aA s:=λs=>by
  refine Wp.eq ?_
  unfold sd
  simp only[VC]
  refine Wp.of wx ?_
  rw[show ix m=true by unfold ix;simp[hm]]
  simp only[VC,Bool.not_true,Bool.false_eq_true,if_false,and_self]
 have n3:∀s,sC [.int d] s=ok .aA s:=λs=>by
  refine Wp.eq ?_
  unfold sC
  simp only[VC]
  refine Wp.of xy ?_
  rw[show ib d=true by unfold ib;simp[hd]]
  simp only[VC,Bool.not_true,Bool.false_eq_true,if_false,and_self]
 simp only[VC]
 refine Wp.of (n1 _) (Wp.of (n2 _) (Wp.of (n3 _) ?_))
 refine(MM hl).mono λx s' hx=>?_
 obtain⟨rfl,c,rfl⟩:=hx
 obtain⟨x,e1,e2⟩:=kP (xs:=fY.map (mB (gB ps m) (fQ ps m))) hd.1 (by show d<31;exact hd.2)
 have:x=mB (gB ps m) (fQ ps m) d:=by
  rw[List.getElem?_map] at e2
  have e3:fY[d.toNat]?=some d:=by
   unfold fY
   rw[List.getElem?_map,List.getElem?_range (by omega)]
   simp
   omega
  rw[e3] at e2
  exact(Option.some.inj e2).symm
 subst this
 refine Wp.of (show ar (.lst (fY.map (mB (gB ps m) (fQ ps m)))) (.int d) (s++c)=ok (mB (gB ps m) (fQ ps m) d) (s++c) by simp only[ar,gL,res,e1,bx]) ⟨rfl,c,rfl⟩
end DI
namespace DI
open PySem L2 TK
noncomputable def ic (x:Bool×Bool):List Bool:=(if x.1=true then [false] else [])++(if x.2=true then [true] else [])
noncomputable abbrev eR (x:Bool×Bool):D:=.lst ((ic x).map D.bl)
theorem Il (x:Bool×Bool) (p:Bool->Bool):(ic x).filter p=ic (x.1&&p false,x.2&&p true):=by
 obtain⟨f,t⟩:=x
 cases f<;>cases t<;>cases h1:p false<;>cases h2:p true<;>simp[ic,h1,h2]
noncomputable abbrev Rw:=Nat->Bool×Bool
noncomputable abbrev qt (R:Rw):Cell:=.lst ((List.range 31).map λd=>eR (R d))
noncomputable abbrev dZ (F:Nat->Bool):Cell:=.lst ((List.range 32).map λd=>D.bl (F d))
noncomputable abbrev bO (s:ae) (R:Rw) (F:Nat->Bool):ae:=s++[qt R,dZ F]
noncomputable def cS {α:Type} (R:Nat->α) (d:Nat) (x:α):Nat->α:=λe=>if e=d then x else R e
theorem yP (s:ae) (R:Rw) (F:Nat->Bool):(bO s R F)[s.length]?=some (qt R):=by simp[bO]
theorem F1 (s:ae) (R:Rw) (F:Nat->Bool):(bO s R F)[s.length+1]?=some (dZ F):=by simp[bO]
theorem w6 {α:Type} {n:Nat} {f:Nat->α} {d:Int} (h0:0<=d) (h1:d<n):dA ((List.range n).map f) d=some (f d.toNat):=by
 obtain⟨x,e1,e2⟩:=kP (xs:=(List.range n).map f) h0 (by simpa using h1)
 rw[List.getElem?_map,List.getElem?_range (by omega)] at e2
 rw[e1]
 exact e2.symm
theorem qb {s:ae} {R:Rw} {F:Nat->Bool} {d:Int} (h0:0<=d) (h1:d<31):ar (.aj s.length) (.int d) (bO s R F)=ok (eR (R d.toNat)) (bO s R F):=by
 simp only[ar,gL,res,yP,w6 h0 h1,bx]
theorem DW {s:ae} {R:Rw} {F:Nat->Bool} {d:Int} (h0:0<=d) (h1:d<32):ar (.aj (s.length+1)) (.int d) (bO s R F)=ok (.bl (F d.toNat)) (bO s R F):=by
 simp only[ar,gL,res,F1,w6 h0 h1,bx]
theorem DY {α:Type} {n d:Nat} {f:Nat->α} {x:α}:((List.range n).map f).set d x=(List.range n).map (cS f d x):=by
 apply List.ext_getElem?
 intro i
 by_cases hi:i<n
 ·by_cases e:d=i
  ·subst e
   rw[List.getElem?_set_self (by simpa using hi),List.getElem?_map,List.getElem?_range hi]
   simp[cS]
  ·rw[List.getElem?_set_ne e,List.getElem?_map,List.getElem?_map,List.getElem?_range hi]
   simp[cS,Ne.symm e]
 ·rw[List.getElem?_eq_none (by simpa using hi),List.getElem?_eq_none (by simpa using hi)]
theorem EM {n:Nat} {d:Int} (h0:0<=d) (h1:d<n):fg n d=some d.toNat:=by
 unfold fg
 rw[if_pos h0,if_pos h1]
theorem C4 {α β:Type} {f:Nat->α} {g:α->β} {d:Nat} {x:α}:(λe=>g (cS f d x e))=cS (λe=>g (f e)) d (g x):=by
 funext e
 unfold cS
 split<;>rfl
theorem tQ {s:ae} {R:Rw} {F:Nat->Bool} {d:Int} {x:Bool×Bool} (h0:0<=d) (h1:d<31):gj (.aj s.length) (.int d) (eR x) (bO s R F)=some (bO s (cS R d.toNat x) F):=by
 have e:qt (cS R d.toNat x)=.lst (((List.range 31).map λd=>eR (R d)).set d.toNat (eR x)):=by
  rw[DY]
  show Cell.lst ((List.range 31).map λe=>eR (cS R d.toNat x e))=_
  rw[C4 (g:=eR)]
 rw[show bO s (cS R d.toNat x) F=s++[qt (cS R d.toNat x),dZ F] from rfl,e]
 simp only[gj,yP,List.length_map,List.length_range,EM h0 h1]
 simp[bO,List.set_append_right]
theorem Ln {s:ae} {R:Rw} {F:Nat->Bool} {d:Int} {x:Bool} (h0:0<=d) (h1:d<32):gj (.aj (s.length+1)) (.int d) (.bl x) (bO s R F)=some (bO s R (cS F d.toNat x)):=by
 have e:dZ (cS F d.toNat x)=.lst (((List.range 32).map λd=>D.bl (F d)).set d.toNat (.bl x)):=by
  rw[DY]
  show Cell.lst ((List.range 32).map λe=>D.bl (cS F d.toNat x e))=_
  rw[C4 (g:=D.bl)]
 rw[show bO s R (cS F d.toNat x)=s++[qt R,dZ (cS F d.toNat x)] from rfl,e]
 simp only[gj,F1,List.length_map,List.length_range,EM h0 h1]
 simp[bO,List.set_append_right]
theorem tR {t:Env->ae->Res Bool} {caps:Env} {s:ae} {x:Bool×Bool} (p:Bool->Bool) (h:∀b,t (some (.bl b)::caps) s=ok (p b) s):dY 1 caps (gN 0) t (aa 0) ((ic x).map D.bl) s=ok ((ic (x.1&&p false,x.2&&p true)).map D.bl) s:=by
 rw[comp_map D.bl p D.bl (ic x) λb _=>⟨some (.bl b)::caps,rfl,h b,λ_=>rfl⟩,Il]
theorem sX (x:Bool×Bool):((ic x).map D.bl).length<=sizeLine:=by
 refine j9 ?_
 obtain⟨f,t⟩:=x
 cases f<;>cases t<;>simp[ic]
noncomputable def fJ (m k:Int) (x:Rw×(Nat->Bool)) (p:Pg):Rw×(Nat->Bool):=match p with
 | .bL m' d k'=>if (decide (m'=m)&&decide (k'=k))=true then (cS x.1 d.toNat ((x.1 d.toNat).1,false),cS x.2 d.toNat true) else x
 | .made m' d h l=>if (decide (m'=m)&&decide (k∈h++l))=true then (cS x.1 d.toNat ((x.1 d.toNat).1&&!decide (k∈h),(x.1 d.toNat).2&&decide (k∈h)),x.2) else x
theorem Lo {p:Pg} {ps:List Pg} {m k:Int} {s:ae} {R:Rw} {F:Nat->Bool} {a6 a7 a8:Option D} {Q:Fl->ae->Prop} (hd:0<=p.day/\p.day<31) (hf:fI p)
  (q:Q (.nx [some (bD ps),some (.int m),some (.int k),some (.aj s.length),some (.aj (s.length+1)),some p.d,a6,a7,a8]) (bO s (fJ m k (R,F) p).1 (fJ m k (R,F) p).2)) :
  Wp ((az (bS (cm (aF (e2 aQ (e2 ar (aa 5) (eC (.int 0))) (eC (.str "mended")))) (cm (aF (e2 aQ (e2 ar (aa 5) (eC (.int 1))) (aa 1))) (aF (e2 aQ (e2 ar (aa 5) (eC (.int 3))) (aa 2))))) (az (fT (aW 1 [] (bo (e2 ar (aa 3) (e2 ar (aa 5) (eC (.int 2))))) (gN 0) (ei (cR (aa 0))) (aa 0)) (aa 3) (e2 ar (aa 5) (eC (.int 2)))) (fT (eC (.bl true)) (aa 4) (e2 ar (aa 5) (eC (.int 2))))) cu) (bS (cm (aF (e2 aQ (e2 ar (aa 5) (eC (.int 0))) (eC (.str "made")))) (cm (aF (e2 aQ (e2 ar (aa 5) (eC (.int 1))) (aa 1))) (aF (e2 cg (aa 2) (e2 cI (e2 ar (e2 ar (aa 5) (eC (.int 3))) (eC (.int 0))) (e2 ar (e2 ar (aa 5) (eC (.int 3))) (eC (.int 1)))))))) (fT (aW 1 [2,5] (bo (e2 ar (aa 3) (e2 ar (aa 5) (eC (.int 2))))) (gN 0) (aF (e2 aQ (aa 0) (e2 cg (aa 1) (e2 ar (e2 ar (aa 2) (eC (.int 3))) (eC (.int 0)))))) (aa 0)) (aa 3) (e2 ar (aa 5) (eC (.int 2)))) cu)) [some (bD ps),some (.int m),some (.int k),some (.aj s.length),some (.aj (s.length+1)),some p.d,a6,a7,a8] (bO s R F)) Q:=by
 have row:∀{R:Rw} {F:Nat->Bool},bo (e2 ar (aa 3) (e2 ar (aa 5) (eC (.int 2)))) [some (bD ps),some (.int m),some (.int k),some (.aj s.length),some (.aj (s.length+1)),some p.d,a6,a7,a8] (bO s R F)=ok ((ic (R p.day.toNat)).map D.bl) (bO s R F):=λ{R F}=>by
  refine jm (Wp.eq ?_)
  simp only[VC,(lJ p _).2]
  exact Wp.of (qb hd.1 hd.2) ⟨rfl,rfl⟩
 cases p with
 |bL m' d k' =>
  have t1:cm (aF (e2 aQ (e2 ar (aa 5) (eC (.int 0))) (eC (.str "mended")))) (cm (aF (e2 aQ (e2 ar (aa 5) (eC (.int 1))) (aa 1))) (aF (e2 aQ (e2 ar (aa 5) (eC (.int 3))) (aa 2)))) [some (bD ps),some (.int m),some (.int k),some (.aj s.length),some (.aj (s.length+1)),some (Pg.bL m' d k').d,a6,a7,a8] (bO s R F)=ok (decide (m'=m)&&decide (k'=k)) (bO s R F):=by
   refine Wp.eq ?_
   simp only[VC,Pg.d,(dU _ _ _ _ _).1,(dU _ _ _ _ _).2.1,(dU _ _ _ _ _).2.2.2,il,decide_true,if_true]
   by_cases e:m'=m
   ·by_cases e2:k'=k<;>simp[e,e2]
   ·simp[e]
  have t2:∀st,cm (aF (e2 aQ (e2 ar (aa 5) (eC (.int 0))) (eC (.str "made")))) (cm (aF (e2 aQ (e2 ar (aa 5) (eC (.int 1))) (aa 1))) (aF (e2 cg (aa 2) (e2 cI (e2 ar (e2 ar (aa 5) (eC (.int 3))) (eC (.int 0))) (e2 ar (e2 ar (aa 5) (eC (.int 3))) (eC (.int 1))))))) [some (bD ps),some (.int m),some (.int k),some (.aj s.length),some (.aj (s.length+1)),some (Pg.bL m' d k').d,a6,a7,a8] st=ok false st:=λst=>by
   refine Wp.eq ?_
   simp only[VC,Pg.d,(dU _ _ _ _ _).1,il,decide_eq_false tM,Bool.false_eq_true,if_false,and_self]
  have fin:∀st,Q (.nx [some (bD ps),some (.int m),some (.int k),some (.aj s.length),some (.aj (s.length+1)),some (Pg.bL m' d k').d,a6,a7,a8]) st->Wp (bS (cm (aF (e2 aQ (e2 ar (aa 5) (eC (.int 0))) (eC (.str "made")))) (cm (aF (e2 aQ (e2 ar (aa 5) (eC (.int 1))) (aa 1))) (aF (e2 cg (aa 2) (e2 cI (e2 ar (e2 ar (aa 5) (eC (.int 3))) (eC (.int 0))) (e2 ar (e2 ar (aa 5) (eC (.int 3))) (eC (.int 1)))))))) (fT (aW 1 [2,5] (bo (e2 ar (aa 3) (e2 ar (aa 5) (eC (.int 2))))) (gN 0) (aF (e2 aQ (aa 0) (e2 cg (aa 1) (e2 ar (e2 ar (aa 2) (eC (.int 3))) (eC (.int 0)))))) (aa 0)) (aa 3) (e2 ar (aa 5) (eC (.int 2)))) cu [some (bD ps),some (.int m),some (.int k),some (.aj s.length),some (.aj (s.length+1)),some (Pg.bL m' d k').d,a6,a7,a8] st) Q:=λst q=>by
   rw[wp_sIf]
   refine Wp.of (t2 st) ?_
   rw[if_neg Bool.false_ne_true,wp_sNil]
   exact q
  rw[wp_sSeq,wp_sIf]
  refine Wp.of t1 ?_
  unfold fJ at q
  cases hc:(decide (m'=m)&&decide (k'=k)) with
  |false =>
   simp only[hc,Bool.false_eq_true,if_false] at q
   rw[if_neg Bool.false_ne_true,wp_sNil,aft_nx]
   exact fin _ q
  |true =>
   simp only[hc,if_true] at q
   rw[if_pos rfl,wp_sSeq,wp_sSub,wp_comp]
   refine Wp.of row ⟨sX _,?_⟩
   refine Wp.of (tR (λb=>!b) λb=>rfl) ?_
   simp only[wp_loc0,wp_locS,wp_e2,wp_C,(lJ (Pg.bL m' d k') _).2,wp_ok]
   refine⟨_,tQ hd.1 hd.2,?_⟩
   rw[aft_nx,wp_sSub]
   simp only[wp_loc0,wp_locS,wp_e2,wp_C,(lJ (Pg.bL m' d k') _).2,wp_ok]
   refine⟨_,Ln hd.1 (by have:=hd.2;omega),?_⟩
   rw[aft_nx]
   refine fin _ ?_
   simpa [TK.Pg.day] using q
 |made m' d h l =>
  have t1:∀st,cm (aF (e2 aQ (e2 ar (aa 5) (eC (.int 0))) (eC (.str "mended")))) (cm (aF (e2 aQ (e2 ar (aa 5) (eC (.int 1))) (aa 1))) (aF (e2 aQ (e2 ar (aa 5) (eC (.int 3))) (aa 2)))) [some (bD ps),some (.int m),some (.int k),some (.aj s.length),some (.aj (s.length+1)),some (Pg.made m' d h l).d,a6,a7,a8] st=ok false st:=λst=>by
   refine Wp.eq ?_
   simp only[VC,Pg.d,(dU _ _ _ _ _).1,il,decide_eq_false DJ,Bool.false_eq_true,if_false,and_self]
  have t2:cm (aF (e2 aQ (e2 ar (aa 5) (eC (.int 0))) (eC (.str "made")))) (cm (aF (e2 aQ (e2 ar (aa 5) (eC (.int 1))) (aa 1))) (aF (e2 cg (aa 2) (e2 cI (e2 ar (e2 ar (aa 5) (eC (.int 3))) (eC (.int 0))) (e2 ar (e2 ar (aa 5) (eC (.int 3))) (eC (.int 1))))))) [some (bD ps),some (.int m),some (.int k),some (.aj s.length),some (.aj (s.length+1)),some (Pg.made m' d h l).d,a6,a7,a8] (bO s R F)=ok (decide (m'=m)&&decide (k∈h++l)) (bO s R F):=by
   refine Wp.eq ?_
   simp only[VC,Pg.d,(dU _ _ _ _ _).1,(dU _ _ _ _ _).2.1,(dU _ _ _ _ _).2.2.2,il,decide_true,if_true]
   by_cases e:m'=m
   ·simp only[VC,e,beq_self_eq_true,if_true,(rM _ _ _).1,(rM _ _ _).2,decide_true,Bool.true_and]
    refine Wp.of (fH (a:=h) (b:=l) (by have:=hf.1;have:=hf.2;omega)) ?_
    refine Wp.of (nT (ns:=h++l)) ?_
    simp only[VC,and_self]
   ·simp[e]
  rw[wp_sSeq,wp_sIf]
  refine Wp.of (t1 _) ?_
  rw[if_neg Bool.false_ne_true,wp_sNil,aft_nx,wp_sIf]
  refine Wp.of t2 ?_
  unfold fJ at q
  cases hc:(decide (m'=m)&&decide (k∈h++l)) with
  |false =>
   simp only[hc,Bool.false_eq_true,if_false] at q
   rw[if_neg Bool.false_ne_true,wp_sNil]
   exact q
  |true =>
   simp only[hc,if_true] at q
   rw[if_pos rfl,wp_sSub,wp_comp]
   refine Wp.of row ⟨sX _,?_⟩
   refine Wp.of (tR (caps:=[some (.int k),some (Pg.made m' d h l).d]) (λb=>b==decide (k∈h)) λb=>?_) ?_
   ·refine Wp.eq ?_
    simp only[VC,Pg.d,(dU _ _ _ _ _).2.2.2,(rM _ _ _).1]
    refine Wp.of (nT (ns:=h)) ?_
    refine Wp.of (show aQ (.bl b) (.bl (decide (k∈h))) (bO s R F)=ok (.bl (b==decide (k∈h))) (bO s R F) from rfl) ?_
    simp only[VC,and_self]
   ·simp only[wp_loc0,wp_locS,wp_e2,wp_C,(lJ (Pg.made m' d h l) _).2,wp_ok]
    refine⟨_,tQ hd.1 hd.2,?_⟩
    have e1:(false==decide (k∈h))=!decide (k∈h):=by cases decide (k∈h)<;>rfl
    have e2:(true==decide (k∈h))=decide (k∈h):=by cases decide (k∈h)<;>rfl
    rw[e1,e2]
    exact q
end DI
namespace DI
open PySem L2 TK
noncomputable def kZ (ps:List Pg) (m k:Int):Rw×(Nat->Bool):=ps.foldl (fJ m k) (λ_=>(true,true),λ_=>false)
noncomputable def t6:Pg->Prop
 | .made _ _ h l=>∀x∈h,x∉l
 | .bL _ _ _=>True
theorem wy {x a:Int} {l:List Int}:decide (x∈a::l)=(decide (x=a)||decide (x∈l)):=by
 by_cases h:x=a<;>simp[h]
theorem C5 {m k:Int} {d:Nat}:∀(ps:List Pg) (x:Rw×(Nat->Bool)),(∀p∈ps,0<=p.day/\t6 p) ->
  ((ps.foldl (fJ m k) x).1 d).1=((x.1 d).1&&!sN ps m k d)/\((ps.foldl (fJ m k) x).1 d).2=((x.1 d).2&&(!mN ps m k d&&!lN ps m k d))/\(ps.foldl (fJ m k) x).2 d=(x.2 d||mN ps m k d)
 | [],x,_=>by simp[sN,mN,lN,shown,cb,cP]
 |p::ps,x,h=>by
  obtain⟨i1,i2,i3⟩:=C5 (d:=d) ps (fJ m k x p) λq hq=>h q (List.mem_cons_of_mem _ hq)
  obtain⟨hd,ha⟩:=h p List.mem_cons_self
  rw[List.foldl_cons,i1,i2,i3]
  have key:((fJ m k x p).1 d).1=((x.1 d).1&&!(jO m k p&&decide ((d:Int)=p.day)))/\((fJ m k x p).1 d).2=((x.1 d).2&&(!(jh m k p&&decide ((d:Int)=p.day))&&!(jP m k p&&decide ((d:Int)=p.day))))/\(fJ m k x p).2 d=(x.2 d||(jh m k p&&decide ((d:Int)=p.day))):=by
   have ed:decide ((d:Int)=p.day)=decide (d=p.day.toNat):=by
    by_cases e:d=p.day.toNat
    ·rw[decide_eq_true e,decide_eq_true (by omega)]
    ·rw[decide_eq_false e,decide_eq_false (by omega)]
   rw[ed]
   cases p with
   |bL m' d' k' =>
    simp only[fJ,jO,jP,jh,TK.Pg.day,Bool.false_and,Bool.not_false,Bool.and_true]
    cases (decide (m'=m)&&decide (k'=k)) with
    |false=>simp
    |true =>
     simp only[if_true,Bool.true_and,cS]
     by_cases e:d=d'.toNat<;>simp[e]
   |made m' d' h' l' =>
    simp only[fJ,jO,jP,jh,TK.Pg.day,Bool.false_and,Bool.not_false,Bool.true_and,Bool.or_false]
    by_cases em:m'=m
    ·simp only[em,decide_true,Bool.true_and]
     by_cases e:d=d'.toNat
     ·subst e
      simp only[decide_true,Bool.and_true]
      by_cases c1:k∈h'
      ·have c2:k∉l':=ha k c1
       simp[c1,c2,cS]
      ·by_cases c2:k∈l'<;>simp[c1,c2,cS]
     ·simp only[e,decide_false,Bool.and_false,Bool.not_false,Bool.and_true]
      by_cases c:k∈h'++l'<;>simp[c,cS,e]
    ·simp[em]
  obtain⟨k1,k2,k3⟩:=key
  rw[k1,k2,k3]
  have e1:sN (p::ps) m k d=((jO m k p&&decide ((d:Int)=p.day))||sN ps m k d):=by
   unfold sN shown
   rw[List.filter_cons]
   cases jO m k p with
   |false=>rw[if_neg Bool.false_ne_true];rfl
   |true=>rw[if_pos rfl,List.map_cons,wy];rfl
  have e2:lN (p::ps) m k d=((jP m k p&&decide ((d:Int)=p.day))||lN ps m k d):=by
   unfold lN cP
   rw[List.filter_cons]
   cases jP m k p with
   |false=>rw[if_neg Bool.false_ne_true];rfl
   |true=>rw[if_pos rfl,List.map_cons,wy];rfl
  have e3:mN (p::ps) m k d=((jh m k p&&decide ((d:Int)=p.day))||mN ps m k d):=by
   unfold mN cb
   rw[List.filter_cons]
   cases jh m k p with
   |false=>rw[if_neg Bool.false_ne_true];rfl
   |true=>rw[if_pos rfl,List.map_cons,wy];rfl
  rw[e1,e2,e3]
  generalize (jO m k p&&decide ((d:Int)=p.day))=a
  generalize (jP m k p&&decide ((d:Int)=p.day))=b
  generalize (jh m k p&&decide ((d:Int)=p.day))=c
  refine⟨?_,?_,?_⟩
  ·cases a<;>cases sN ps m k d<;>cases (x.1 d).1<;>rfl
  ·cases b<;>cases c<;>cases lN ps m k d<;>cases mN ps m k d<;>cases (x.1 d).2<;>rfl
  ·cases c<;>cases mN ps m k d<;>cases x.2 d<;>rfl
theorem MN {ps:List Pg} {m k:Int} (h:∀p∈ps,0<=p.day/\t6 p) (d:Nat):(kZ ps m k).1 d=(f0 (sN ps m k) d,t0 (lN ps m k) (mN ps m k) d)/\(kZ ps m k).2 d=mN ps m k d:=by
 obtain⟨h1,h2,h3⟩:=C5 (m:=m) (k:=k) (d:=d) ps (λ_=>(true,true),λ_=>false) h
 refine⟨Prod.ext ?_ ?_,?_⟩
 ·show ((kZ ps m k).1 d).1=_;unfold kZ f0;rw[h1];simp
 ·show ((kZ ps m k).1 d).2=_;unfold kZ t0;rw[h2];simp
 ·unfold kZ;rw[h3];simp
end DI
namespace DI
open PySem L2 TK
noncomputable abbrev ne2 (x:Bool×Bool):Bool:=x.1||x.2
theorem Od {x:Bool×Bool} {s:ae}:eO (eR x) (.lst []) s=ok (.bl (ne2 x)) s:=by
 obtain⟨f,t⟩:=x
 cases f<;>cases t<;>rfl
theorem MO {x:Bool×Bool} {b f:Bool} {s:ae}:wW [eR x,.bl b,.bl f] s=ok (.bl (!b&&(x.1||(f&&ne2 x)))) s:=by
 obtain⟨u,v⟩:=x
 cases u<;>cases v<;>cases b<;>cases f<;>rfl
theorem Lp {x:Bool×Bool} {b f:Bool} {s:ae}:wo [eR x,.bl b,.bl f] s=ok (.bl (x.2||(x.1&&(!b||f)))) s:=by
 obtain⟨u,v⟩:=x
 cases u<;>cases v<;>cases b<;>cases f<;>rfl
theorem Oe {env:Env} {s:ae}:zY (af (eC (.int 29)) (af (e1 qk (eC (.int 1))) (af (e1 qk (eC (.int 1))) ai))) env s=ok ((List.range 30).map λn:Nat=>D.int ((29-n:Nat):Int)) s:=by rfl
noncomputable def qF (x:Bool×Bool):D:=.tup ((ic x).map D.bl)
noncomputable def oP (ps:List Pg) (m k:Int):D:=.lst ((List.range 31).map λd=>qF (bw (sN ps m k) (lN ps m k) (mN ps m k) d))
theorem Pp (s l m:Nat->Bool):bw s l m 30=fw s l m 30:=rfl
theorem MP (s l m:Nat->Bool) {d:Nat} (h:d<=29):bw s l m d=((fw s l m d).1&&((bw s l m (d+1)).2||(bw s l m (d+1)).1),(fw s l m d).2&&((bw s l m (d+1)).2||((bw s l m (d+1)).1&&m (d+1)))):=by
 unfold bw
 rw[show 30-d=(29-d)+1 by omega,show 30-(d+1)=29-d by omega]
 simp only[pw]
 rw[show 29-(29-d)=d by omega,show 30-(29-d)=d+1 by omega]
theorem Of {ps:List Pg} {m k:Int} {s:ae} (hl:ps.length<=1000) (hp:∀p∈ps,(0<=p.day/\p.day<31)/\fI p/\t6 p):Wp (p6 [bD ps,.int m,.int k] s) λd s'=>d=oP ps m k/\∃c,s'=s++c:=by
 unfold p6
 rw[wp_fn]
 refine⟨rfl,?_⟩
 rw[wp_sSeq,wp_sAsg]
 unfold pV
 simp only[bj]
 refine Wp.of (eY (n:=31) rfl (by decide)) ?_
 rw[lQ]
 refine⟨by rw[cO];exact le_size (by decide),?_⟩
 rw[bj,Fs]
 refine Wp.of (iq (λ_=>true) (λ_=>eR (true,true)) fY λd hd=>⟨[some (.int d)],rfl,rfl,λ_=>rfl⟩) ?_
 simp only[wp_ok,asg_N,filter_tt,List.map_cons,List.map_nil,List.cons_append,List.nil_append,List.replicate,Nat.reduceSub,List.set_cons_succ,List.set_cons_zero,aft_nx]
 rw[wp_sSeq,wp_sAsg]
 simp only[bj]
 refine Wp.of (eY (n:=32) rfl (by decide)) ?_
 rw[lQ]
 refine⟨by rw[cO];exact le_size (by decide),?_⟩
 rw[bj]
 have Sq:bM 0 32=((List.range 32).map λi:Nat=>(i:Int)).map D.int:=by rw[wY,List.map_map];congr 1;funext i;simp
 rw[Sq]
 refine Wp.of (iq (λ_=>true) (λ_=>.bl false) _ λd hd=>⟨[some (.int d)],rfl,rfl,λ_=>rfl⟩) ?_
 simp only[wp_ok,asg_N,filter_tt,List.set_cons_succ,List.set_cons_zero,aft_nx]
 have es:s++[Cell.lst (fY.map λ_=>eR (true,true))]++[Cell.lst (((List.range 32).map λi:Nat=>(i:Int)).map λ_=>D.bl false)]=bO s (λ_=>(true,true)) (λ_=>false):=by
  unfold fY
  simp only[List.map_map,Function.comp_def,List.append_assoc,List.cons_append,List.nil_append]
 have el:(s++[Cell.lst (fY.map λ_=>eR (true,true))]).length=s.length+1:=by simp
 rw[es,el]
 rw[wp_sSeq,wp_sFor]
 refine Wp.of (jZ (ds:=ps.map Pg.d) rfl) ?_
 refine Wp.gK (λi env s'=>∃a5 a6 a7 a8,env=[some (bD ps),some (.int m),some (.int k),some (.aj s.length),some (.aj (s.length+1)),a5,a6,a7,a8]/\s'=bO s ((ps.take i).foldl (fJ m k) (λ_=>(true,true),λ_=>false)).1 ((ps.take i).foldl (fJ m k) (λ_=>(true,true),λ_=>false)).2) _ ⟨_,_,_,_,rfl,rfl⟩ (λi d env s' hd hI=>?_) (λenv s' hI=>?_)
 ·obtain⟨a5,a6,a7,a8,rfl,rfl⟩:=hI
  rw[List.getElem?_map] at hd
  cases vt:ps[i]? with
  |none=>rw[vt] at hd;cases hd
  |some p =>
   rw[vt] at hd
   cases hd
   obtain⟨h1,h2,h3⟩:=hp p (List.mem_of_getElem? vt)
   refine⟨_,rfl,?_⟩
   refine Lo h1 h2 ⟨_,_,_,_,rfl,?_⟩
   rw[List.take_add_one,vt]
   simp only[Option.toList_some,List.foldl_append,List.foldl_cons,List.foldl_nil]
 obtain⟨a5,a6,a7,a8,rfl,rfl⟩:=hI
 rw[List.length_map,List.take_length]
 have h0:=MN (ps:=ps) (m:=m) (k:=k) λp q=>⟨(hp p q).1.1,(hp p q).2.2⟩
 unfold kZ at h0
 generalize (ps.foldl (fJ m k) (λ_=>(true,true),λ_=>false))=x0 at h0
 obtain⟨R,F⟩:=x0
 have hR:∀d,R d=(f0 (sN ps m k) d,t0 (lN ps m k) (mN ps m k) d):=λd=>(h0 d).1
 have hF:∀d,F d=mN ps m k d:=λd=>(h0 d).2
 clear h0
 rw[aft_nx,wp_sSeq,wp_sFor]
 refine Wp.of (EI (i:=1) (j:=31) rfl (by decide) (by decide) (by decide) (by decide)) ?_
 rw[show ((31:Int)-1).toNat=30 from rfl]
 refine Wp.gK (λi env s'=>i<=30->∃a5 a6 a7 a8 R,env=[some (bD ps),some (.int m),some (.int k),some (.aj s.length),some (.aj (s.length+1)),a5,a6,a7,a8]/\s'=bO s R F/\∀d,R d=if d<=i then fw (sN ps m k) (lN ps m k) (mN ps m k) d else (f0 (sN ps m k) d,t0 (lN ps m k) (mN ps m k) d)) _ (λ_=>⟨_,_,_,_,R,rfl,rfl,λd=>?_⟩) (λi d env s' hd hI=>?_) (λenv s' hI=>?_)
 ·split
  ·rw[show d=0 by omega,hR];rfl
  ·exact hR d
 ·rw[fZ] at hd
  split at hd
  ·rename_i hi
   cases hd
   obtain⟨a5,a6,a7,a8,R,rfl,rfl,hR⟩:=hI (by omega)
   refine⟨_,rfl,?_⟩
   have ed:(1:Int)+(i:Int)=((i+1:Nat):Int):=by omega
   rw[ed]
   simp only[List.set_cons_succ,List.set_cons_zero]
   rw[wp_sSeq,wp_sAsg]
   simp only[wp_tup,wp_aCons,wp_aNil,wp_e2,wp_loc0,wp_locS,wp_C,wp_subI]
   rw[show (((i+1:Nat):Int)-1)=(i:Int) by omega]
   refine Wp.of (qb (by omega) (by omega)) (Wp.of (DW (by omega) (by omega)) ?_)
   refine⟨le_size (by simp only[List.length_cons,List.length_nil];decide),?_⟩
   simp only[asg_T,asg_cons,asg_nil,List.set_cons_succ,List.set_cons_zero,aft_nx,Int.toNat_natCast]
   rw[wp_sSub,wp_comp]
   have row:bo (e2 ar (aa 3) (aa 6)) [some (bD ps),some (.int m),some (.int k),some (.aj s.length),some (.aj (s.length+1)),a5,some (.int ((i+1:Nat):Int)),some (eR (R i)),some (.bl (F (i+1)))] (bO s R F)=ok ((ic (R (i+1))).map D.bl) (bO s R F):=by
    refine jm (Wp.eq ?_)
    simp only[wp_e2,wp_loc0,wp_locS]
    exact Wp.of (qb (by omega) (by omega)) ⟨by rw[Int.toNat_natCast],rfl⟩
   refine Wp.of row ⟨sX _,?_⟩
   refine Wp.of (tR (caps:=[some (eR (R i)),some (.bl (F (i+1)))]) (λb=>(b&&ne2 (R i))||(!b&&((R i).1||(F (i+1)&&ne2 (R i))))) λb=>?_) ?_
   ·refine Wp.eq ?_
    simp only[VC,Od,MO]
    cases b with
    |true=>cases ne2 (R i)<;>simp[wp_ok]
    |false=>simp[wp_ok]
   ·simp only[wp_loc0,wp_locS]
    refine⟨_,tQ (by omega) (by omega),λ_=>⟨_,_,_,_,_,rfl,rfl,λd=>?_⟩⟩
    rw[Int.toNat_natCast]
    unfold cS
    by_cases e:d=i+1
    ·rw[if_pos e,if_pos (by omega),e]
     have h1:=hR (i+1)
     rw[if_neg (by omega)] at h1
     have h2:=hR i
     rw[if_pos (Nat.le_refl _)] at h2
     simp only[fw,h1,h2,hF,Bool.false_and,Bool.true_and,Bool.not_false,Bool.not_true,Bool.false_or,Bool.or_false,ne2]
    ·rw[if_neg e,hR d]
     by_cases e2:d<=i
     ·rw[if_pos e2,if_pos (by omega)]
     ·rw[if_neg e2,if_neg (by omega)]
  ·cases hd
 rw[cO] at hI
 obtain⟨a5,a6,a7,a8,R,rfl,rfl,hR⟩:=hI (Nat.le_refl _)
 rw[aft_nx,wp_sSeq,wp_sFor]
 refine Wp.of Oe ?_
 refine Wp.gK (λn env s'=>n<=30->∃a5 a6 a7 a8 R,env=[some (bD ps),some (.int m),some (.int k),some (.aj s.length),some (.aj (s.length+1)),a5,a6,a7,a8]/\s'=bO s R F/\∀d,d<=30->R d=if 30-n<=d then bw (sN ps m k) (lN ps m k) (mN ps m k) d else fw (sN ps m k) (lN ps m k) (mN ps m k) d) _ (λ_=>⟨_,_,_,_,R,rfl,rfl,λd hd=>?_⟩) (λn d env s' hd hI=>?_) (λenv s' hI=>?_)
 ·rw[hR d,if_pos hd]
  split
  ·rw[show d=30 by omega,Pp]
  ·rfl
 ·rw[List.getElem?_map] at hd
  by_cases hn:n<30
  ·rw[List.getElem?_range hn] at hd
   cases hd
   obtain⟨a5,a6,a7,a8,R,rfl,rfl,hR⟩:=hI (by omega)
   refine⟨_,rfl,?_⟩
   simp only[List.set_cons_succ,List.set_cons_zero]
   generalize hd:29-n=d
   rw[wp_sSub,wp_comp]
   have row:bo (e2 ar (aa 3) (aa 6)) [some (bD ps),some (.int m),some (.int k),some (.aj s.length),some (.aj (s.length+1)),a5,some (.int (d:Int)),a7,a8] (bO s R F)=ok ((ic (R d)).map D.bl) (bO s R F):=by
    refine jm (Wp.eq ?_)
    simp only[wp_e2,wp_loc0,wp_locS]
    exact Wp.of (qb (by omega) (by omega)) ⟨by rw[Int.toNat_natCast],rfl⟩
   refine Wp.of row ⟨sX _,?_⟩
   refine Wp.of (tR (caps:=[some (.aj s.length),some (.aj (s.length+1)),some (.int (d:Int))]) (λb=>(R (d+1)).2||((R (d+1)).1&&(!b||F (d+1)))) λb=>?_) ?_
   ·refine Wp.eq ?_
    simp only[VC]
    refine Wp.of (qb (by omega) (by omega)) (Wp.of (DW (by omega) (by omega)) ?_)
    rw[show ((d:Int)+1).toNat=d+1 by omega]
    refine Wp.of Lp ?_
    simp only[VC,and_self]
   ·simp only[wp_loc0,wp_locS]
    refine⟨_,tQ (by omega) (by omega),λ_=>⟨_,_,_,_,_,rfl,rfl,λe he=>?_⟩⟩
    rw[Int.toNat_natCast]
    unfold cS
    by_cases ee:e=d
    ·rw[if_pos ee,if_pos (by omega),ee,MP _ _ _ (by omega)]
     have h1:=hR d (by omega)
     rw[if_neg (by omega)] at h1
     have h2:=hR (d+1) (by omega)
     rw[if_pos (by omega)] at h2
     simp only[h1,h2,hF,Bool.not_false,Bool.not_true,Bool.true_or,Bool.false_or,Bool.and_true]
    ·rw[if_neg ee,hR e he]
     by_cases e2:30-n<=e
     ·rw[if_pos e2,if_pos (by omega)]
     ·rw[if_neg e2,if_neg (by omega)]
  ·rw[List.getElem?_eq_none (by simpa using hn)] at hd
   cases hd
 rw[List.length_map,List.length_range] at hI
 obtain⟨a5,a6,a7,a8,R,rfl,rfl,hR⟩:=hI (Nat.le_refl _)
 rw[aft_nx,wp_sRet,wp_comp]
 have fz:bo (jy (aa 3)) [some (bD ps),some (.int m),some (.int k),some (.aj s.length),some (.aj (s.length+1)),a5,a6,a7,a8] (bO s R F)=ok ((List.range 31).map λd=>eR (R d)) (s++[.dead,dZ F]):=by
  refine jm (Wp.eq ?_)
  simp only[wp_frz,wp_loc0,wp_locS]
  refine Wp.of (show cF (.aj s.length) (bO s R F)=ok (.lst ((List.range 31).map λd=>eR (R d))) (s++[.dead,dZ F]) from ?_) ⟨rfl,rfl⟩
  simp only[cF,yP]
  simp[bO,List.set_append_right]
 refine Wp.of fz ⟨by rw[List.length_map,List.length_range];exact le_size (by decide),?_⟩
 refine Wp.of (comp_map (λd=>eR (R d)) (λ_=>true) (λd=>qF (R d)) (List.range 31) λd hd=>⟨[some (eR (R d))],rfl,rfl,λ_=>rfl⟩) ?_
 rw[filter_tt,fin_rt]
 refine⟨?_,[.dead,dZ F],rfl⟩
 unfold oP
 congr 1
 apply List.map_congr_left
 intro d hd
 have:=List.mem_range.mp hd
 rw[hR d (by omega),if_pos (by omega)]
end DI
namespace DI
open PySem L2
noncomputable def brk (l:List Int):List Int:=((List.range (l.length-1)).filter λi=>l.getD (i+1) 0==l.getD i 0).map λi:Nat=>1+(i:Int)
theorem same_int {n:Nat} {i:Int} {s:ae}:gS (n+1) [.int i,.int i] s=ok (.bl true) s:=by
 refine Wp.eq ?_
 unfold gS
 simp only[VC]
 refine Wp.of (show qy (.int i) s=ok (.bl false) s from rfl) ?_
 simp only[VC,Bool.false_eq_true,if_false]
 refine Wp.of (show cE [.int i,.ty "bool"] s=ok (.bl false) s from rfl) ?_
 refine Wp.of (show cE [.int i,.ty "bool"] s=ok (.bl false) s from rfl) ?_
 refine Wp.of (show aQ (.bl false) (.bl false) s=ok (.bl true) s from rfl) ?_
 simp only[VC,if_true,beq_self_eq_true,and_self]
theorem BD {n:Nat} {l:List Int} {s:ae} (hl:l.length<=1000):gS (n+2) [mD l,mD l] s=ok (.bl true) s:=by
 refine Wp.eq ?_
 unfold gS
 simp only[VC]
 refine Wp.of (show qy (mD l) s=ok (.bl true) s from rfl) ?_
 simp only[VC,if_true]
 refine Wp.of (show cE [mD l,.ty "tuple"] s=ok (.bl true) s from rfl) ?_
 refine Wp.of (show cE [mD l,.ty "tuple"] s=ok (.bl true) s from rfl) ?_
 refine Wp.of (show eO (.bl true) (.bl true) s=ok (.bl false) s from rfl) ?_
 simp only[VC,Bool.false_eq_true,if_false]
 refine Wp.of (show cE [mD l,.ty "list"] s=ok (.bl false) s from rfl) ?_
 refine Wp.of (show cE [mD l,.ty "list"] s=ok (.bl false) s from rfl) ?_
 refine Wp.of (show eO (.bl false) (.bl false) s=ok (.bl false) s from rfl) ?_
 simp only[VC,Bool.false_eq_true,if_false,QE,beq_self_eq_true,if_true]
 refine Wp.of (sV rfl) ⟨le_size (by rw[pK];simp only[List.length_map];omega),?_⟩
 rw[Cf]
 refine Wp.of (comp_map (λp:Int×Int=>D.tup [.int p.1,.int p.2]) (λ_=>true) (λp=>.bl true) _ λp hp=>⟨[some (.int p.1),some (.int p.2)],rfl,rfl,λ_=>?_⟩) ?_
 ·have e:p.1=p.2:=by
   obtain⟨i,hi⟩:=List.getElem?_of_mem hp
   obtain⟨h1,h2⟩:=List.getElem?_zip_eq_some.mp hi
   rw[h1] at h2
   exact Option.some.inj h2
  refine Wp.eq ?_
  simp only[VC,e,same_int,and_self]
 ·rw[filter_tt]
  exact Wp.of (nU (λ_=>true) _ _) ⟨by simp,rfl⟩
end DI
namespace DI
open PySem L2
end DI
namespace DI
open PySem L2
end DI
namespace DI
open PySem L2
theorem Ex.get {k j:Nat} {s s':ae} {c:Cell} (h:Ex k s s') (e:s[j]?=some c) (hj:j≠k):s'[j]?=some c:=by
 rw[h.val j (List.getElem?_eq_some_iff.mp e).1 hj]
 exact e
theorem Ex.hi {k j:Nat} {s s':ae} (h:Ex k s s') (hj:s.length<=j) (c:Cell):Ex k s (s'.set j c):=⟨by rw[List.length_set];exact h.len,λi hi hk=>by rw[List.getElem?_set_ne (by omega)];exact h.val i hi hk⟩
structure RI (s0:ae) (k rh mh:Nat) (rs:List (List Int)) (s:ae):Prop where
 st:bc s k
 ex:Ex k s0 s
 run:s[rh]?=some (.lst (rs.map mD))
 mo:∃a b,s[mh]?=some (.lst [mD a,mD b])/\dj 8 a/\dj 8 b
 vp:∀r∈rs,dj 8 r
 k1:k<s0.length
 r1:s0.length<=rh
 m1:s0.length<=mh
 ne:rh≠mh
theorem RI.draw {s0 s s':ae} {k rh mh:Nat} {rs:List (List Int)} (h:RI s0 k rh mh rs s) (g:bc s' k) (x:Ex k s s'):RI s0 k rh mh rs s':=by
 have:=h.k1
 have:=h.r1
 have:=h.m1
 obtain⟨a,b,e,ha,hb⟩:=h.mo
 exact⟨g,h.ex.trans x,x.get h.run (by omega),⟨a,b,x.get e (by omega),ha,hb⟩,h.vp,h.k1,h.r1,h.m1,h.ne⟩
theorem RI.push {s0 s:ae} {k rh mh:Nat} {rs:List (List Int)} {r:List Int} (h:RI s0 k rh mh rs s) (hr:dj 8 r):RI s0 k rh mh (rs++[r]) (s.set rh (.lst (rs.map mD++[mD r]))):=by
 have:=h.k1
 have:=h.r1
 have:=h.m1
 have:=h.ne
 obtain⟨a,b,e,ha,hb⟩:=h.mo
 refine⟨h.st.set (by omega) _,h.ex.hi (by omega) _,?_,⟨a,b,by rw[List.getElem?_set_ne (by omega)];exact e,ha,hb⟩,λx hx=>?_,h.k1,h.r1,h.m1,h.ne⟩
 ·rw[List.getElem?_set_self (List.getElem?_eq_some_iff.mp h.run).1,List.map_append]
  rfl
 ·rcases List.mem_append.mp hx with hx|hx
  ·exact h.vp x hx
  ·rw[List.mem_singleton.mp hx];exact hr
theorem RI.put {s0 s:ae} {k rh mh:Nat} {rs:List (List Int)} {at_:Int} (h:RI s0 k rh mh rs s) (h0:at_=0\/at_=1):(∃a,ar (.aj mh) (.int at_) s=ok (mD a) s/\dj 8 a)/\∀c,dj 8 c->∃s',gj (.aj mh) (.int at_) (mD c) s=some s'/\RI s0 k rh mh rs s':=by
 have:=h.k1
 have:=h.r1
 have:=h.m1
 have:=h.ne
 obtain⟨a,b,e,ha,hb⟩:=h.mo
 have key:∀a b,dj 8 a->dj 8 b->RI s0 k rh mh rs (s.set mh (.lst [mD a,mD b])):=λa b ha hb=>⟨h.st.set (by omega) _,h.ex.hi (by omega) _,by rw[List.getElem?_set_ne (by omega)];exact h.run,⟨a,b,List.getElem?_set_self (List.getElem?_eq_some_iff.mp e).1,ha,hb⟩,h.vp,h.k1,h.r1,h.m1,h.ne⟩
 rcases h0 with rfl|rfl
 ·exact⟨⟨a,z9 _ _ _ _ e,ha⟩,λc hc=>⟨_,FV _ _ _ _ _ e,key _ _ hc hb⟩⟩
 ·exact⟨⟨b,Aa _ _ _ _ e,hb⟩,λc hc=>⟨_,FW _ _ _ _ _ e,key _ _ ha hc⟩⟩
end DI
namespace DI
open PySem L2
structure Ft (n W:Nat) (d:D):Prop where
 pl:plain d=true
 sh:(py d).showable=true
 nd:(py d).hasDict=false
 dp:(py d).depth<=n
 wt:(py d).weight<=W
 lv:(py d).leavesShort 40=true
noncomputable def yQ (d:D):Bool:=plain d&&(py d).showable&&!(py d).hasDict&&decide ((py d).depth<=0)&&decide ((py d).weight<=110)&&(py d).leavesShort 40
theorem xZ {d:D} (h:yQ d=true):Ft 0 110 d:=by
 unfold yQ at h
 simp only[Bool.and_eq_true,decide_eq_true_eq,Bool.not_eq_true'] at h
 obtain⟨⟨⟨⟨⟨h0,h1⟩,h2⟩,h3⟩,h4⟩,h5⟩:=h
 exact⟨h0,h1,h2,h3,h4,h5⟩
theorem Og:∀n:Fin 62,yQ (.int ((n.val:Int)-1))=true:=by decide +kernel
theorem og {n:Int} (h1:-1<=n) (h2:n<=60):Ft 0 110 (.int n):=by
 refine xZ ?_
 have:=Og ⟨(n+1).toNat,by omega⟩
 have e2:(((n+1).toNat:Nat):Int)-1=n:=by omega
 rw[e2] at this
 exact this
theorem EN {n W:Nat}:∀{ds:List D},(∀x∈ds,Ft n W x)->j6 ds=true/\PyData.showableAll (bT ds)=true/\PyData.hasDictAll (bT ds)=false/\PyData.depthAll (bT ds)<=n/\PyData.weightAll (bT ds)<=ds.length*(W+1)/\PyData.leavesShortAll 40 (bT ds)=true
 | [],_=>⟨rfl,rfl,rfl,Nat.zero_le _,by simp[bT,PyData.weightAll],rfl⟩
 |x::xs,h=>by
  obtain⟨z,a,b,c,d,e⟩:=EN (ds:=xs) λy hy=>h y (List.mem_cons_of_mem _ hy)
  have k:=h x List.mem_cons_self
  refine⟨?_,?_,?_,?_,?_,?_⟩
  ·simp only[j6,k.pl,z,Bool.and_self]
  ·simp only[bT,PyData.showableAll,k.sh,a,Bool.and_self]
  ·simp only[bT,PyData.hasDictAll,k.nd,b,Bool.or_self]
  ·simp only[bT,PyData.depthAll];have:=k.dp;omega
  ·simp only[bT,PyData.weightAll,List.length_cons]
   have:=k.wt
   rw[Nat.add_mul]
   omega
  ·simp only[bT,PyData.leavesShortAll,k.lv,e,Bool.and_self]
theorem qc {n W c:Nat} {ds:List D} (hl:ds.length<=c) (h:∀x∈ds,Ft n W x):Ft (n+1) (c*(W+1)) (.tup ds):=by
 obtain⟨z,a,b,c',d',e'⟩:=EN h
 have hw:PyData.weightAll (bT ds)<=c*(W+1):=Nat.le_trans d' (Nat.mul_le_mul_right _ hl)
 exact⟨by simp only[plain];exact z,by simp only[py,PyData.showable];exact a,by simp only[py,PyData.hasDict];exact b,by simp only[py,PyData.depth];omega,by simp only[py,PyData.weight];exact hw,by simp only[py,PyData.leavesShort];exact e'⟩
theorem Oh {n W:Nat} {d:D} (h:Ft n W d) (hn:n<=100) (hw:W<=300000):qp d=true:=by
 have l:=PyData.shown_le 40 (by decide) _ h.lv
 have w:=h.wt
 have p:=h.dp
 have z:sizeLine=16777216:=sizeLine_eq
 have l':(py d).shown.length<=sizeLine:=by rw[z];omega
 unfold qp
 rw[h.pl,h.sh,h.nd,decide_eq_true (show (py d).depth<=100 by omega),decide_eq_true l']
 rfl
theorem ne_str {x:Str} {s:ae}:eO (.str x) (.str x) s=ok (.bl false) s:=by
 show (match ml (.str x) (.str x) with|some b=>ok (D.bl (!b)) s|none=>none)=_
 have e:ml (.str x) (.str x)=some true:=by
  unfold ml
  rw[if_pos (show (o9 (.str x)&&o9 (.str x))=true from rfl)]
  simp[beq]
 rw[e]
 rfl
end DI
namespace DI
open PySem L2 TK
structure GY (p:Pg):Prop where
 day:0<=p.day/\p.day<31
 fI:fI p
 apart:t6 p
 ft:Ft 3 7116 p.d
theorem Ft.mono {n n' W W':Nat} {d:D} (h:Ft n W d) (h1:n<=n') (h2:W<=W'):Ft n' W' d:=⟨h.pl,h.sh,h.nd,Nat.le_trans h.dp h1,Nat.le_trans h.wt h2,h.lv⟩
theorem EO:Ft 0 110 (.str "made")/\Ft 0 110 (.str "mended"):=⟨xZ (by decide +kernel),xZ (by decide +kernel)⟩
theorem ER {ns:List Int} (h:dj 8 ns):Ft 1 888 (mD ns):=by
 refine qc (c:=8) (W:=110) (by rw[List.length_map];exact h.len) λx hx=>?_
 obtain⟨y,hy,rfl⟩:=List.mem_map.mp hx
 have:=h.lo y hy
 exact og (by omega) (by omega)
theorem MQ {p:Pg} (h:eI p=true):GY p:=by
 cases p with
 |made m d h' l =>
  simp only[eI,ix,ib,Bool.and_eq_true,decide_eq_true_eq] at h
  obtain⟨⟨hm,hd⟩,h1,h2,h3⟩:=h
  have k1:=sH h1
  have k2:=sH h2
  refine⟨hd,⟨by have:=k1.len;omega,by have:=k2.len;omega⟩,λx hx hl=>?_,?_⟩
  ·unfold qa at h3
   rw[Bool.not_eq_true',List.any_eq_false] at h3
   exact h3 x hx (decide_eq_true hl)
  ·refine qc (c:=4) (n:=2) (W:=1778) (by simp) λx hx=>?_
   simp only[List.mem_cons,List.not_mem_nil,or_false] at hx
   rcases hx with rfl|rfl|rfl|rfl
   ·exact EO.1.mono (by omega) (by omega)
   ·exact(og (by omega) (by omega)).mono (by omega) (by omega)
   ·exact(og (by omega) (by omega)).mono (by omega) (by omega)
   ·refine qc (c:=2) (n:=1) (W:=888) (by simp) λx hx=>?_
    simp only[List.mem_cons,List.not_mem_nil,or_false] at hx
    rcases hx with rfl|rfl
    ·exact ER k1
    ·exact ER k2
 |bL m d k =>
  simp only[eI,ix,ib,markB,Bool.and_eq_true,decide_eq_true_eq] at h
  obtain⟨⟨hm,hd⟩,hk⟩:=h
  refine⟨hd,trivial,trivial,(qc (c:=4) (n:=0) (W:=110) (by simp) λx hx=>?_).mono (by omega) (by omega)⟩
  simp only[List.mem_cons,List.not_mem_nil,or_false] at hx
  rcases hx with rfl|rfl|rfl|rfl
  ·exact EO.2
  ·exact og (by omega) (by omega)
  ·exact og (by omega) (by omega)
  ·exact og (by omega) (by omega)
theorem vW {ps:List Pg} (h:iT ps=true):ps.length<=24/\∀p∈ps,GY p:=by
 unfold iT js at h
 simp only[Bool.and_eq_true,decide_eq_true_eq,List.all_eq_true] at h
 exact⟨h.1.1,λp hp=>MQ (h.1.2.1 p hp)⟩
theorem Cn {ps:List Pg} {s:ae} (h:iT ps=true):kU [bD ps] s=ok (.str (py (bD ps)).shown) s:=by
 obtain⟨h1,h2⟩:=vW h
 have ft:Ft 4 (24*(7116+1)) (bD ps):=qc (by rw[List.length_map];exact h1) λx hx=>by
  obtain⟨p,hp,rfl⟩:=List.mem_map.mp hx
  exact(h2 p hp).ft
 show (if qp (bD ps)=true then ok (D.str (py (bD ps)).shown) s else none)=_
 rw[if_pos (Oh ft (by decide) (by decide))]
theorem Co:∀ds:List D,gb ds ds=ds.map λd=>D.tup [d,d]
 | []=>rfl
 |d::ds=>by
  have:=Co ds
  unfold gb at this |-
  simp only[List.zip_cons_cons,List.map_cons,this]
theorem Lq {n:Nat} {ds:List D} {s:ae} (hl:ds.length<=1000) (h:∀d∈ds,gS n [d,d] s=ok (.bl true) s):gS (n+1) [.tup ds,.tup ds] s=ok (.bl true) s:=by
 refine Wp.eq ?_
 unfold gS
 simp only[VC]
 refine Wp.of (show qy (.tup ds) s=ok (.bl true) s from rfl) ?_
 simp only[VC,if_true]
 refine Wp.of (show cE [.tup ds,.ty "tuple"] s=ok (.bl true) s from rfl) ?_
 refine Wp.of (show cE [.tup ds,.ty "tuple"] s=ok (.bl true) s from rfl) ?_
 refine Wp.of (show eO (.bl true) (.bl true) s=ok (.bl false) s from rfl) ?_
 simp only[VC,Bool.false_eq_true,if_false]
 refine Wp.of (show cE [.tup ds,.ty "list"] s=ok (.bl false) s from rfl) ?_
 refine Wp.of (show cE [.tup ds,.ty "list"] s=ok (.bl false) s from rfl) ?_
 refine Wp.of (show eO (.bl false) (.bl false) s=ok (.bl false) s from rfl) ?_
 simp only[VC,Bool.false_eq_true,if_false]
 refine Wp.of (show eQ [.tup ds] s=ok (.int ds.length) s from rfl) ?_
 refine Wp.of (show eQ [.tup ds] s=ok (.int ds.length) s from rfl) ?_
 simp only[VC,beq_self_eq_true,if_true]
 refine Wp.of (sV rfl) ⟨le_size (by rw[pK];omega),?_⟩
 rw[Co]
 refine Wp.of (comp_map (λd:D=>D.tup [d,d]) (λ_=>true) (λ_=>.bl true) ds λd hd=>⟨[some d,some d],rfl,rfl,λ_=>?_⟩) ?_
 ·refine Wp.eq ?_
  simp only[VC,h d hd,and_self]
 ·rw[filter_tt]
  exact Wp.of (nU (λ_=>true) _ _) ⟨by simp,rfl⟩
theorem Jc {a b:List Int} {s:ae} (ha:a.length<=1000) (hb:b.length<=1000):gS 8 [.tup [mD a,mD b],.tup [mD a,mD b]] s=ok (.bl true) s :=
 Lq (by simp) λd hd=>by
  simp only[List.mem_cons,List.not_mem_nil,or_false] at hd
  rcases hd with rfl|rfl
  ·exact BD ha
  ·exact BD hb
theorem Lr {fn:List D->ae->Res D} {G:Int->D} {b:D} {mu:Int} (hf:∀k s,Wp (fn [b,.int mu,.int k] s) λd s'=>d=G k/\∃c,s'=s++c) {caps:Env} {s:ae} (ec:caps=[some b,some (.int mu)]) {Q:List D->ae->Prop} (q:∀c,Q (k8.map G) (s++c)) :
  Wp (dY 1 caps (gN 0) cx (ax fn (af (aa 1) (af (aa 2) (af (aa 0) ai)))) (bM 0 8) s) Q:=by
 rw[ec]
 refine pS (λi acc s'=>i<=8->acc=((List.range i).map λi:Nat=>(i:Int)).map G/\∃c,s'=s++c) (bM 0 8) (λ_=>⟨rfl,[],by simp⟩) (λi d acc s' hd hI=>?_) λacc s' hI=>?_
 ·rw[fZ] at hd
  split at hd
  ·rename_i hi
   cases hd
   obtain⟨rfl,c,rfl⟩:=hI (by omega)
   refine⟨[some (.int (0+i)),some b,some (.int mu)],rfl,?_⟩
   refine Wp.of (show cx _ _=ok true _ from rfl) ?_
   rw[if_pos rfl]
   simp only[VC]
   refine(hf (0+(i:Int)) _).mono λx s2 hx=>?_
   obtain⟨rfl,c2,rfl⟩:=hx
   refine λ_=>⟨?_,c++c2,by simp⟩
   rw[List.range_succ,List.map_append,List.map_append]
   simp
  ·cases hd
 ·rw[cO] at hI
  obtain⟨rfl,c,rfl⟩:=hI (Nat.le_refl _)
  exact q c
end DI
namespace DI
open PySem L2 TK
noncomputable def ow (ps:List Pg) (m:Int):D:=.lst (k8.map (oP ps m))
theorem Fu {G:Int->D} {k:Int} {s:ae} (h:0<=k/\k<8):ar (.lst (k8.map G)) (.int k) s=ok (G k) s:=by
 obtain⟨x,e1,e2⟩:=kP (xs:=k8.map G) h.1 (by show k<8;exact h.2)
 have:x=G k:=by
  rw[List.getElem?_map] at e2
  have e3:k8[k.toNat]?=some k:=by
   unfold k8
   rw[List.getElem?_map,List.getElem?_range (by omega)]
   simp
   omega
  rw[e3] at e2
  exact(Option.some.inj e2).symm
 subst this
 simp only[ar,gL,res,e1,bx]
theorem ES {ps:List Pg} {m k d:Int} {s:ae} (h:0<=d/\d<31):ar (oP ps m k) (.int d) s=ok (qF (bw (sN ps m k) (lN ps m k) (mN ps m k) d.toNat)) s:=by
 simp only[ar,gL,res,oP,w6 h.1 h.2,bx]
theorem Ls {c:Nat} {ps:List Pg}:cX c (ps.map Pg.d)=(cX c ps).map Pg.d:=by
 unfold cX
 rw[List.length_map,List.map_filterMap]
 congr 1
 funext m
 rw[List.getElem?_map]
theorem ET {ps:List Pg} {n:Nat} {s:ae}:lZ (bD ps) none (some (n:Int)) s=ok (bD (ps.take n)) s:=by
 show ok (D.tup (cutD (ps.map Pg.d) none (some (n:Int)))) s=_
 unfold cutD
 rw[HT.LL]
 show ok (D.tup (((ps.map Pg.d).drop 0).take (min n (ps.map Pg.d).length-0))) s=_
 rw[List.drop_zero,Nat.sub_zero,<- List.map_take,List.length_map]
 congr 3
 rw[List.take_eq_take_min (i:=n)]
end DI
namespace DI
open PySem L2 TK
theorem DZ {x:Bool×Bool} {s:ae}:aQ (qF x) (.tup [.bl true]) s=ok (.bl (!x.1&&x.2)) s/\aQ (qF x) (.tup [.bl false]) s=ok (.bl (x.1&&!x.2)) s:=by
 obtain⟨f,t⟩:=x
 cases f<;>cases t<;>exact⟨rfl,rfl⟩
theorem Lu {ps:List Pg} {m d:Int} {s:ae} {sc:D} {k0:Int} {k:Nat} {a9 gA:Option D} {dy:D} {Q:Fl->ae->Prop} (hb:iT ps=true) (hm:0<=m/\m<4) (hd:0<=d/\d<31) (h:bc s k)
  (q:∀(b9 cD:Option D) (c:List Cell),bc (s++c) k->Q (.nx [some sc,some (.int k0),some (.aj k),some (bD ps),some (.str (py (bD ps)).shown),some (.int m),some (ow ps m),some dy,some (.int d),b9,cD]) (s++c)) :
  Wp ((az (aO (eB cv (af (aW 1 [8,6] (bF (af (eC (.int 8)) ai)) (gN 0) (aF (e2 aQ (e2 ar (e2 ar (aa 2) (aa 0)) (aa 1)) (bE (af (eC (.bl true)) ai)))) (aa 0)) ai)) (gN 9)) (az (aO (eB cv (af (aW 1 [8,6] (bF (af (eC (.int 8)) ai)) (gN 0) (aF (e2 aQ (e2 ar (e2 ar (aa 2) (aa 0)) (aa 1)) (bE (af (eC (.bl false)) ai)))) (aa 0)) ai)) (gN 10)) (bS (fW (ei (cR (ax (gS 8) (af (ax nQ (af (aa 3) (af (aa 5) (af (aa 8) ai)))) (af (bE (af (aa 9) (af (aa 10) ai))) ai))))) (aF (e2 eO (eB kU (af (aa 3) ai)) (aa 4)))) (aS (eC (.bl false))) cu))) [some sc,some (.int k0),some (.aj k),some (bD ps),some (.str (py (bD ps)).shown),some (.int m),some (ow ps m),some dy,some (.int d),a9,gA] s) Q:=by
 obtain⟨hl,hg⟩:=vW hb
 have N:=λk hk=>MJ hb hm (k:=k) hk
 obtain⟨dn,rfl⟩:∃n:Nat,d=n:=⟨d.toNat,by omega⟩
 have rN:dn<=30:=by omega
 have side:∀{G:Int->Bool} {F:Int->List Int},(∀k∈k8,G k=decide ((dn:Int)∈F k))->k8.filter G=k8.filter λk=>decide ((dn:Int)∈F k):=λ{G F} h=>List.filter_congr h
 have F2:∀(k:Int),k∈k8->bw (sN ps m k) (lN ps m k) (mN ps m k) dn=(!pr (sN ps m k) (mN ps m k) dn,!ab (lN ps m k) (mN ps m k) dn):=λk hk=>Pn (N k (mf.mp hk)) rN
 have e1:k8.filter (λk=>!(bw (sN ps m k) (lN ps m k) (mN ps m k) dn).1&&(bw (sN ps m k) (lN ps m k) (mN ps m k) dn).2)=k8.filter λk=>decide ((dn:Int)∈gB ps m k):=side λk hk=>by
  rw[F2 k hk,MK rN]
  cases hp:pr (sN ps m k) (mN ps m k) dn with
  |false=>simp
  |true=>simp[xY (N k (mf.mp hk)) rN hp]
 have e2:k8.filter (λk=>(bw (sN ps m k) (lN ps m k) (mN ps m k) dn).1&&!(bw (sN ps m k) (lN ps m k) (mN ps m k) dn).2)=k8.filter λk=>decide ((dn:Int)∈fQ ps m k):=side λk hk=>by
  rw[F2 k hk,ML rN]
  cases hp:pr (sN ps m k) (mN ps m k) dn with
  |false=>simp
  |true=>simp[xY (N k (mf.mp hk)) rN hp]
 rw[wp_sSeq]
 simp only[wp_sAsg,wp_eB,wp_aCons,wp_aNil,wp_comp]
 refine Wp.of (eY (n:=8) rfl (by decide)) ⟨by rw[cO];exact le_size (by decide),?_⟩
 rw[yO]
 refine Wp.of (iq (λk=>!(bw (sN ps m k) (lN ps m k) (mN ps m k) dn).1&&(bw (sN ps m k) (lN ps m k) (mN ps m k) dn).2) (λk=>.int k) k8 λk hk=>⟨[some (.int k),some (.int dn),some (ow ps m)],rfl,?_,λ_=>rfl⟩) ?_
 ·refine Wp.eq ?_
  simp only[VC]
  refine Wp.of (Fu (mf.mp hk)) (Wp.of (ES hd) ?_)
  refine⟨by decide,?_⟩
  rw[Int.toNat_natCast]
  refine Wp.of DZ.1 ?_
  simp only[VC,and_self]
 rw[e1]
 refine Wp.of (show cv [.lst ((k8.filter λk=>decide ((dn:Int)∈gB ps m k)).map λk=>.int k)] s=ok (mD (k8.filter λk=>decide ((dn:Int)∈gB ps m k))) s from rfl) ?_
 simp only[asg_N,List.set_cons_succ,List.set_cons_zero,aft_nx]
 rw[wp_sSeq]
 simp only[wp_sAsg,wp_eB,wp_aCons,wp_aNil,wp_comp]
 refine Wp.of (eY (n:=8) rfl (by decide)) ⟨by rw[cO];exact le_size (by decide),?_⟩
 rw[yO]
 refine Wp.of (iq (λk=>(bw (sN ps m k) (lN ps m k) (mN ps m k) dn).1&&!(bw (sN ps m k) (lN ps m k) (mN ps m k) dn).2) (λk=>.int k) k8 λk hk=>⟨[some (.int k),some (.int dn),some (ow ps m)],rfl,?_,λ_=>rfl⟩) ?_
 ·refine Wp.eq ?_
  simp only[VC]
  refine Wp.of (Fu (mf.mp hk)) (Wp.of (ES hd) ?_)
  refine⟨by decide,?_⟩
  rw[Int.toNat_natCast]
  refine Wp.of DZ.2 ?_
  simp only[VC,and_self]
 rw[e2]
 refine Wp.of (show cv [.lst ((k8.filter λk=>decide ((dn:Int)∈fQ ps m k)).map λk=>.int k)] s=ok (mD (k8.filter λk=>decide ((dn:Int)∈fQ ps m k))) s from rfl) ?_
 simp only[asg_N,List.set_cons_succ,List.set_cons_zero,aft_nx]
 rw[wp_sIf]
 simp only[VC]
 refine(Kc (by omega) (λp hp=>(hg p hp).fI) hb hm hd).mono λx s2 hx=>?_
 obtain⟨rfl,c,rfl⟩:=hx
 refine⟨le_size (by decide),?_⟩
 have l8:∀p:Int->Bool,(k8.filter p).length<=1000:=λp=>Nat.le_trans (List.length_filter_le _ _) (by decide)
 refine Wp.of (Jc (l8 _) (l8 _)) ?_
 simp only[VC,Bool.not_true,Bool.false_eq_true,if_false]
 refine Wp.of (Cn hb) ?_
 refine Wp.of ne_str ?_
 simp only[VC,Bool.false_eq_true,if_false]
 exact q _ _ c (h.app c)
theorem Kd {W:World} {ps:List Pg} {s:ae} {sc:D} {k0:Int} {k:Nat} {a4 a5 a6 a7 a8 a9 gA:Option D} {Q:Fl->ae->Prop} (hl:ps.length<=1000) (hf:∀p∈ps,fI p) (h:bc s k)
  (q:∀(b4 b5 b6 b7 b8 b9 cD:Option D) (s':ae),bc s' k->Q (.nx [some sc,some (.int k0),some (.aj k),some (bD ps),b4,b5,b6,b7,b8,b9,cD]) s'/\Q (.ct [some sc,some (.int k0),some (.aj k),some (bD ps),b4,b5,b6,b7,b8,b9,cD]) s') :
  Wp ((az (bS (ei (cR (ax nJ (af (aa 3) ai)))) qg cu) (az (aO (bE (af (eB kU (af (aa 3) ai)) (af (ax ba (af (aa 2) (af (eC (.int 4)) ai))) ai))) (gT [(gN 4),(gN 5)])) (az (aO (aW 1 [3,5] (bF (af (eC (.int 8)) ai)) (gN 0) cx (ax p6 (af (aa 1) (af (aa 2) (af (aa 0) ai))))) (gN 6)) (az (aO (e2 cI (jx (af (eC (.int 0)) (af (eC (.int 30)) (af (ax ba (af (aa 2) (af (eC (.int 31)) ai))) (af (ax ba (af (aa 2) (af (eC (.int 31)) ai))) ai))))) (aW 1 [] (bo (jL (aa 3) jK (jz (eC (.int 4))))) (gN 0) cx (e2 ar (aa 0) (eC (.int 2))))) (gN 7)) (dG (bo (aa 7)) (gN 8) (az (aO (eB cv (af (aW 1 [8,6] (bF (af (eC (.int 8)) ai)) (gN 0) (aF (e2 aQ (e2 ar (e2 ar (aa 2) (aa 0)) (aa 1)) (bE (af (eC (.bl true)) ai)))) (aa 0)) ai)) (gN 9)) (az (aO (eB cv (af (aW 1 [8,6] (bF (af (eC (.int 8)) ai)) (gN 0) (aF (e2 aQ (e2 ar (e2 ar (aa 2) (aa 0)) (aa 1)) (bE (af (eC (.bl false)) ai)))) (aa 0)) ai)) (gN 10)) (bS (fW (ei (cR (ax (gS 8) (af (ax nQ (af (aa 3) (af (aa 5) (af (aa 8) ai)))) (af (bE (af (aa 9) (af (aa 10) ai))) ai))))) (aF (e2 eO (eB kU (af (aa 3) ai)) (aa 4)))) (aS (eC (.bl false))) cu)))))))) [some sc,some (.int k0),some (.aj k),some (bD ps),a4,a5,a6,a7,a8,a9,gA] s) Q:=by
 rw[wp_sSeq,wp_sIf]
 simp only[wp_tNot,wp_tru,wp_call,wp_aCons,wp_aNil,wp_loc0,wp_locS]
 refine Wp.of (DK hl hf) ?_
 rw[wp_truB]
 cases hb:iT ps with
 |false =>
  simp only[Bool.not_false,if_true,wp_sCont,aft_ct]
  exact(q _ _ _ _ _ _ _ _ h).2
 |true =>
  obtain⟨yY,hg⟩:=vW hb
  simp only[Bool.not_true,Bool.false_eq_true,if_false,wp_sNil,aft_nx]
  rw[wp_sSeq,wp_sAsg]
  simp only[wp_tup,wp_aCons,wp_aNil,wp_eB,wp_loc0,wp_locS,wp_call,wp_C]
  refine Wp.of (Cn hb) ?_
  refine(cW h (by decide) (by decide)).mono λd s1 hd=>?_
  obtain⟨m,rfl,m0,m1,h1,e1⟩:=hd
  refine⟨le_size (by simp only[List.length_cons,List.length_nil];decide),?_⟩
  simp only[asg_T,asg_cons,asg_nil,List.set_cons_succ,List.set_cons_zero,aft_nx]
  rw[wp_sSeq,wp_sAsg,wp_comp]
  refine Wp.of (eY (n:=8) rfl (by decide)) ⟨by rw[cO];exact le_size (by decide),?_⟩
  refine Lr (G:=oP ps m) (b:=bD ps) (mu:=m) (λk s=>Of (by omega) λp hp=>⟨(hg p hp).day,(hg p hp).fI,(hg p hp).apart⟩) rfl λc=>?_
  simp only[asg_N,List.set_cons_succ,List.set_cons_zero,aft_nx]
  rw[wp_sSeq,wp_sAsg]
  have h2:=h1.app c
  simp only[wp_e2,wp_lst,wp_aCons,wp_aNil,wp_C,wp_call,wp_loc0,wp_locS]
  refine(cW h2 (by decide) (by decide)).mono λd s2 hd=>?_
  obtain⟨x1,rfl,jQ,jR,h3,e3⟩:=hd
  refine(cW h3 (by decide) (by decide)).mono λd s3 hd=>?_
  obtain⟨x2,rfl,nA,nB,h4,e4⟩:=hd
  refine⟨le_size (by simp only[List.length_cons,List.length_nil];decide),?_⟩
  rw[wp_comp]
  have cut:bo (jL (aa 3) jK (jz (eC (.int 4)))) [some sc,some (.int k0),some (.aj k),some (bD ps),some (.str (py (bD ps)).shown),some (.int m),some (ow ps m),a7,a8,a9,gA] s3=ok ((ps.take 4).map Pg.d) s3:=by
   refine jZ (Wp.eq ?_)
   simp only[wp_sl,wp_loc0,wp_locS,wp_pNo]
   rw[tK (i:=4) rfl]
   exact Wp.of (ET (n:=4)) ⟨rfl,rfl⟩
  refine Wp.of cut ⟨j9 (by rw[List.length_map,List.length_take];omega),?_⟩
  refine Wp.of (comp_map Pg.d (λ_=>true) (λp=>.int p.day) (ps.take 4) λp hp=>⟨[some p.d],rfl,rfl,λ_=>?_⟩) ?_
  ·refine Wp.eq ?_
   simp only[VC,(lJ p _).2,and_self]
  rw[filter_tt]
  have es:cI (.lst [.int 0,.int 30,.int x1,.int x2]) (.lst ((ps.take 4).map λp=>.int p.day)) s3=ok (lI ([0,30,x1,x2]++(ps.take 4).map Pg.day)) s3:=by
   have e:mL (.lst [.int 0,.int 30,.int x1,.int x2]) (.lst ((ps.take 4).map λp=>.int p.day))=some (lI ([0,30,x1,x2]++(ps.take 4).map Pg.day)):=by
    show (if mK _ _=true then some (D.lst _) else none)=_
    rw[if_pos (by unfold mK;rw[decide_eq_true_eq,List.length_map,List.length_take];exact j9 (by simp only[List.length_cons,List.length_nil];omega))]
    simp[lI,Function.comp_def]
   show bx (mL _ _) s3=_
   rw[show mL (res (.lst [.int 0,.int 30,.int x1,.int x2]) s3) (res (.lst ((ps.take 4).map λp=>.int p.day)) s3)=some (lI ([0,30,x1,x2]++(ps.take 4).map Pg.day)) from e]
   rfl
  refine Wp.of es ?_
  have GZ:∀d∈[0,30,x1,x2]++(ps.take 4).map Pg.day,0<=d/\d<31:=λd hd=>by
   rcases List.mem_append.mp hd with hd|hd
   ·simp only[List.mem_cons,List.not_mem_nil,or_false] at hd
    rcases hd with rfl|rfl|rfl|rfl<;>omega
   ·obtain⟨p,hp,rfl⟩:=List.mem_map.mp hd
    exact(hg p (List.mem_of_mem_take hp)).day
  generalize [0,30,x1,x2]++(ps.take 4).map Pg.day=ds at GZ
  simp only[asg_N,List.set_cons_succ,List.set_cons_zero,aft_nx]
  rw[wp_sFor]
  refine Wp.of (jm (ds:=ds.map D.int) rfl) ?_
  refine Wp.gK (λi env s'=>∃b8 b9 cD,env=[some sc,some (.int k0),some (.aj k),some (bD ps),some (.str (py (bD ps)).shown),some (.int m),some (ow ps m),some (lI ds),b8,b9,cD]/\bc s' k) _ ⟨_,_,_,rfl,h4⟩ (λi d env s' hd hI=>?_) (λenv s' hI=>?_)
  ·obtain⟨b8,b9,cD,rfl,g1⟩:=hI
   rw[List.getElem?_map] at hd
   cases hx:ds[i]? with
   |none=>rw[hx] at hd;cases hd
   |some x =>
    rw[hx] at hd
    cases hd
    refine⟨_,rfl,?_⟩
    simp only[List.set_cons_succ,List.set_cons_zero]
    exact Lu hb ⟨m0,m1⟩ (GZ x (List.mem_of_getElem? hx)) g1 λc9 GW c hc=>⟨_,_,_,rfl,hc⟩
  ·obtain⟨b8,b9,cD,rfl,g1⟩:=hI
   exact(q _ _ _ _ _ _ _ _ g1).1
theorem Lv (W:World) (ns:List Int) (hn:ns.length<=63):∃s,ux W [.bC ns] []=some (.ok (.bl true),s):=by
 suffices h:Wp (ux W [.bC ns] []) λd _=>d=.bl true by
  obtain⟨d,s,e,rfl⟩:=h
  exact⟨s,e⟩
 unfold ux
 simp only[wp_fn,List.length_cons,List.length_nil,Nat.reduceAdd,Nat.reduceSub,List.replicate,List.map_cons,List.map_nil,List.cons_append,List.nil_append,true_and,wp_sSeq,wp_sFor]
 have hr:∃n:Nat,n<=1000/\bF (af (eB mq (af (eC (.int 1)) (af (eB qm (af (eB eQ (af (aa 0) ai)) (af (eC (.int 3)) ai))) ai))) ai) [some (.bC ns),none,none,none,none,none,none,none,none,none,none] []=ok (bM 0 n) []:=by
  have e:∃n:Nat,n<=1000/\(af (eB mq (af (eC (.int 1)) (af (eB qm (af (eB eQ (af (aa 0) ai)) (af (eC (.int 3)) ai))) ai))) ai) [some (.bC ns),none,none,none,none,none,none,none,none,none,none] []=ok [.int n] []:=by
   refine⟨(if (if (3:Int)<ns.length then (3:Int) else ns.length) > 1 then (if (3:Int)<ns.length then (3:Int) else ns.length) else 1).toNat,by split<;>split<;>omega,?_⟩
   rw[Int.toNat_of_nonneg (by split<;>split<;>omega)]
   rfl
  obtain⟨n,h1,h2⟩:=e
  exact⟨n,h1,eY h2 (by omega)⟩
 obtain⟨n,hn,hr⟩:=hr
 refine Wp.of hr ?_
 refine Wp.gK (λi env s=>∃e1 e2 e3 e4 e5 e6 e7 e8 e9 nE,env=[some (.bC ns),e1,e2,e3,e4,e5,e6,e7,e8,e9,nE]) _ ⟨_,_,_,_,_,_,_,_,_,_,rfl⟩ (λi d env s hd hI=>?_) (λenv s hI=>?_)
 ·obtain⟨e1,e2,e3,e4,e5,e6,e7,e8,e9,nE,rfl⟩:=hI
  rw[fZ] at hd
  split at hd
  ·cases hd
   refine⟨_,rfl,?_⟩
   simp only[wp_sSeq,wp_sAsg,asg_N,wp_call,wp_aCons,wp_aNil,wp_loc0,wp_locS,List.set_cons_succ,List.set_cons_zero]
   refine(Lf (by omega)).mono λd s1 hd=>?_
   obtain⟨rfl,h1,c1,rfl⟩:=hd
   generalize s.length=k at h1
   rw[aft_nx,wp_sFor]
   refine Wp.mono (Q:=λds s2=>∃p1 p2:List Pg,ds=[bD p1,bD p2,bD []]/\(p1.length<=1000/\∀p∈p1,fI p)/\(p2.length<=1000/\∀p∈p2,fI p)/\bc s2 k) ?_ λds s2 hd=>?_
   ·unfold bo
    rw[bj]
    simp only[wp_lst,wp_aCons,wp_aNil,wp_sl,wp_call,wp_loc0,wp_locS,wp_pNo,wp_e1,wp_tup]
    refine(MI h1).mono λd s2 hd=>?_
    obtain⟨p1,rfl,f1,l1,h2,x2⟩:=hd
    rw[tK (i:=24) rfl]
    refine Wp.of (ET (n:=24)) ?_
    refine(MG h2).mono λd s3 hd=>?_
    obtain⟨p2,rfl,f2,l2,h3,x3⟩:=hd
    refine Wp.of (show uw 3 (bD p2) s3=ok (bD (cX 3 p2)) s3 by show ok (D.tup (cX 3 (p2.map Pg.d))) s3=_;rw[Ls]) ?_
    refine⟨by decide,le_size (by simp only[List.length_cons,List.length_nil];decide),?_⟩
    simp only[wp_ok]
    exact⟨_,_,rfl,⟨by rw[List.length_take];omega,λp hp=>f1 p (List.mem_of_mem_take hp)⟩,⟨Nat.le_trans (vQ 3 p2 (by decide)) (by omega),λp hp=>f2 p (JO hp)⟩,h3⟩
   ·obtain⟨p1,p2,rfl,g1,g2,h2⟩:=hd
    refine Wp.gK (λj env s=>∃e3 e4 e5 e6 e7 e8 e9 nE,env=[some (.bC ns),some (.int (0+(i:Int))),some (.aj k),e3,e4,e5,e6,e7,e8,e9,nE]/\bc s k) _ ⟨_,_,_,_,_,_,_,_,rfl,h2⟩ (λj d env s hd hI=>?_) (λenv s hI=>?_)
    ·obtain⟨e3,e4,e5,e6,e7,e8,e9,nE,rfl,hs⟩:=hI
     have hg:∃ps:List Pg,d=bD ps/\ps.length<=1000/\∀p∈ps,fI p:=by
      match j,hd with
      |0,hd=>cases hd;exact⟨_,rfl,g1⟩
      |1,hd=>cases hd;exact⟨_,rfl,g2⟩
      |2,hd=>cases hd;exact⟨[],rfl,by decide,λ_ h=>(List.not_mem_nil h).elim⟩
      |j+3,hd=>cases hd
     obtain⟨ps,rfl,gl,gf⟩:=hg
     refine⟨_,rfl,?_⟩
     exact Kd (W:=W) gl gf hs λb4 b5 b6 b7 b8 b9 cD s' G0=>⟨⟨_,_,_,_,_,_,_,_,rfl,G0⟩,⟨_,_,_,_,_,_,_,_,rfl,G0⟩⟩
    ·obtain⟨e3,e4,e5,e6,e7,e8,e9,nE,rfl,hs⟩:=hI
     exact⟨_,_,_,_,_,_,_,_,_,_,rfl⟩
  ·cases hd
 ·obtain⟨e1,e2,e3,e4,e5,e6,e7,e8,e9,nE,rfl⟩:=hI
  simp only[VC]
end DI
namespace DI.iN
open PySem L2 DI
def Df (K:Frag) (x:Str) (st:Stmt):Prop:=∃(f:Addr) (oc:Value) (od:Option Addr) (sl:Array (Option Value)) (kV dc pm:Value) (an:Option Addr) (cd ct:Value),PySem.W.nsIn K mainGlobals x=some (some (.ref f))/\K.lookup f=some ⟨oc,od,.func (PySem.W.fnOf x x (lR st) (j4 st) (aY st) .none kV dc pm an cd ct),sl⟩/\PySem.W.codeIn K cd x=true/\PySem.W.keepIn K (.ref f)=true
theorem Pq {K:Frag} {x:Str} {st:Stmt} {f:Addr} {oc:Value} {od:Option Addr} {sl:Array (Option Value)} {kV dc pm:Value} {an:Option Addr} {cd ct:Value} (a:PySem.W.nsIn K mainGlobals x=some (some (.ref f))) (l:K.lookup f=some ⟨oc,od,.func (PySem.W.fnOf x x (lR st) (j4 st) (aY st) .none kV dc pm an cd ct),sl⟩) (c:PySem.W.codeIn K cd x=true) (k:PySem.W.keepIn K (.ref f)=true):Df K x st:=⟨f,oc,od,sl,kV,dc,pm,an,cd,ct,a,l,c,k⟩
theorem ox {K:Frag} {x:Str} {i:Int} {t:Tok} (e:PySem.W.nsIn K mainGlobals x=some (some (.int i t))):∃t,PySem.W.nsIn K mainGlobals x=some (some (.int i t)):=⟨t,e⟩
theorem bR {K:Frag} {h:Heap} {mg:Str->Option Value} {x:Str} {st:Stmt} {ps:List Str} (X:K.In h) (G:h.Ns mainGlobals mg) (D:Df K x st) (hb:∀(kV doc pm:Value) (an:Option Addr) (aX ct:Value) (us:List Value),us.length=ps.length->bindArgs (PySem.W.fnOf x x (lR st) (j4 st) (aY st) .none kV doc pm an aX ct) ⟨us,[]⟩=pure (ps.zip us)):∃f fd,Gd K mg x st ps f fd:=by
 obtain⟨f,oc,od,sl,kV,dc,pm,an,cd,ct,a,l,c,k⟩:=D
 have F:=D7 (st:=st) l c k
 exact⟨f,_,PySem.W.mg_of X G a,F,F.binds hb⟩
theorem fB {P:List Value->Prop} (h:∀a0:Value,P [a0]) (us:List Value) (hl:us.length=1):P us:=by
 cases us with
 |nil=>simp at hl
 |cons a0 nF =>
 cases nF with
 |cons _ _=>simp at hl
 |nil =>
 exact h a0
theorem jt {P:List Value->Prop} (h:∀a0 a1:Value,P [a0,a1]) (us:List Value) (hl:us.length=2):P us:=by
 cases us with
 |nil=>simp at hl
 |cons a0 nF =>
 cases nF with
 |nil=>simp at hl
 |cons a1 rP =>
 cases rP with
 |cons _ _=>simp at hl
 |nil =>
 exact h a0 a1
theorem kf {P:List Value->Prop} (h:∀a0 a1 a2:Value,P [a0,a1,a2]) (us:List Value) (hl:us.length=3):P us:=by
 cases us with
 |nil=>simp at hl
 |cons a0 nF =>
 cases nF with
 |nil=>simp at hl
 |cons a1 rP =>
 cases rP with
 |nil=>simp at hl
 |cons a2 Ae =>
 cases Ae with
 |cons _ _=>simp at hl
 |nil =>
 exact h a0 a1 a2
theorem Pr {P:List Value->Prop} (h:∀a0 a1 a2 a3:Value,P [a0,a1,a2,a3]) (us:List Value) (hl:us.length=4):P us:=by
 cases us with
 |nil=>simp at hl
 |cons a0 nF =>
 cases nF with
 |nil=>simp at hl
 |cons a1 rP =>
 cases rP with
 |nil=>simp at hl
 |cons a2 Ae =>
 cases Ae with
 |nil=>simp at hl
 |cons a3 Sr =>
 cases Sr with
 |cons _ _=>simp at hl
 |nil =>
 exact h a0 a1 a2 a3
theorem all_mk {P:Program} {w:World} {K:Frag} {h:Heap} {mg:Str->Option Value} {fa:Addr} (X:K.In h) (G:h.Ns mainGlobals mg) (Ss:mg "law"=some (.ref fa))
  (d0:Df K "_law_cell_at" (top 40))
  (d1:Df K "_law_state" (top 41))
  (d2:Df K "_law_take" (top 42))
  (d3:Df K "_law_lived" (top 47))
  (d4:Df K "_law_book" (top 48))
  (d5:Df K "_law_marks" (top 44))
  (d6:Df K "_law_near" (top 46))
  (d7:Df K "is_rising" (top 14))
  (d8:Df K "is_number" (top 9))
  (d9:Df K "is_below" (top 10))
  (Af:Df K "is_mark" (top 11))
  (Ag:Df K "are_marks" (top 21))
  (Ah:Df K "are_apart" (top 23))
  (Ai:Df K "is_sheet" (top 22))
  (Aj:Df K "is_mould" (top 12))
  (Ak:Df K "is_day" (top 13))
  (Al:Df K "is_page" (top 24))
  (Am:Df K "are_laid" (top 25))
  (An:Df K "days_seen" (top 30))
  (Ao:Df K "days_mended" (top 31))
  (Ap:Df K "is_any_behind" (top 29))
  (Aq:Df K "clashes" (top 28))
  (Ar:Df K "faults_of" (top 27))
  (As:Df K "is_book" (top 26))
  (Au:Df K "_law_leads" (top 51))
  (Av:Df K "_law_gone" (top 50))
  (Aw:Df K "_law_may" (top 49))
  (Ax:Df K "_law_same" (top 43))
  (Ay:Df K "need_book" (top 32))
  (Az:Df K "need_mould" (top 15))
  (AA:Df K "need_day" (top 16))
  (fY:Df K "days_present" (top 37))
  (AB:Df K "days_absent" (top 38))
  (AD:Df K "marks_on" (top 36))
  (AE:Df K "sure_sheets" (top 35))
  (AF:Df K "surely" (top 34))
  (dl:Df K "law" (top 52))
  (w9:∃t,PySem.W.nsIn K mainGlobals "MARKS"=some (some (.int (8) t)))
  (wz:∃t,PySem.W.nsIn K mainGlobals "MOULDS"=some (some (.int (4) t)))
  (xC:∃t,PySem.W.nsIn K mainGlobals "DAYS"=some (some (.int (31) t)))
  (xa:∃t,PySem.W.nsIn K mainGlobals "PAGES"=some (some (.int (24) t)))
  (x6:∃t,PySem.W.nsIn K mainGlobals "HAS"=some (some (.int (0) t)))
  (xb:∃t,PySem.W.nsIn K mainGlobals "LACKS"=some (some (.int (1) t)))
  (x8:PySem.W.nsIn K mainGlobals "all"=some none)
  (x9:PySem.W.nsIn K mainGlobals "any"=some none)
  (xD:PySem.W.nsIn K mainGlobals "bool"=some none)
  (ya:PySem.W.nsIn K mainGlobals "int"=some none)
  (vB:PySem.W.nsIn K mainGlobals "isinstance"=some none)
  (yb:PySem.W.nsIn K mainGlobals "len"=some none)
  (xE:PySem.W.nsIn K mainGlobals "list"=some none)
  (yc:PySem.W.nsIn K mainGlobals "max"=some none)
  (yd:PySem.W.nsIn K mainGlobals "min"=some none)
  (xc:PySem.W.nsIn K mainGlobals "range"=some none)
  (xF:PySem.W.nsIn K mainGlobals "repr"=some none)
  (vJ:PySem.W.nsIn K mainGlobals "reversed"=some none)
  (ye:PySem.W.nsIn K mainGlobals "set"=some none)
  (wA:PySem.W.nsIn K mainGlobals "sorted"=some none)
  (xf:PySem.W.nsIn K mainGlobals "tuple"=some none)
  (yf:PySem.W.nsIn K mainGlobals "zip"=some none)
  : ∃fd:FuncData,(∀(s:Shared) (v:Value),BindsTo s fd ⟨[v],[]⟩ [("_law_script",v)])/\∀base:Heap,K.In base->base.Ns mainGlobals mg->aU P w K mg base aZ 11 fa fd ["_law_script"] (uq K):=by
 have g0:=bR (ps:=["_law_script","_law_k"]) X G d0 λ_ _ _ _ _ _=>jt λ_ _=>rfl
 have g1:=bR (ps:=["_law_script","_law_k"]) X G d1 λ_ _ _ _ _ _=>jt λ_ _=>rfl
 have g2:=bR (ps:=["_law_state_here","_law_many"]) X G d2 λ_ _ _ _ _ _=>jt λ_ _=>rfl
 have g3:=bR (ps:=["_law_state_here","_law_mended"]) X G d3 λ_ _ _ _ _ _=>jt λ_ _=>rfl
 have g4:=bR (ps:=["_law_state_here"]) X G d4 λ_ _ _ _ _ _=>fB λ_=>rfl
 have g5:=bR (ps:=["_law_state_here","_law_most"]) X G d5 λ_ _ _ _ _ _=>jt λ_ _=>rfl
 have g6:=bR (ps:=["_law_state_here"]) X G d6 λ_ _ _ _ _ _=>fB λ_=>rfl
 have g7:=bR (ps:=["things"]) X G d7 λ_ _ _ _ _ _=>fB λ_=>rfl
 have g8:=bR (ps:=["thing"]) X G d8 λ_ _ _ _ _ _=>fB λ_=>rfl
 have g9:=bR (ps:=["thing","many"]) X G d9 λ_ _ _ _ _ _=>jt λ_ _=>rfl
 have Su:=bR (ps:=["thing"]) X G Af λ_ _ _ _ _ _=>fB λ_=>rfl
 have Sv:=bR (ps:=["thing"]) X G Ag λ_ _ _ _ _ _=>fB λ_=>rfl
 have Sw:=bR (ps:=["marks","others"]) X G Ah λ_ _ _ _ _ _=>jt λ_ _=>rfl
 have Sx:=bR (ps:=["thing"]) X G Ai λ_ _ _ _ _ _=>fB λ_=>rfl
 have Sy:=bR (ps:=["thing"]) X G Aj λ_ _ _ _ _ _=>fB λ_=>rfl
 have Sz:=bR (ps:=["thing"]) X G Ak λ_ _ _ _ _ _=>fB λ_=>rfl
 have SA:=bR (ps:=["thing"]) X G Al λ_ _ _ _ _ _=>fB λ_=>rfl
 have SD:=bR (ps:=["thing"]) X G Am λ_ _ _ _ _ _=>fB λ_=>rfl
 have SE:=bR (ps:=["pages","mould","mark","half"]) X G An λ_ _ _ _ _ _=>Pr λ_ _ _ _=>rfl
 have SF:=bR (ps:=["pages","mould","mark"]) X G Ao λ_ _ _ _ _ _=>kf λ_ _ _=>rfl
 have SG:=bR (ps:=["days","day","later"]) X G Ap λ_ _ _ _ _ _=>kf λ_ _ _=>rfl
 have SH:=bR (ps:=["pages","mould","mark"]) X G Aq λ_ _ _ _ _ _=>kf λ_ _ _=>rfl
 have SI:=bR (ps:=["pages"]) X G Ar λ_ _ _ _ _ _=>fB λ_=>rfl
 have SJ:=bR (ps:=["thing"]) X G As λ_ _ _ _ _ _=>fB λ_=>rfl
 have SK:=bR (ps:=["_law_later","_law_one","_law_free"]) X G Au λ_ _ _ _ _ _=>kf λ_ _ _=>rfl
 have SM:=bR (ps:=["_law_ahead","_law_one","_law_free"]) X G Av λ_ _ _ _ _ _=>kf λ_ _ _=>rfl
 have SN:=bR (ps:=["_law_laid","_law_mould","_law_mark"]) X G Aw λ_ _ _ _ _ _=>kf λ_ _ _=>rfl
 have SO:=bR (ps:=["_law_found","_law_due"]) X G Ax λ_ _ _ _ _ _=>jt λ_ _=>rfl
 have SQ:=bR (ps:=["thing"]) X G Ay λ_ _ _ _ _ _=>fB λ_=>rfl
 have SR:=bR (ps:=["thing"]) X G Az λ_ _ _ _ _ _=>fB λ_=>rfl
 have SS:=bR (ps:=["thing"]) X G AA λ_ _ _ _ _ _=>fB λ_=>rfl
 have SU:=bR (ps:=["book","mould","mark"]) X G fY λ_ _ _ _ _ _=>kf λ_ _ _=>rfl
 have SV:=bR (ps:=["book","mould","mark"]) X G AB λ_ _ _ _ _ _=>kf λ_ _ _=>rfl
 have SW:=bR (ps:=["days_by_mark","day"]) X G AD λ_ _ _ _ _ _=>jt λ_ _=>rfl
 have SX:=bR (ps:=["book","mould"]) X G AE λ_ _ _ _ _ _=>jt λ_ _=>rfl
 have SY:=bR (ps:=["book","mould","day"]) X G AF λ_ _ _ _ _ _=>kf λ_ _ _=>rfl
 have lP:∃t,mg "MARKS"=some (.int (8) t):=by obtain⟨t,e⟩:=w9;exact⟨t,PySem.W.mg_of X G e⟩
 have sJ:∃t,mg "MOULDS"=some (.int (4) t):=by obtain⟨t,e⟩:=wz;exact⟨t,PySem.W.mg_of X G e⟩
 have lS:∃t,mg "DAYS"=some (.int (31) t):=by obtain⟨t,e⟩:=xC;exact⟨t,PySem.W.mg_of X G e⟩
 have wq:∃t,mg "PAGES"=some (.int (24) t):=by obtain⟨t,e⟩:=xa;exact⟨t,PySem.W.mg_of X G e⟩
 have tY:∃t,mg "HAS"=some (.int (0) t):=by obtain⟨t,e⟩:=x6;exact⟨t,PySem.W.mg_of X G e⟩
 have sQ:∃t,mg "LACKS"=some (.int (1) t):=by obtain⟨t,e⟩:=xb;exact⟨t,PySem.W.mg_of X G e⟩
 have Pt:=PySem.W.mg_none_of X G x8
 have Pu:=PySem.W.mg_none_of X G x9
 have Oi:=PySem.W.mg_none_of X G xD
 have Pw:=PySem.W.mg_none_of X G ya
 have HN:=PySem.W.mg_none_of X G vB
 have Px:=PySem.W.mg_none_of X G yb
 have Oj:=PySem.W.mg_none_of X G xE
 have Py:=PySem.W.mg_none_of X G yc
 have Pz:=PySem.W.mg_none_of X G yd
 have MR:=PySem.W.mg_none_of X G xc
 have Ol:=PySem.W.mg_none_of X G xF
 have Jd:=PySem.W.mg_none_of X G vJ
 have PB:=PySem.W.mg_none_of X G ye
 have Lw:=PySem.W.mg_none_of X G wA
 have MS:=PySem.W.mg_none_of X G xf
 have PC:=PySem.W.mg_none_of X G yf
 obtain⟨f,oc,od,sl,kV,dc,pm,an,cd,ct,a,l,c,k⟩:=dl
 have e:=Ss.symm.trans (PySem.W.mg_of X G a)
 cases e
 have F:=D7 (st:=(top 52)) l c k
 have GL:Gd K mg "law" (top 52) ["_law_script"] _ _:=⟨PySem.W.mg_of X G a,F,F.binds λ_ _ _ _ _ _=>fB λ_=>rfl⟩
 exact⟨_,λs v=>.of_eq rfl,λbase _ _=>NP (N6 ⟨Pt,Pu,Oi,Pw,HN,Px,Oj,Py,Pz,MR,Ol,Jd,PB,Lw,MS,PC,lP,sJ,lS,wq,tY,sQ,g0,g1,g2,g3,g4,g5,g6,g7,g8,g9,Su,Sv,Sw,Sx,Sy,Sz,SA,SD,SE,SF,SG,SH,SI,SJ,SK,SM,SN,SO,SQ,SR,SS,SU,SV,SW,SX,SY⟩ GL) (Lv w)⟩
theorem walk {l:PySem.W.OpenLaw} {q:Program} {loose:List Str} {XP:(Str->Option Value)->Heap->Prop} {YP:World->Heap->Prop} {d:DefRec} {K:Params->Frag} (hn:l.most=some 63) (q0:d.params.defaults=[])
  (hY:∀(w:World) (h:Heap),YP w h->(K w.params).In h)
  (F:∀(w:World) (mg:Str->Option Value) (fa:Addr) (h:Heap),(K w.params).In h->h.Ns mainGlobals mg->mg d.name=some (.ref fa) ->
   ∃fd:FuncData,(∀(s:Shared) (u:Value),BindsTo s fd ⟨[u],[]⟩ [("_law_script",u)])/\∀base:Heap,(K w.params).In base->base.Ns mainGlobals mg->aU l.prog w (K w.params) mg base aZ 11 fa fd ["_law_script"] (uq (K w.params))) :
  PySem.W.WalkO q loose XP YP l.row.toRowW d [] (λf vs=>PySem.call f vs) :=
 L2.LS (n:=63) (k:=11) (x:="_law_script") (CX:=λ_=>aZ) (sp:=λw=>uq (K w.params)) hn (by decide) q0 ⟨rfl,by decide,by decide,rfl⟩ hY F (λ_ _ a ns hl _ hS=>⟨a,ns,rfl,hS,hl,λ_=>rfl⟩) λ_ _ _ _ _ z=>z
end DI.iN
open PySem PySem.W PyProof.Rows
theorem PySem.W.Fast.te12818576342877186292 : True := trivial
theorem PySem.W.Fast.te14953664606404872119:True:=trivial
set_option maxRecDepth 100000 in
set_option maxHeartbeats 0 in
theorem PySem.Challenge.cw_twinmoulds_k04_what_a_mould_surely_has_holds : PySem.Challenge.rw_twinmoulds_k04_what_a_mould_surely_has.Holds := by
 w_on;o_law;k_head;(case hw=>w_witness2)
 k_fill
 refine DI.iN.walk (l:=PySem.Challenge.rw_twinmoulds_k04_what_a_mould_surely_has) rfl rfl (λw h Y=>PySem.W.kIn_of Y) ?F
 case F =>
  intro w mg fa h KX G ra
  refine' DI.iN.all_mk KX G ra ?d0 ?d1 ?d2 ?d3 ?d4 ?d5 ?d6 ?d7 ?d8 ?d9 ?Af ?Ag ?Ah ?Ai ?Aj ?Ak ?Al ?Am ?An ?Ao ?Ap ?Aq ?Ar ?As ?Au ?Av ?Aw ?Ax ?Ay ?Az ?AA ?fY ?AB ?AD ?AE ?AF ?dl ?w9 ?wz ?xC ?xa ?x6 ?xb ?x8 ?x9 ?xD ?ya ?vB ?yb ?xE ?yc ?yd ?xc ?xF ?vJ ?ye ?wA ?xf ?yf
  (case d0|d1|d2|d3|d4|d5|d6|d7|d8|d9|Af|Ag|Ah|Ai|Aj|Ak|Al|Am|An|Ao|Ap|Aq|Ar|As|Au|Av|Aw|Ax|Ay|Az|AA|fY|AB|AD|AE|AF|dl=>refine' DI.iN.Pq ?a ?l ?c ?k;(case a=>k_is);(case l=>k_is);(case c=>k_is);(case k=>k_is))
  (case w9=>refine' DI.iN.ox ?e;(case e=>k_is))
  (case wz=>refine' DI.iN.ox ?e;(case e=>k_is))
  (case xC=>refine' DI.iN.ox ?e;(case e=>k_is))
  (case xa=>refine' DI.iN.ox ?e;(case e=>k_is))
  (case x6=>refine' DI.iN.ox ?e;(case e=>k_is))
  (case xb=>refine' DI.iN.ox ?e;(case e=>k_is))
  (case x8|x9|xD|ya|vB|yb|xE|yc|yd|xc|xF|vJ|ye|wA|xf|yf=>k_is)
