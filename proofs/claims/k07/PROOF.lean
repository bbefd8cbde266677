import PyProof.Rows.All
import Wide.All
import OpenK.AllK
import Wide.FinOn
import Lean
import PyProof.EqAt
import PyProof.EqKinds
import PyProof.TupleCall
import PyProof.NeData
import PyProof.P3In
import PyProof.FactsAll.set
import PyProof.CollectWalk
import PyProof.FactsAll.range
import PyProof.MinMaxWalk
import KE.KMinKey
import PyProof.WalkInts
import PyProof.Rows.CallKwBuiltin
import KE.KSortTup
import PyProof.Rows.Range3
import PyProof.ListRange
import PyProof.DictRoadsH
import KE.KDictList
import PyProof.Rows.SortKeyStr
import PyProof.DictCompW
import PyProof.DictWalks
import PyProof.Rows.CompDC
import PyProof.SumAny
import PyProof.TupleOfGen
import PyProof.CollectIter
import PySem.Challenge.RW_twinmoulds_k07_where_a_sheet_may_be_from
set_option bootstrap.genMatcherCode false
set_option genInjectivity false
set_option genSizeOfSpec false
set_option Elab.async false
set_option linter.all false
set_option maxRecDepth 100000
set_option maxHeartbeats 4000000
local macro_rules | `(tactic| omega) => `(tactic| lia)
open PySem.W (Frag)
open PySem renaming wpAny_bind→WD,wpAny_pure→WG,Shared→WI,sizeLine→WX,wpAny_newObj_type→W8,starEach→Xb,Program→Xf,FuncData→Xg,mainGlobals→Xi,foldedSetIterable→Xo,wpAny_callSpecial?_slot→Xp,wpAny_call_entry→Xs,Around→Xv,bootBuiltins→XA,wpAny_field→XY,wpAny_holding→Yf,compareOp→Yg,wpAny_seqItems→Yr,wpAny_mono→Yy,rawInt→YA,binaryOp→YB,SetTable→YD,wpAny_typeNameOfWhole_keyiter→YE,wpAny_setField→YI,wpAny_truthy_bool→YJ,intKind→YO,Builtin→YS,sysModules→YT,assignEach→YU,wpAny_rule→YV,wpAny_askSetting→YX,wpAny_setField_rec→Y0,wpAny_passesOwn→Y7,letOwnedTupleGo→Y8,wpAny_setState_of→Zc,codeAny_builtin→Zd,codeAny_mono→Ze,wpAny_standAt→Zg,swapsWithSole→Zh,swappedStores→Zi,mem_of_lookup→Zj,wpAny_of_eq→Zk,wpAny_attempt→Zl,wpAny_setEntries_of→Zm,pickOrder→Zs,pyNext→Zy,sizeLine_eq→Zz,wpAny_typeOf→ZD,NameKind→ZJ,fits_of_scanBound→ZL,cellsFrom→ZO,PyData→ZR,firstArgMember→ZS,IsPair→ZT,scanBound→ZV,wpAny_fieldsOf→ZW,wpAny_isInstance→ZY,backTo→Z5,behindInMarks→Z6,wpAny_pyIter_rangeiter→aaf,holding→aai,wpAny_pyIter_list→aaj,wpAny_sequenceKey→aak,sliceBounds→aam,wpAny_storeSet_of→aas,eqIsQuiet_byValue→aaw,wpAny_bindName→aaz,builtinLookup_eq_fast→aaG,wpAny_pyIter_zip→aaI,assignInOrder→aaO,bindName→aaP,wpAny_execs_nil→aaS,assign→aaT,standAt→aaU,codeAny→aaV,DictEntry→aaX,codeAny_of_tree→aaZ,wpAny_specialOf→aa1,getItem→aa6,Fin→abc
open PySem.Heap renaming get?_push_of_some→WE,get?_push_size→WN,lt_size→WS,size_push→XU,get?_update_self→X6,SameBut→Yp,get?_update_other→Zt,ExtBut→aap,get?_update_ne→aa2
open Bool renaming false_eq_true→WH,and_eq_true→WK,false_ne_true→WV,not_true→Xl,true_and→Xq,not_eq_true'→X4,and_self→Yl,false_and→Yq,eq_iff_iff→Yw,not_false→Y4,not_eq_true→Zr,and_true→ZM,or_eq_true→Z9
open List renaming length_map→WJ,replicate→WM,getElem?_eq_some_iff→WO,getElem?_eq_getElem→WQ,mem_cons_self→WR,mem_cons_of_mem→WT,mem_append_right→WU,range→WW,set_cons_succ→WY,set_cons_zero→WZ,getElem?_append_left→W0,size_toArray→W2,mem_cons→W3,map_cons→W4,length_cons→W5,getElem?_map→W6,length_nil→W9,getElem?_set_ne→Xa,getElem?_set_self→Xc,cons_append→Xn,getElem?_append_right→Xr,getElem?_eq_none→Xt,length_append→Xw,pairwise_cons→Xx,mem_range→Xy,map_append→Xz,mem_filter→XF,nil_append→XG,getElem?_range→XJ,mem_map→XN,all_eq_true→XO,not_mem_nil→XQ,map_nil→XT,mem_append→XX,length_set→XZ,append_assoc→X3,getElem?_replicate→X5,length_filter_le→X7,mem_append_left→X8,filter_cons→X9,append_nil→Yb,zip_cons_cons→Yc,map_map→Ye,mem_singleton→Yk,set_append_right→Ym,length_range→Yn,filterMap_cons→Ys,lookup_cons→Yx,replicate_succ→Yz,mem_of_getElem?→YF,ext_getElem?→YL,range_succ→YN,drop_eq_getElem_cons→Y3,flatten_cons→Y9,getD→Zb,length_take→Zo,any_eq_true→Zq,filter_append→Zw,nodup_cons→ZA,length_replicate→ZC,isEmpty_nil→ZZ,map_congr_left→Z1,getElem_of_mem→Z2,length_eq_zero_iff→aab,pairwise_singleton→aac,reverse_cons→aao,nodup_append→aau,flatMap_cons→aax,any_eq_false→aay,length_singleton→aaD,toArray→aaF,getElem_mem→aaH,drop_length→aaJ,mem_flatMap→aaL,pairwise_append→aaN,map_eq_flatMap→aa3,nodup_nil→aa7
open Nat renaming lt_of_lt_of_le→WL,le_trans→W7,ne_of_lt→Xe,lt_irrefl→Xk,zero_le→X1,lt_succ_of_lt→Yi,ne_of_gt→YH,lt_succ_self→YY,le_of_not_lt→Zp,le_succ→aat,le_max_right→aaK,add_assoc→aaQ
open PyProof.Rows renaming slot_tuple_getitem→Xd,callWith_type1→Ya,assignInOrder_cons→YZ,firstMet→Zu,slicePart_none→ZP,entry_tuple_getitem→Z0,args_tuple_getitem→Z8,IntsAre→aal,seqObj→aa4
open PySem.Builtin.Slice renaming slicePlaces→Xh,sliceAdjust→XR,sliceApplied→YQ,sliceFields→ZQ
open Array renaming length_toList→Xj,getElem?_toList→Yd,getD→aan,toList_push→aar
open Int renaming toNat_natCast→Xm,emod_lt_of_pos→Zv,emod_nonneg→aae,zero_add→aa5
open PySem.NameKind renaming free→Xu
open PySem.W renaming mg_none_of→XB,nsIn→XD,mg_of→Y1,keepIn→Y2,fnOf→Zf,cellsFrom_some→aag,findIn→aaA,codeIn→aaB,methodObj→aba
open PySem.Str renaming ofString→XC
open PySem.Builtin.Tuple renaming tupleExact→XE,tupleItemsOf→Yo,tupleIsExact→ZN,tupleHashOf→ZX
open PySem.PassesOwn renaming never→XH
open PySem.Obj renaming data_mapFields→XI,isFreed_of_fields→Yu,mapSeq→YK,cls_mapFields→ZK
open PySem.Builtin.SmallTypes renaming nextOf→XM,ownedTupleIsFree→Yt,ownedTupleHandOut→ZU
open PySem.SetTable renaming below→XW,grown→aaC
open PySem.Heap.SameBut renaming update→X0
open PySem.Builtin.Range renaming rangeFitsLong→X2,rangeSize→YG,rangeFields→aa8
open PySem.PyData renaming eqv→Yh,depthAll→ZH,weightAll→aaM
open Or renaming inl→Yj
open PySem.F renaming slot_dict_keyiterator_next→Yv,slot_tuple_iterator_next→YR,isi_meta_tuple→YW,isi_meta_list→Za,called_set→ZF,slot_range_reversed→ZG,args_tuple_add_2→Z3,entry_tuple_add→Z7,slot_tuple_add→aah,slot_tuple_hash→aav,slot_int_rmul→aaW,slot_zip_next→aaY
open Option renaming map_some→YC
open Function renaming comp_def→YM
open PySem.Around renaming under_plainId→Y5
open PySem.Value renaming type→Y6,ref→Zn,int→aa9
open Ne renaming symm→Zx
open ForInStep renaming yield→ZE
open False renaming elim→ZI
open PySem.Builtin.List renaming listTooLong→Z4,listExtendWith→aa0
open PyProof.Rows.F renaming plain_set_update_loop→aaa
open List.cons renaming injEq→aad
open PySem.SetTable.below renaming go→aaq
open List.Pairwise renaming sublist→aaE
open PySem.Builtin.Dict_items renaming ownsTuple→aaR
open PySem.SetTable.probe renaming go→abb
namespace L2
open PySem PySem.Spec PyProof.Rows
noncomputable abbrev Key:=Sum Int Str
noncomputable def zo:Key->Value->Bool
 | .inl k,v=>Value.isInt k v
 | .inr x,v=>Value.isStrOf x v
noncomputable def Ss (w:World):Key->Int
 | .inl k=>hashInt k
 | .inr x=>hashStr w x
theorem j5:∀{k:Key} {v:Value},zo k v=true->(∃i t,k=Sum.inl i/\v=aa9 i t)\/(∃x t,k=Sum.inr x/\v=Value.str x t)
 | .inl i,v,h=>by
  obtain⟨t,e⟩:=Value.isInt_shape (k:=i) (v:=v) h;exact .inl ⟨i,t,rfl,e⟩
 | .inr x,v,h=>by
  obtain⟨t,e⟩:=Value.isStrOf_shape (x:=x) (v:=v) h;exact .inr ⟨x,t,rfl,e⟩
theorem Pp (a b:Int):decide ((Sum.inl a:Key)=Sum.inl b)=(a==b):=by
 by_cases e:a=b
 ·subst e;simp
 ·have h:¬ (Sum.inl a:Key)=Sum.inl b:=λq=>e (Sum.inl.inj q)
  rw[decide_eq_false h];exact(beq_eq_false_iff_ne.mpr e).symm
theorem Pq (a b:Str):decide ((Sum.inr a:Key)=Sum.inr b)=decide (a=b):=by
 by_cases e:a=b
 ·subst e;simp
 ·have h:¬ (Sum.inr a:Key)=Sum.inr b:=λq=>e (Sum.inr.inj q)
  rw[decide_eq_false h,decide_eq_false e]
theorem Pr (a:Int) (b:Str):decide ((Sum.inl a:Key)=Sum.inr b)=false:=decide_eq_false (λq=>nomatch q)
theorem Pt (a:Str) (b:Int):decide ((Sum.inr a:Key)=Sum.inl b)=false:=decide_eq_false (λq=>nomatch q)
noncomputable def vd (prog:Xf) (w:World):PySem.KeyKind prog w Key where
 is:=zo
 hash:=Ss w
 inj:=λv a b ha hb=>by
  rcases j5 ha with ⟨i,t,rfl,rfl⟩ | ⟨x,t,rfl,rfl⟩
  ·rcases j5 hb with ⟨j,u,rfl,e⟩ | ⟨y,u,rfl,e⟩
   ·injection e with e1 _;rw[e1]
   ·exact nomatch e
  ·rcases j5 hb with ⟨j,u,rfl,e⟩ | ⟨y,u,rfl,e⟩
   ·exact nomatch e
   ·injection e with e1 _;rw[e1]
 byValue:=λk v h=>by
  rcases j5 h with ⟨i,t,rfl,rfl⟩ | ⟨x,t,rfl,rfl⟩<;>rfl
 pyHash:=λhv h=>by
  rcases j5 hv with ⟨i,t,rfl,rfl⟩ | ⟨x,t,rfl,rfl⟩
  ·exact wpAny_pyHash_int h
  ·exact wpAny_pyHash_str h
 eqBool:=λhu hv h=>by
  rcases j5 hu with ⟨i,t,rfl,rfl⟩ | ⟨x,t,rfl,rfl⟩
  ·rcases j5 hv with ⟨j,u,rfl,rfl⟩ | ⟨y,u,rfl,rfl⟩
   ·rw[Pp] at h;exact wpAny_eqBool_int h
   ·rw[Pr] at h;exact SeqAt.EqAt.int_str i t y u _ _ _ _ h
  ·rcases j5 hv with ⟨j,u,rfl,rfl⟩ | ⟨y,u,rfl,rfl⟩
   ·rw[Pt] at h;exact SeqAt.EqAt.str_int x t j u _ _ _ _ h
   ·rw[Pq] at h;exact wpAny_eqBool_str h
 «strs»:=λk x t v h=>by
  rcases j5 h with ⟨i,u,rfl,e⟩ | ⟨y,u,rfl,e⟩
  ·exact nomatch e
  ·injection e with e1 _
   subst e1
   cases v<;>rfl
end L2
namespace L2
open PySem PySem.Spec PyProof.Rows
set_option genInjectivity true in
inductive V where
 |aB|bl (b:Bool)|int (i:Int)|str (x:Str)|iZ (b:Array UInt8)|sA (b:UInt64)|ref (a:Addr)|ty (n:String)
 deriving DecidableEq
noncomputable def RelV:V->Value->Prop
 | .aB,u=>u=Value.none
 | .bl b,u=>u=Value.bool b
 | .int i,u=>∃t,u=aa9 i t
 | .str x,u=>∃t,u=Value.str x t
 | .iZ b,u=>∃t,u=Value.bytes b t
 | .sA b,u=>∃t,u=Value.float b t
 | .ref a,u=>u=Zn a
 | .ty n,u=>u=Y6 n
noncomputable abbrev Vals:List V->List Value->Prop:=Paired RelV
theorem Vals.length {xs:List V} {us:List Value} (r:Vals xs us):xs.length=us.length:=Paired.length r
theorem Vals.get:∀{xs:List V} {us:List Value} {i:Nat} {x:V},Vals xs us->xs[i]?=some x->∃u,us[i]?=some u/\RelV x u
 |_,_,_,_,.nil,e=>by simp at e
 |_,_,0,_,.cons r _,e=>by simp at e;subst e;exact⟨_,rfl,r⟩
 |_,_,i+1,x,.cons _ t,e=>by
  obtain⟨u,h1,h2⟩:=Vals.get (i:=i) (x:=x) t (by simpa using e);exact⟨u,by simpa using h1,h2⟩
theorem Vals.set {x:V} {u:Value} (r:RelV x u):∀{xs:List V} {us:List Value} (i:Nat),Vals xs us->Vals (xs.set i x) (us.set i u)
 |_,_,_,.nil=>.nil
 |_,_,0,.cons _ t=>.cons r t
 |_,_,i+1,.cons q t=>.cons q (Vals.set r i t)
theorem Vals.append:∀{xs ys:List V} {us ws:List Value},Vals xs us->Vals ys ws->Vals (xs++ys) (us++ws)
 |_,_,_,_,.nil,s=>s
 |_,_,_,_,.cons r t,s=>.cons r (Vals.append t s)
theorem Vals.take:∀{xs:List V} {us:List Value} (n:Nat),Vals xs us->Vals (xs.take n) (us.take n)
 |_,_,0,_=>.nil
 |_,_,_ + 1,.nil=>.nil
 |_,_,n+1,.cons r t=>.cons r (Vals.take n t)
theorem Vals.drop:∀{xs:List V} {us:List Value} (n:Nat),Vals xs us->Vals (xs.drop n) (us.drop n)
 |_,_,0,r=>r
 |_,_,_ + 1,.nil=>.nil
 |_,_,n+1,.cons _ t=>Vals.drop n t
noncomputable def HH:Option V->Option Value->Prop
 |some v,some u=>RelV v u
 |none,none=>True
 |_,_=>False
noncomputable def KV {κ:Type}:List (κ×V)->List (κ×Value)->Prop:=Paired λ(p:κ×V) (q:κ×Value)=>p.1=q.1/\RelV p.2 q.2
noncomputable def kV:Key->V
 | .inl i=>.int i
 | .inr x=>.str x
inductive HO where
 |lst (xs:List V)
 |tup (xs:List V)
 |dK (aq:List (Key×V))|dT (aq:List (List Key×V))
 |set (S:Int->Bool) (n:Nat)
 |ins (C dx:Addr) (fs:List (Str×V))
 |own (x:Addr)
 |xd (fs:List (Str×V))
 |met (f x:Addr)
 |bV (lo hi:Int)
 |cL (o:Obj) (u:HO)
 |n5 (ps:Array Value)
 |ext (φ:Heap->Prop)
noncomputable abbrev Hp:=Addr->Option HO
noncomputable def upd (H:Hp) (a:Addr) (o:HO):Hp:=λb=>if b=a then some o else H b
theorem dP {H:Hp} {a:Addr} {o:HO}:upd H a o a=some o:=by unfold upd;rw[if_pos rfl]
theorem bF {H:Hp} {a b:Addr} {o:HO} (h:b≠a):upd H a o b=H b:=by unfold upd;rw[if_neg h]
theorem eO {H:Hp} {a b:Addr} {o:HO} (h:H a=some o) (h':H b=none):a≠b:=by
 intro e;subst e;rw[h] at h';cases h'
section
variable (P:Xf) (w:World)
noncomputable def dD (H:Hp) (h:Heap) (a:Addr):HO->Prop
 | .lst xs=>xs.length<=WX/\∃(its:List Value) (n:Nat),Vals xs its/\h.get? a=some { cls:=.type "list",data:=.seq its.toArray n }
 | .tup xs=>xs.length<=WX/\∃its:List Value,Vals xs its/\IsTup h a its.toArray
 | .dK aq=>aq.length<=WX/\(a==YT)=false/\∃vs,KV aq vs/\h.DictOf (vd P w) a vs
 | .dT aq=>aq.length<=WX/\(a==YT)=false/\∃xs:List (List Key×Addr×Value),
   Paired (λ(p:List Key×V) (q:List Key×Addr×Value)=>p.1=q.1/\H q.2.1=some (.tup (p.1.map kV))/\RelV p.2 q.2.2) aq xs /\
   ∃o es ep,h.get? a=some o/\o.ExactDict/\o.data=.dict es ep/\es.toList=xs.map (entryOfKey (tupleKind (vd P w)))/\(xs.map (·.1)).Nodup
 | .set S n=>h.SetOf (YO P w) a S n
 | .ins C dx fs=>H dx=some (.own a)/\fs.length<=1000/\dx≠a/\h.get? a=some (PySem.W.instObj C dx) /\
   ∃mA,h.Ns1 dx mA/\(∀f,HH (fs.lookup f) (mA f))/\PySem.Within mA (fs.map (·.1))
 | .own _=>∃o,h.get? a=some o
 | .xd fs=>∃mA,h.Ns1 a mA/\∀f,HH (fs.lookup f) (mA f)
 | .bV lo hi=>∃t u v,h.get? a=some { cls:=.type "range",data:=.fields #[.int lo t,.int hi u,.int 1 v] }
 | .cL o u=>h.get? a=some o/\dD H h a u
 | .n5 ps=>h.get? a=some { cls:=.none,data:=.fields ps }
 | .met f x=>h.get? a=some (aba (.ref f) (.ref x))
 | .ext φ=>φ h/\(∃o,h.get? a=some o)/\∀h1 h2:Heap,φ h1->(∀o,h1.get? a=some o->h2.get? a=some o)->φ h2
def cA (H:Hp) (h:Heap):Prop:=∀a o,H a=some o->dD P w H h a o
end
section
variable {P:Xf} {w:World} {H H':Hp} {h h':Heap} {a:Addr} {o:HO}
theorem dD.lt (x:dD P w H h a o):a<h.objs.size:=by
 cases o with
 |lst xs=>obtain⟨_,_,_,_,e⟩:=x;exact WS e
 |tup xs=>obtain⟨_,_,_,p⟩:=x;exact p.lt
 |dK aq=>obtain⟨_,_,_,_,o,_,_,e,_⟩:=x;exact WS e
 |dT aq=>obtain⟨_,_,_,_,o,_,_,e,_⟩:=x;exact WS e
 |set S n=>obtain⟨o,_,_,_,e,_⟩:=x;exact WS e
 |ins C dx fs=>obtain⟨_,_,_,e,_⟩:=x;exact WS e
 |own y=>obtain⟨_,e⟩:=x;exact WS e
 |xd fs=>obtain⟨_,⟨_,_,_,e,_⟩,_⟩:=x;exact WS e
 |bV lo hi=>obtain⟨_,_,_,e⟩:=x;exact WS e
 |cL ob u=>obtain⟨e,_⟩:=x;exact WS e
 |n5 ps=>exact WS (show h.get? a=some _ from x)
 |met f y=>exact WS (show h.get? a=some _ from x)
 |ext φ=>obtain⟨_,⟨_,e⟩,_⟩:=x;exact WS e
theorem Paired.HI {α β:Type} {F G:α->β->Prop}:∀{HJ:List α} {HK:List β},Paired F HJ HK->(∀a b,F a b->G a b)->Paired G HJ HK
 |_,_,.nil,_=>.nil
 |_,_,.cons r t,f=>.cons (f _ _ r) (Paired.HI t f)
theorem dD.gM (x:dD P w H h a o) (k:∀b u,(b=a\/H b=some (.own a))->h.get? b=some u->h'.get? b=some u)
  (ho:∀b,H b=some (.own a)->H' b=some (.own a)) (ht:∀b xs,H b=some (.tup xs)->H' b=some (.tup xs)):dD P w H' h' a o:=by
 induction o with
 |lst xs=>obtain⟨z,its,n,r,e⟩:=x;exact⟨z,its,n,r,k _ _ (.inl rfl) e⟩
 |tup xs=>obtain⟨z,its,r,ob,e,c⟩:=x;exact⟨z,its,r,ob,k _ _ (.inl rfl) e,c⟩
 |dK aq=>obtain⟨z,y,vs,r,ob,es,ep,e,c⟩:=x;exact⟨z,y,vs,r,ob,es,ep,k _ _ (.inl rfl) e,c⟩
 |dT aq =>
  obtain⟨z,y,xs,r,ob,es,ep,e,c⟩:=x;exact⟨z,y,xs,Paired.HI r λp q z=>⟨z.1,ht _ _ z.2.1,z.2.2⟩,ob,es,ep,k _ _ (.inl rfl) e,c⟩
 |set S n=>obtain⟨ob,es,ep,t,e,c⟩:=x;exact⟨ob,es,ep,t,k _ _ (.inl rfl) e,c⟩
 |ins C dx fs =>
  obtain⟨d,z,ne,e,mA,⟨od,es,ep,e2,c⟩,r⟩:=x;exact⟨ho _ d,z,ne,k _ _ (.inl rfl) e,mA,⟨od,es,ep,k _ _ (.inr d) e2,c⟩,r⟩
 |own y=>obtain⟨ob,e⟩:=x;exact⟨ob,k _ _ (.inl rfl) e⟩
 |xd fs=>obtain⟨mA,⟨od,es,ep,e,c⟩,r⟩:=x;exact⟨mA,⟨od,es,ep,k _ _ (.inl rfl) e,c⟩,r⟩
 |bV lo hi=>obtain⟨t,u,v,e⟩:=x;exact⟨t,u,v,k _ _ (.inl rfl) e⟩
 |cL ob u ih=>obtain⟨e,q⟩:=x;exact⟨k _ _ (.inl rfl) e,ih q⟩
 |n5 ps =>
  have e:h.get? a=some { cls:=.none,data:=.fields ps }:=x;show h'.get? a=some { cls:=.none,data:=.fields ps };exact k a _ (.inl rfl) e
 |met f y =>
  have e:h.get? a=some (aba (.ref f) (.ref y)):=x;show h'.get? a=some (aba (.ref f) (.ref y));exact k a _ (.inl rfl) e
 |ext φ=>obtain⟨p,⟨o,e⟩,st⟩:=x;exact⟨st _ _ p λo q=>k _ _ (.inl rfl) q,⟨o,k _ _ (.inl rfl) e⟩,st⟩
theorem cA.lt (x:cA P w H h) (e:H a=some o):a<h.objs.size:=(x a o e).lt
theorem cA.fresh (x:cA P w H h) (e:h.objs.size<=a):H a=none:=by
 cases q:H a with
 |none=>rfl
 |some u=>exact absurd (WL (x.lt q) e) (Xk _)
theorem cA.kept (x:cA P w H h) (k:∀b u,h.get? b=some u->h'.get? b=some u):cA P w H h':=λa o e =>
 (x a o e).gM (λb u _ q=>k b u q) (λ_ q=>q) λ_ _ q=>q
theorem cA.laid (x:cA P w H h) (k:∀b u,h.get? b=some u->h'.get? b=some u) (hp:h.objs.size<=a) (new:dD P w (upd H a o) h' a o):cA P w (upd H a o) h':=λb u e=>by
 have hn:=x.fresh hp;by_cases hb:b=a
 ·subst hb;rw[dP] at e;cases e;exact new
 ·rw[bF hb] at e
  exact(x b u e).gM (λc v _ q=>k c v q) (λc q=>by rw[bF (eO q hn)];exact q) λc xs q=>by rw[bF (eO q hn)];exact q
end
def Rd (H:Hp) (a:Addr) (u:HO):Prop:=H a=some u\/∃o,H a=some (.cL o u)
theorem Rd.ok {P:Xf} {w:World} {H:Hp} {h:Heap} {a:Addr} {u:HO} (r:Rd H a u) (x:cA P w H h):dD P w H h a u:=by
 rcases r with r | ⟨o,r⟩
 ·exact x a u r
 ·obtain⟨_,q⟩:=x a _ r
  exact q
noncomputable def sC:Option HO->Prop
 |some (.lst _)=>True
 |some (.dK _)=>True
 |some (.dT _)=>True
 |some (.set _ _)=>True
 |some (.ins _ _ _)=>True
 |some (.ext _)=>True
 |_=>False
section
variable {P:Xf} {w:World} {H:Hp} {h h':Heap} {x e:Addr} {o':HO}
theorem cA.write (ok:cA P w H h) (mu:sC (H x)) (he:e=x\/H e=some (.own x)) (k:∀b u,b≠e->h.get? b=some u->h'.get? b=some u) (qx:∃u,h'.get? e=some u)
  (new:dD P w (upd H x o') h' x o'):cA P w (upd H x o') h':=λb u q=>by
 have HL:∀c y,H c=some (.own y)->c≠x:=λc y r z=>by subst z;rw[r] at mu;exact mu
 have Su:∀c xs,H c=some (.tup xs)->c≠x:=λc xs r z=>by subst z;rw[r] at mu;exact mu
 by_cases hb:b=x
 ·subst hb;rw[dP] at q;cases q;exact new
 ·rw[bF hb] at q
  by_cases n6:b=e
  ·have q':H b=some (.own x):=by
    rcases he with z|z
    ·exact absurd (n6.trans z) hb
    ·rw[n6];exact z
   rw[q] at q';cases q';obtain⟨v,hv⟩:=qx;exact⟨v,by rw[n6];exact hv⟩
  ·refine(ok b u q).gM (λc v hc r=>k c v ?_ r) (λc r=>by rw[bF (HL c b r)];exact r) λc xs r=>by rw[bF (Su c xs r)];exact r
   rcases hc with rfl|hc
   ·exact n6
   ·rintro rfl
    rcases he with z|z
    ·exact HL c b hc z
    ·rw[hc] at z;cases z;exact hb rfl
end
structure Un (fs ex:List Addr) (H H':Hp) (h h':Heap):Prop where
 keep:∀b o,h.get? b=some o->H b=none->b∉fs->b∉ex->h'.get? b=some o
 slot:∀b o,h.get? b=some o->H b=none->b∈fs->b∉ex->∃sl,h'.get? b=some { o with slots:=sl }
 free:∀b o,h.get? b=some o->H b=none->b∉ex->H' b=none
 there:∀b o,h.get? b=some o->b∉ex->∃o',h'.get? b=some o'
 jm:∀b xs,H b=some (.tup xs)->H' b=some (.tup xs)
 iT:∀b o u,H b=some (.cL o u)->H' b=some (.cL o u)
 jG:∀b ps,H b=some (.n5 ps)->∃more,H' b=some (.n5 (ps++more))
section
variable {fs TL ex Wi:List Addr} {H H1 H2:Hp} {h h1 h2 h':Heap} {a x e:Addr} {o:HO}
theorem Un.any (u:Un fs ex H H1 h h1) {b:Addr} {ob:Obj} (q:h.get? b=some ob) (n:H b=none) (hx:b∉ex):∃sl,h1.get? b=some { ob with slots:=sl }:=by
 by_cases hb:b∈fs
 ·exact u.slot b ob q n hb hx
 ·exact⟨ob.slots,u.keep b ob q n hb hx⟩
theorem Un.kept (k:∀b u,h.get? b=some u->h'.get? b=some u):Un fs ex H H h h' :=
 ⟨λb ob q _ _ _=>k b ob q,λb ob q _ _ _=>⟨ob.slots,k b ob q⟩,λ_ _ _ n _=>n,λb ob q _=>⟨ob,k b ob q⟩,λ_ _ q=>q,λ_ _ _ q=>q,λ_ ps q=>⟨#[],by rw[q];simp⟩⟩
theorem Un.refl:Un fs ex H H h h:=Un.kept λ_ _ q=>q
theorem Un.laid (k:∀b u,h.get? b=some u->h'.get? b=some u) (hp:h.objs.size<=a) (hn:H a=none):Un fs ex H (upd H a o) h h' where
 keep:=λb u q _ _ _=>k b u q
 slot:=λb u q _ _ _=>⟨u.slots,k b u q⟩
 free:=λb u q n _=>by rw[bF (Xe (WL (WS q) hp))];exact n
 there:=λb u q _=>⟨u,k b u q⟩
 jm:=λb xs q=>by rw[bF (eO q hn)];exact q
 iT:=λb u xs q=>by rw[bF (eO q hn)];exact q
 jG:=λb ps q=>⟨#[],by rw[bF (eO q hn),q];simp⟩
theorem Un.write (mu:sC (H x)) (he:e=x\/H e=some (.own x)) (k:∀b u,b≠e->h.get? b=some u->h'.get? b=some u) (qx:∃u,h'.get? e=some u):Un fs ex H (upd H x o) h h':=by
 have hx:∀b,H b=none->b≠x:=λb n z=>by subst z;rw[n] at mu;exact mu
 have hb:∀b,H b=none->b≠e:=λb n z=>by
  subst z
  rcases he with r|r
  ·exact hx b n r
  ·rw[n] at r;cases r
 have hm:∀b u,H b=some u->¬ sC (some u)->b≠x:=λb u q nm z=>by subst z;rw[q] at mu;exact nm mu
 refine⟨λb u q n _ _=>k b u (hb b n) q,λb u q n _ _=>⟨u.slots,k b u (hb b n) q⟩,λb u q n _=>by rw[bF (hx b n)];exact n,λb u q _=>?_,
  λb xs q=>by rw[bF (hm b _ q λz=>z)];exact q,λb u xs q=>by rw[bF (hm b _ q λz=>z)];exact q,λb ps q=>⟨#[],by rw[bF (hm b _ q λz=>z),q];simp⟩⟩
 by_cases n6:b=e
 ·subst n6;exact qx
 ·exact⟨u,k b u n6 q⟩
end
noncomputable def wK (h:Heap) (H:Hp):List Addr:=(WW h.objs.size).filter λa=>(H a).isSome
noncomputable def lP (h:Heap) (H:Hp):Heap:=PySem.W.hideAll h (wK h H)
theorem Lr (h:Heap) (H:Hp):(lP h H).objs.size=h.objs.size:=PySem.W.hideAll_size _ _
theorem MH {h:Heap} {H:Hp} {b:Addr} {o:Obj} (e:h.get? b=some o) (n:H b=none):(lP h H).get? b=some o :=
 PySem.W.hideAll_get _ e λhm=>by
  have q:(H b).isSome=true:=(XF.mp hm).2;rw[n] at q;simp at q
theorem NU {h:Heap} {H:Hp} {b:Addr} {o:Obj} (e:(lP h H).get? b=some o):h.get? b=some o/\H b=none:=by
 have e':h.get? b=some o:=PySem.W.of_hideAll (wK h H) e;refine⟨e',?_⟩
 cases q:H b with
 |none=>rfl
 |some x =>
  have hm:b∈wK h H:=XF.mpr ⟨Xy.mpr (WS e'),by simp[q]⟩;have z:(lP h H).get? b=none:=PySem.W.hideAll_none (wK h H) hm;rw[z] at e;cases e
noncomputable def NV (g h:Heap) (L:Addr):List (Addr×Obj):=(WW h.objs.size).filterMap λa=>if a=L\/(g.get? a).isSome=true then none else (h.get? a).map λo=>(a,o)
noncomputable def rest (g h:Heap) (L d:Addr):List (Addr×Obj):=(NV g h L).filter λp=>decide (p.1≠d)
end L2
namespace L2
open PySem PySem.Spec PyProof.Rows
structure Mod (K:Frag) (mg:Str->Option Value) (base:Heap):Prop where
 sD:K.In base
 glob:base.Ns Xi mg
 blt:∃mb,base.Ns builtinsNs mb/\∀x:Str,x≠"__name__"->mb x=XA x
 nolimit:base.NoLimit
structure Cx where
 prog:Xf
 w:World
 K:Frag
 mg:Str->Option Value
 base:Heap
 A:Xv
 N:List Str
 dg:WI
 rZ:Hp
 env:Env
 outer:List Env
 stack:List Env
 ex:List Addr
 fn:Str->Bool
 calm:Bool
 pn:List (Addr×Obj)
 xe:Value->WI->Prop
noncomputable def gR (l:List Env):List Addr:=l.filterMap (·.frame)
noncomputable abbrev Cx.fs (X:Cx):List Addr:=gR X.outer
def sE (sc:Scope) (x:Str):Prop:=sc.names.lookup x=some .local\/sc.names.lookup x=some .cell\/sc.names.lookup x=some .free
def Loc (sc:Scope) (x:Str):Prop:=sc.names.lookup x=some .local\/sc.names.lookup x=some .cell
def Look (env:Env) (h:Heap) (m:Str->Option Value) (x:Str) (u:Value):Prop :=
 (env.kindOf x=some .local/\m x=some u)\/((env.kindOf x=some .cell\/env.kindOf x=some .free)/\∃c,env.cells.lookup x=some c/\h.IsCell c (some u))
structure Cx.Ok (X:Cx):Prop where
 mod:Mod X.K X.mg X.base
 kind:X.env.scope.kind=.function
 glob:X.env.globals=Xi
 blt:X.env.builtins=builtinsNs
 above:X.dg.heap.objs.size<=X.env.locals
 inj:∀x y c,X.env.cells.lookup x=some c->X.env.cells.lookup y=some c->x=y
 has:∀x,(X.env.kindOf x=some .cell\/X.env.kindOf x=some .free)->∃c,X.env.cells.lookup x=some c
 sF:∀x c,X.fn x=true->X.env.cells.lookup x=some c->X.dg.heap.objs.size<=c
 hd:X.calm=true->X.A.handled=none
 frames:X.A.frames=some X.stack
 wL:X.stack=X.outer\/(X.stack=X.env::X.outer/\X.env.frame=some X.env.locals)
 Iu:∀b∈X.ex,b≠X.env.locals/\∀x c,X.env.cells.lookup x=some c->c≠b
 bs:∀b o,X.base.get? b=some o->X.dg.heap.get? b=some o/\X.rZ b=none
 jr:X.base.objs.size<=X.dg.heap.objs.size
 mz:∀b o,X.base.get? b=some o->b∉X.ex
 wc:∀b∈X.ex,b∉X.fs
 jH:X.dg.heap.FunFrames X.base X.outer
 qy:∀b∈X.fs,X.rZ b=none
structure Inv (X:Cx) (pins:List (Addr×Obj)) (σ:List (Option V)) (H:Hp) (s:WI):Prop where
 ok:X.Ok
 os:s.os=X.dg.os
 bare:AllBare s.gens
 base:Un X.fs X.ex X.rZ H X.dg.heap s.heap
 loc:∃m,s.heap.Ns X.env.locals m/\∀(i:Nat) (x:Str) (v:V),X.N[i]?=some x->σ[i]?=some (some v)->sE X.env.scope x->∃u,RelV v u/\Look X.env s.heap m x u
 cell:∀x c,X.env.cells.lookup x=some c->∃v,s.heap.IsCell c v
 free:H X.env.locals=none
 fy:∀x c,X.env.cells.lookup x=some c->H c=none
 pin:∀p∈X.pn++pins,s.heap.get? p.1=some p.2/\H p.1=none/\p.1≠X.env.locals/\p.1∉X.fs/\∀v,p.2.data≠.cell v
 aM:cA X.prog X.w H s.heap
 len:σ.length=X.N.length
section
variable {X:Cx} {pins:List (Addr×Obj)} {σ:List (Option V)} {H H':Hp} {s:WI} {h':Heap}
theorem Cx.Ok.Sv (ok:X.Ok) {b:Addr} {o:Obj} (e:X.base.get? b=some o):b∉X.fs:=λhb=>by
 have:=(ok.jH.mem hb).1;rw[e] at this;cases this
theorem Inv.bs (I:Inv X pins σ H s):∀b o,X.base.get? b=some o->s.heap.get? b=some o/\H b=none:=λb o e =>
 ⟨I.base.keep b o (I.ok.bs b o e).1 (I.ok.bs b o e).2 (I.ok.Sv e) (I.ok.mz b o e),I.base.free b o (I.ok.bs b o e).1 (I.ok.bs b o e).2 (I.ok.mz b o e)⟩
theorem Inv.bk (I:Inv X pins σ H s):∀b o,X.base.get? b=some o->s.heap.get? b=some o:=λb o e=>(I.bs b o e).1
theorem Inv.mod (I:Inv X pins σ H s):Mod X.K X.mg X.base:=I.ok.mod
theorem Inv.qz (I:Inv X pins σ H s):X.K.In s.heap:=I.ok.mod.sD.keeps I.bk
theorem Inv.lt (I:Inv X pins σ H s):X.env.locals<s.heap.objs.size:=let ⟨_,hn,_⟩:=I.loc;hn.lt
theorem Inv.sz (I:Inv X pins σ H s):X.dg.heap.objs.size<=s.heap.objs.size:=W7 I.ok.above (Nat.le_of_lt I.lt)
theorem Inv.r6 (I:Inv X pins σ H s) {a:Addr} (h:s.heap.objs.size<=a):a∉X.fs:=λhb=>by
 obtain⟨_,o,ho,_⟩:=I.ok.jH.mem hb;exact absurd (WL (WS ho) (W7 I.sz h)) (Xk _)
theorem Inv.n9 (I:Inv X pins σ H s):∀x c,X.env.cells.lookup x=some c->c≠X.env.locals:=λx c e z=>by
 obtain⟨v,o,ho,hd⟩:=I.cell x c e;obtain⟨m,⟨o',es,ep,dZ,hV,_⟩,_⟩:=I.loc;rw[z,dZ] at ho;cases ho;rw[hV] at hd;cases hd
theorem Inv.jH (I:Inv X pins σ H s):s.heap.FunFrames X.base X.outer:=by
 have all:∀(l:List Env),(∀b∈gR l,b∈X.fs)->X.dg.heap.FunFrames X.base l->s.heap.FunFrames X.base l:=by
  intro l
  induction l with
  |nil=>intro _ _;trivial
  |cons env r ih =>
   intro hs hl;obtain⟨hk,⟨L,o,hf,hn,ho,hd⟩,hr⟩:=hl;have hL:L∈X.fs:=hs L (by unfold gR;rw[Ys,hf];exact WR);obtain⟨sl,e⟩:=I.base.slot L o ho (I.ok.qy L hL) hL λz=>I.ok.wc L z hL;exact⟨hk,⟨L,_,hf,hn,e,hd⟩,ih (λb hb=>hs b (by unfold gR;rw[Ys,hf];exact WT _ hb)) hr⟩
 exact all X.outer (λ_ hb=>hb) I.ok.jH
theorem Inv.stack (I:Inv X pins σ H s):s.heap.FunFrames X.base X.stack:=by
 rcases I.ok.wL with e | ⟨e,hf⟩
 ·rw[e];exact I.jH
 ·rw[e]
  obtain⟨m,hn,_⟩:=I.loc;refine .cons (by rw[I.ok.kind];decide) hf hn ?_ I.jH;exact Heap.get?_none_of_le (W7 I.ok.jr I.ok.above)
theorem Inv.lh (I:Inv X pins σ H s):∀b∈gR X.stack,b∈X.env.locals::X.fs:=λb hb=>by
 rcases I.ok.wL with e | ⟨e,hf⟩
 ·rw[e] at hb;exact WT _ hb
 ·rw[e] at hb
  unfold gR at hb;rw[Ys,hf] at hb;exact hb
theorem Inv.ym (I:Inv X pins σ H s):∀b∈gR X.stack,H b=none:=λb hb=>by
 rcases W3.mp (I.lh b hb) with e|hb
 ·rw[e];exact I.free
 ·obtain⟨_,o,ho,_⟩:=I.ok.jH.mem hb
  exact I.base.free b o ho (I.ok.qy b hb) λz=>I.ok.wc b z hb
theorem Inv.step {g':Array GenState} {t':Nat} {d':Drawn} {ch:List Addr} (I:Inv X pins σ H s)
  (kz:∀b∈ch,(b∈X.ex\/X.dg.heap.objs.size<=b)/\b≠X.env.locals/\(∀x c,X.env.cells.lookup x=some c->c≠b)/\∀p∈X.pn++pins,p.1≠b)
  (keep:∀b o,b≠X.env.locals->b∉X.fs->b∉ch->s.heap.get? b=some o->H b=none->h'.get? b=some o)
  (slot:∀b o,b≠X.env.locals->b∈X.fs->b∉ch->s.heap.get? b=some o->H b=none->∃sl,h'.get? b=some { o with slots:=sl }) (free:∀b o,b∉ch->s.heap.get? b=some o->H b=none->H' b=none)
  (there:∀b o,b∉ch->s.heap.get? b=some o->∃o',h'.get? b=some o')
  (jm:∀b xs,H b=some (.tup xs)->H' b=some (.tup xs)) (iT:∀b o u,H b=some (.cL o u)->H' b=some (.cL o u)) (jG:∀b ps,H b=some (.n5 ps)->∃more,H' b=some (.n5 (ps++more)))
  (ns:∀m,s.heap.Ns X.env.locals m->h'.Ns X.env.locals m) (aM:cA X.prog X.w H' h') (hg:AllBare g') :
  Inv X pins σ H' { s with heap:=h',gens:=g',drawn:=d',toks:=t' }:=by
 have Iv:∀b o,X.dg.heap.get? b=some o->b≠X.env.locals:=λb o e=>Xe (WL (WS e) I.ok.above);have wM:∀b o,X.dg.heap.get? b=some o->b∉X.ex->b∉ch:=λb o e hx hb=>by
  rcases(kz b hb).1 with z|z
  ·exact hx z
  ·exact absurd (WL (WS e) z) (Xk _)
 have cellK:∀x c,X.env.cells.lookup x=some c->∀v,s.heap.IsCell c v->h'.IsCell c v:=λx c e v ⟨o,ho,hd⟩=>by
  have sG:c∉ch:=λz=>(kz c z).2.2.1 x c e rfl;by_cases hc:c∈X.fs
  ·obtain⟨sl,q⟩:=slot c o (I.n9 x c e) hc sG ho (I.fy x c e)
   exact⟨_,q,hd⟩
  ·exact⟨o,keep c o (I.n9 x c e) hc sG ho (I.fy x c e),hd⟩
 refine⟨I.ok,I.os,hg,⟨λb o e n hb hx=>?_,λb o e n hb hx=>?_,λb o e n hx=>?_,λb o e hx=>?_,λb xs e=>jm b xs (I.base.jm b xs e),λb o xs e=>iT b o xs (I.base.iT b o xs e),λb ps e=>?_⟩,?_,λx c e=>?_,?_,λx c e=>?_,λp hp=>?_,aM,I.len⟩
 ·exact keep b o (Iv b o e) hb (wM b o e hx) (I.base.keep b o e n hb hx) (I.base.free b o e n hx)
 ·obtain⟨sl,e1⟩:=I.base.slot b o e n hb hx
  obtain⟨TM,e2⟩:=slot b _ (Iv b o e) hb (wM b o e hx) e1 (I.base.free b o e n hx);exact⟨TM,e2⟩
 ·obtain⟨o',e1⟩:=I.base.there b o e hx
  exact free b o' (wM b o e hx) e1 (I.base.free b o e n hx)
 ·obtain⟨o',e1⟩:=I.base.there b o e hx
  exact there b o' (wM b o e hx) e1
 ·obtain⟨m1,e1⟩:=I.base.jG b ps e
  obtain⟨m2,e2⟩:=jG b _ e1;exact⟨m1++m2,by rw[e2,Array.append_assoc]⟩
 ·obtain⟨m,hn,hl⟩:=I.loc
  refine⟨m,ns m hn,λi x v e1 e2 e3=>?_⟩;obtain⟨u,r,l⟩:=hl i x v e1 e2 e3;refine⟨u,r,?_⟩
  rcases l with l | ⟨k,c,e,z⟩
  ·exact .inl l
  ·exact .inr ⟨k,c,e,cellK x c e _ z⟩
 ·obtain⟨v,z⟩:=I.cell x c e
  exact⟨v,cellK x c e v z⟩
 ·obtain⟨m,⟨o,_,_,ho,_⟩,_⟩:=I.loc
  exact free _ o (λz=>(kz _ z).2.1 rfl) ho I.free
 ·obtain⟨v,o,ho,hd⟩:=I.cell x c e
  exact free c o (λz=>(kz c z).2.2.1 x c e rfl) ho (I.fy x c e)
 ·obtain⟨e,n,ne,nf,d⟩:=I.pin p hp
  have sG:p.1∉ch:=λz=>(kz p.1 z).2.2.2 p hp rfl;exact⟨keep p.1 p.2 ne nf sG e n,free p.1 p.2 sG e n,ne,nf,d⟩
theorem Inv.un {t':Nat} (I:Inv X pins σ H s) (u:Un X.fs [] H H' s.heap h') (aM:cA X.prog X.w H' h'):Inv X pins σ H' { s with heap:=h',toks:=t' }:=by
 obtain⟨m,⟨o,es,ep,ho,r⟩,_⟩:=id I.loc;obtain⟨sl,hL⟩:=u.any ho I.free (by simp)
 exact I.step (g':=s.gens) (d':=s.drawn) (ch:=[]) (λ_ z=>nomatch z) (λb o _ hb _ e n=>u.keep b o e n hb (by simp)) (λb o _ hb _ e n=>u.slot b o e n hb (by simp)) (λb o _ e n=>u.free b o e n (by simp)) (λb o _ e=>u.there b o e (by simp)) u.jm u.iT u.jG (λm' hm=>by
  obtain⟨o',fZ,sH,dZ,r'⟩:=hm;rw[ho] at dZ;cases dZ;exact⟨_,fZ,sH,hL,r'⟩) aM I.bare
theorem Inv.call {g':Array GenState} {t':Nat} {d':Drawn} {ch:List Addr} (I:Inv X pins σ H s) (u:Un (gR X.stack) ch H H' s.heap h') (aM:cA X.prog X.w H' h') (hg:AllBare g')
  (kz:∀b∈ch,(b∈X.ex\/X.dg.heap.objs.size<=b)/\b≠X.env.locals/\(∀x c,X.env.cells.lookup x=some c->c≠b)/\∀p∈X.pn++pins,p.1≠b) :
  Inv X pins σ H' { s with heap:=h',gens:=g',drawn:=d',toks:=t' }:=by
 obtain⟨m,⟨o,es,ep,ho,r⟩,_⟩:=id I.loc;obtain⟨sl,hL⟩:=u.any ho I.free λz=>(kz _ z).2.1 rfl;exact I.step (ch:=ch) kz (λb o hL hb hc e n=>u.keep b o e n (λz=>(W3.mp (I.lh b z)).elim hL hb) hc) (λb o _ _ hc e n=>u.any e n hc) (λb o hc e n=>u.free b o e n hc) (λb o hc e=>u.there b o e hc) u.jm u.iT u.jG (λm' hm=>by
  obtain⟨o',fZ,sH,dZ,r'⟩:=hm;rw[ho] at dZ;cases dZ;exact⟨_,fZ,sH,hL,r'⟩) aM hg
theorem Inv.turned {t':Nat} {it:Addr} (I:Inv X pins σ H s) (k:∀b o,b≠it->s.heap.get? b=some o->h'.get? b=some o) (hn:H it=none) (hL:it≠X.env.locals)
  (h1:it∈X.ex\/X.dg.heap.objs.size<=it) (h2:∀x c,X.env.cells.lookup x=some c->c≠it) (h3:∀p∈X.pn++pins,p.1≠it):Inv X pins σ H { s with heap:=h',toks:=t' }:=by
 have Iw:∀b u,H b=some u->b≠it:=λb u e z=>by rw[z,hn] at e;cases e
 refine I.step (g':=s.gens) (d':=s.drawn) (ch:=[it]) (λb hb=>?_) (λb o _ _ hc e _=>k b o (λz=>hc (by simp[z])) e) (λb o _ _ hc e _=>⟨o.slots,k b o (λz=>hc (by simp[z])) e⟩) (λ_ _ _ _ n=>n)
  (λb o hc e=>⟨o,k b o (λz=>hc (by simp[z])) e⟩) (λ_ _ e=>e) (λ_ _ _ e=>e) (λb ps e=>⟨#[],by rw[e];simp⟩) (λm hm=>?_) (λb u e=>?_) I.bare
 ·have e:b=it:=by simpa using hb
  subst e;exact⟨h1,hL,h2,h3⟩
 ·obtain⟨o,es,ep,ho,r⟩:=hm
  exact⟨o,es,ep,k _ o (Zx hL) ho,r⟩
 ·refine(I.aM b u e).gM (λc v hc q=>k c v ?_ q) (λ_ q=>q) λ_ _ q=>q
  rcases hc with z|z
  ·rw[z];exact Iw b u e
  ·exact Iw c _ z
theorem Inv.tok (I:Inv X pins σ H s) (t:Nat):Inv X pins σ H { s with toks:=t }:=I.un (h':=s.heap) (t':=t) Un.refl I.aM
theorem Inv.kept {t':Nat} (I:Inv X pins σ H s) (k:∀b u,s.heap.get? b=some u->h'.get? b=some u):Inv X pins σ H { s with heap:=h',toks:=t' }:=I.un (Un.kept k) (I.aM.kept k)
theorem Inv.laid {a:Addr} {o:HO} {t':Nat} (I:Inv X pins σ H s) (k:∀b u,s.heap.get? b=some u->h'.get? b=some u) (hp:s.heap.objs.size<=a) (new:dD X.prog X.w (upd H a o) h' a o) :
  Inv X pins σ (upd H a o) { s with heap:=h',toks:=t' }:=I.un (Un.laid k hp (I.aM.fresh hp)) (I.aM.laid k hp new)
theorem Inv.write {x e:Addr} {o:HO} {t':Nat} (I:Inv X pins σ H s) (mu:sC (H x)) (he:e=x\/H e=some (.own x)) (k:∀b u,b≠e->s.heap.get? b=some u->h'.get? b=some u) (qx:∃u,h'.get? e=some u)
  (new:dD X.prog X.w (upd H x o) h' x o):Inv X pins σ (upd H x o) { s with heap:=h',toks:=t' }:=I.un (Un.write mu he k qx) (I.aM.write mu he k qx new)
theorem Inv.kZ {Hc:List (Addr×Obj)} (I:Inv X pins σ H s) (h:∀p∈Hc,s.heap.get? p.1=some p.2/\H p.1=none/\p.1≠X.env.locals/\p.1∉X.fs/\∀v,p.2.data≠.cell v):Inv X Hc σ H s :=
 ⟨I.ok,I.os,I.bare,I.base,I.loc,I.cell,I.free,I.fy,λp hp=>(XX.mp hp).elim (λz=>I.pin p (X8 _ z)) (h p),I.aM,I.len⟩
theorem En {N:List Str} (hN:N.Nodup) {i j:Nat} {x:Str} (a:N[i]?=some x) (b:N[j]?=some x):i=j:=by
 obtain⟨h1,e1⟩:=WO.mp a;obtain⟨h2,e2⟩:=WO.mp b;exact(List.getElem_inj hN).mp (e1.trans e2.symm)
theorem Ls {M:Model} {A:Xv} {E:Value->WI->Prop} {i:Nat} {x:Str} {v:V} {u:Value} {Q:Unit->WI->Prop} (I:Inv X pins σ H s) (hN:X.N.Nodup) (hi:X.N[i]?=some x) (hx:Loc X.env.scope x) (r:RelV v u)
  (h:∀s',Inv X pins (σ.set i (some v)) H s'->(∃a,Yp a s.heap s'.heap/\(a=X.env.locals\/X.env.cells.lookup x=some a))->Q () s') (hf:X.fn x=true\/X.env.scope.names.lookup x=some .local:=by first|exact .inl rfl|exact .inr rfl|assumption):wpAny M A (storeName X.env x u) Q E s:=by
 obtain⟨m,hn,hl⟩:=id I.loc;have Sw:(X.env.scope.kind==.class||(X.env.scope.kind==.module&&X.env.locals != X.env.globals))=false:=by rw[I.ok.kind];rfl
 have HM:i < σ.length:=by rw[I.len];exact(WO.mp hi).1
 have n9:=I.n9;have tracked:∀{a:Addr} {h':Heap},(∃o,s.heap.get? a=some o/\H a=none)->Yp a s.heap h'->cA X.prog X.w H h':=λ{a h'} ha hs b ob e=>by
  obtain⟨_,_,Hd⟩:=ha;refine(I.aM b ob e).gM (λc w' hc q=>(hs.2 c ?_).trans q) (λ_ q=>q) λ_ _ q=>q;rintro rfl
  rcases hc with rfl|hc
  ·rw[Hd] at e;cases e
  ·rw[Hd] at hc;cases hc
 rcases hx with hk|hk
 ·refine wpAny_storeName_local hk hn (λh' Iy hs=>?_) Sw
  obtain⟨oL,_,_,sI,_⟩:=id hn;refine h _ ⟨I.ok,I.os,I.bare,⟨λb o e n hb hx=>?_,λb o e n hb hx=>?_,I.base.free,λb o e hx=>?_,I.base.jm,I.base.iT,I.base.jG⟩,⟨_,Iy,λj y v' e1 e2 e3=>?_⟩,λy c e=>?_,I.free,I.fy,λp hp=>?_,tracked ⟨oL,sI,I.free⟩ hs,by simpa using I.len⟩ ⟨_,hs,.inl rfl⟩
  ·exact(hs.2 b (Xe (WL (WS e) I.ok.above))).trans (I.base.keep b o e n hb hx)
  ·obtain⟨sl,e1⟩:=I.base.slot b o e n hb hx
   exact⟨sl,(hs.2 b (Xe (WL (WS e) I.ok.above))).trans e1⟩
  ·obtain⟨o',e1⟩:=I.base.there b o e hx
   exact⟨o',(hs.2 b (Xe (WL (WS e) I.ok.above))).trans e1⟩
  ·by_cases hj:j=i
   ·subst hj
    rw[hi] at e1;cases e1;rw[Xc HM] at e2;cases e2;exact⟨u,r,.inl ⟨hk,by simp⟩⟩
   ·rw[Xa (Zx hj)] at e2
    obtain⟨u',r',q⟩:=hl j y v' e1 e2 e3;refine⟨u',r',?_⟩
    rcases q with ⟨k,e⟩ | ⟨k,c,e,z⟩
    ·refine .inl ⟨k,?_⟩
     have:y≠x:=λe=>hj (En hN e1 (e ▸ hi));simp[this,e]
    ·exact .inr ⟨k,c,e,z.sameBut hs (n9 y c e)⟩
  ·obtain⟨w',z⟩:=I.cell y c e
   exact⟨w',z.sameBut hs (n9 y c e)⟩
  ·obtain⟨e,n,ne,nf,d⟩:=I.pin p hp
   exact⟨(hs.2 p.1 ne).trans e,n,ne,nf,d⟩
 ·have Ay:X.fn x=true:=by
   rcases hf with z|z
   ·exact z
   ·rw[z] at hk;cases hk
  obtain⟨c,hc⟩:=I.ok.has x (.inl hk);obtain⟨w',z⟩:=I.cell x c hc;refine wpAny_storeName_cell I.ok.kind hk hc z (λh' iC hs=>?_);obtain⟨oc,Iz,Sx⟩:=id z
  refine h { s with heap:=h' } ⟨I.ok,I.os,I.bare,⟨λb o e n hb hx=>?_,λb o e n hb hx=>?_,I.base.free,λb o e hx=>?_,I.base.jm,I.base.iT,I.base.jG⟩,⟨m,hn.sameBut hs (Zx (n9 x c hc)),λj y v' e1 e2 e3=>?_⟩,λy c' e=>?_,I.free,I.fy,λp hp=>?_,tracked ⟨oc,Iz,I.fy x c hc⟩ hs,by simpa using I.len⟩ ⟨c,hs,.inr hc⟩
  ·exact(hs.2 b (Xe (WL (WS e) (I.ok.sF x c Ay hc)))).trans (I.base.keep b o e n hb hx)
  ·obtain⟨sl,e1⟩:=I.base.slot b o e n hb hx
   exact⟨sl,(hs.2 b (Xe (WL (WS e) (I.ok.sF x c Ay hc)))).trans e1⟩
  ·obtain⟨o',e1⟩:=I.base.there b o e hx
   exact⟨o',(hs.2 b (Xe (WL (WS e) (I.ok.sF x c Ay hc)))).trans e1⟩
  ·by_cases hj:j=i
   ·subst hj
    rw[hi] at e1;cases e1;rw[Xc HM] at e2;cases e2;exact⟨u,r,.inr ⟨.inl hk,c,hc,iC⟩⟩
   ·rw[Xa (Zx hj)] at e2
    obtain⟨u',r',q⟩:=hl j y v' e1 e2 e3;refine⟨u',r',?_⟩
    rcases q with q | ⟨k,c',e,z'⟩
    ·exact .inl q
    ·refine .inr ⟨k,c',e,z'.sameBut hs ?_⟩
     rintro rfl;exact hj (En hN e1 (I.ok.inj _ _ _ e hc ▸ hi))
  ·by_cases IA:c'=c
   ·subst IA;exact⟨_,iC⟩
   ·obtain⟨w2,z2⟩:=I.cell y c' e
    exact⟨w2,z2.sameBut hs IA⟩
  ·obtain⟨e,n,ne,nf,d⟩:=I.pin p hp
   refine⟨(hs.2 p.1 ?_).trans e,n,ne,nf,d⟩;intro q;rw[q,Iz] at e;have q':oc=p.2:=Option.some.inj e;exact d w' (by rw[<- q'];exact Sx)
theorem l8 {M:Model} {A:Xv} {E:Value->WI->Prop} {i:Nat} {x:Str} {v:V} {u:Value} {Q:Unit->WI->Prop} (I:Inv X pins σ H s) (hN:X.N.Nodup) (hi:X.N[i]?=some x) (hx:Loc X.env.scope x) (r:RelV v u)
  (h:∀s',Inv X pins (σ.set i (some v)) H s'->Q () s') (hf:X.fn x=true\/X.env.scope.names.lookup x=some .local:=by first|exact .inl rfl|exact .inr rfl|assumption):wpAny M A (storeName X.env x u) Q E s :=
 Ls I hN hi hx r (λs' I' _=>h s' I') hf
theorem Inv.zp {s':WI} {ch:List Addr} (I:Inv X pins σ H s) (ho:s'.os=s.os) (u:Un (gR X.stack) ch H H' s.heap s'.heap) (aM:cA X.prog X.w H' s'.heap) (hg:AllBare s'.gens)
  (kz:∀b∈ch,(b∈X.ex\/X.dg.heap.objs.size<=b)/\b≠X.env.locals/\(∀x c,X.env.cells.lookup x=some c->c≠b)/\∀p∈X.pn++pins,p.1≠b):Inv X pins σ H' s':=by
 obtain⟨h',g',d',t',o'⟩:=s';have e:o'=s.os:=ho;subst e;exact I.call (g':=g') (t':=t') (d':=d') u aM hg kz
end
noncomputable abbrev XK:=Value->Option Addr->Hp->Prop
noncomputable abbrev St:=List (Option V)
noncomputable abbrev VK:=V->Hp->Prop
noncomputable abbrev TE:=St->Hp->VK->Prop
noncomputable abbrev TT:=St->Hp->(Bool->Hp->Prop)->Prop
noncomputable abbrev TA:=St->Hp->(List V->Hp->Prop)->Prop
structure Ends where
 nx:St->Hp->Prop
 rt:VK
 bk:St->Hp->Prop:=λ_ _=>False
 ct:St->Hp->Prop:=λ_ _=>False
noncomputable abbrev TS:=Ends->St->Hp->Prop
def EP (X:Cx) (pins:List (Addr×Obj)) (σ:St) (Q:VK) (u:Value) (s':WI):Prop:=∃v H',Inv X pins σ H' s'/\RelV v u/\Q v H'
def TP (X:Cx) (pins:List (Addr×Obj)) (σ:St) (Q:Bool->Hp->Prop) (b:Bool) (s':WI):Prop:=∃H',Inv X pins σ H' s'/\Q b H'
def AP (X:Cx) (pins:List (Addr×Obj)) (σ:St) (Q:List V->Hp->Prop) (us:List Value) (s':WI):Prop:=∃vs H',Inv X pins σ H' s'/\Vals vs us/\Q vs H'
def SP (X:Cx) (pins:List (Addr×Obj)) (D:Ends) (f:Flow) (s':WI):Prop :=
 match f with
 | .next=>∃ aT H',Inv X pins aT H' s'/\D.nx aT H'
 | .brk=>∃ aT H',Inv X pins aT H' s'/\D.bk aT H'
 | .cont=>∃ aT H',Inv X pins aT H' s'/\D.ct aT H'
 | .ret u=>∃v aT H',Inv X pins aT H' s'/\RelV v u/\D.rt v H'
def PE (X:Cx) (e:Expr) (t:TE):Prop :=
 ∀(pins:List (Addr×Obj)) (s:WI) (σ:St) (H:Hp) (Q:VK),Inv X pins σ H s->t σ H Q->wpAny (model X.prog X.w) X.A (eval e X.env) (EP X pins σ Q) X.xe s
def PT (X:Cx) (e:Expr) (t:TT):Prop :=
 ∀(pins:List (Addr×Obj)) (s:WI) (σ:St) (H:Hp) (Q:Bool->Hp->Prop),Inv X pins σ H s->t σ H Q->wpAny (model X.prog X.w) X.A (isTrue e X.env (eval e X.env)) (TP X pins σ Q) X.xe s
def PW (X:Cx) (e:Expr) (t:TT):Prop :=
 ∀(whole:Sem Value) (pins:List (Addr×Obj)) (s:WI) (σ:St) (H:Hp) (Q:Bool->Hp->Prop),Inv X pins σ H s->t σ H Q->wpAny (model X.prog X.w) X.A (isTrue e X.env whole) (TP X pins σ Q) X.xe s
theorem PW.pt {X:Cx} {e:Expr} {t:TT} (h:PW X e t):PT X e t:=h _
def PA (X:Cx) (es:List Expr) (t:TA):Prop :=
 ∀(pos:Pos) (pins:List (Addr×Obj)) (s:WI) (σ:St) (H:Hp) (Q:List V->Hp->Prop),Inv X pins σ H s->t σ H Q->wpAny (model X.prog X.w) X.A (spliced (Z5 pos (Xb es X.env))) (AP X pins σ Q) X.xe s
def PS (X:Cx) (st:Stmt) (t:TS):Prop :=
 ∀(pins:List (Addr×Obj)) (s:WI) (σ:St) (H:Hp) (D:Ends),Inv X pins σ H s->t D σ H->wpAny (model X.prog X.w) X.A (exec st X.env) (SP X pins D) X.xe s
def dH (X:Cx) (st:List Stmt) (t:TS):Prop :=
 ∀(pins:List (Addr×Obj)) (s:WI) (σ:St) (H:Hp) (D:Ends),Inv X pins σ H s->t D σ H->wpAny (model X.prog X.w) X.A (execs st X.env) (SP X pins D) X.xe s
theorem aK {α:Type} {t:Sem α} {Q Q':α->WI->Prop} {M:Model} {A:Xv} {E:Value->WI->Prop} {s:WI} (h:wpAny M A t Q E s) (hQ:∀a s,Q a s->Q' a s):wpAny M A t Q' E s:=Yy h hQ λ_ _ x=>x
end L2
namespace L2
open PySem PySem.Spec PyProof.Rows
section
variable {X:Cx}
noncomputable def Sy (i:Nat):TE:=fun σ H Q=>∃v,σ[i]?=some (some v)/\Q v H
noncomputable def tC (v:V):TE:=λ_ H Q=>Q v H
theorem Pu {i:Nat} {x:Str} {pos:Pos} (hN:X.N[i]?=some x) (hv:sE X.env.scope x) (hd:(x==("__debug__":Str))=false:=by decide) (jP:(x==("__classdict__":Str))=false:=by decide):PE X (.Name x pos) (Sy i):=by
 intro pins s σ H Q I h;obtain⟨v,e,h⟩:=h;obtain⟨m,hn,hl⟩:=I.loc;obtain⟨u,r,l⟩:=hl i x v hN e hv;have fin:EP X pins σ Q u s:=⟨v,H,I,r,h⟩
 rcases l with ⟨hk,hm⟩ | ⟨hk,c,hc,ml⟩
 ·exact wpAny_Name (wpAny_loadName_local I.ok.kind hk hn hm fin) hd
 ·rcases hk with hk|hk
  ·exact wpAny_Name (wpAny_loadName_cell I.ok.kind hk hc ml fin) hd
  ·exact wpAny_Name (wpAny_loadName_free I.ok.kind hk hc ml fin jP) hd
theorem yP {i j pos}:PE X (.Constant (.int i) j pos) (tC (.int i)):=λ_ _ _ H _ I h=>wpAny_Constant_int ⟨.int i,H,I.tok _,⟨_,rfl⟩,h⟩
theorem Q8 {b j pos}:PE X (.Constant (.bool b) j pos) (tC (.bl b)):=λ_ _ _ H _ I h=>Constant_bool ⟨.bl b,H,I,rfl,h⟩
theorem Pw {x j pos}:PE X (.Constant (.str x) j pos) (tC (.str x)):=λ_ _ _ H _ I h=>Calls.Constant_str ⟨.str x,H,I.tok _,⟨_,rfl⟩,h⟩
def Gl (X:Cx) (x:Str):Prop:=X.env.kindOf x=some .globalImplicit
theorem Fd {E:Value->WI->Prop} {pins:List (Addr×Obj)} {s:WI} {σ:St} {H:Hp} {x:Str} {u:Value} {pos:Pos} {Q:Value->WI->Prop} (I:Inv X pins σ H s) (hg:Gl X x) (hm:X.mg x=some u) (h:Q u s)
  (hd:(x==("__debug__":Str))=false:=by decide):wpAny (model X.prog X.w) X.A (eval (.Name x pos) X.env) Q E s :=
 Calls.Name_function_global I.ok.kind hg (Calls.loadGlobal_global (by rw[I.ok.glob];exact I.mod.glob.keeps I.bk) hm h) hd
theorem lj {E:Value->WI->Prop} {pins:List (Addr×Obj)} {s:WI} {σ:St} {H:Hp} {x:Str} {u:Value} {pos:Pos} {Q:Value->WI->Prop} (I:Inv X pins σ H s) (hg:Gl X x) (hm:X.mg x=none) (hv:XA x=some u) (h:Q u s)
  (hn:x≠"__name__":=by decide) (hd:(x==("__debug__":Str))=false:=by decide):wpAny (model X.prog X.w) X.A (eval (.Name x pos) X.env) Q E s:=by
 obtain⟨mb,h1,h2⟩:=I.mod.blt;exact Calls.Name_function_global I.ok.kind hg (Calls.loadGlobal_builtin (by rw[I.ok.glob];exact I.mod.glob.keeps I.bk) hm (by rw[I.ok.blt];exact h1.keeps I.bk) ((h2 x hn).trans hv) h) hd
theorem NW {x:Str} {v:V} {u:Value} {pos:Pos} (hg:Gl X x) (hm:X.mg x=some u) (r:RelV v u) (hd:(x==("__debug__":Str))=false:=by decide):PE X (.Name x pos) (tC v) :=
 λ_ _ _ H _ I h=>Fd I hg hm ⟨v,H,I,r,h⟩ hd
theorem yn {x:Str} {v:V} {u:Value} {pos:Pos} (hg:Gl X x) (hm:X.mg x=none) (hv:XA x=some u) (r:RelV v u) (hn:x≠"__name__":=by decide) (hd:(x==("__debug__":Str))=false:=by decide):PE X (.Name x pos) (tC v) :=
 λ_ _ _ H _ I h=>lj I hg hm hv ⟨v,H,I,r,h⟩ hn hd
variable {a b:Expr} {ta tb:TE} {pos:Pos}
variable {tA wN:TT} {rest:List Expr}
noncomputable def cx (t u:TT):TT:=fun σ H Q=>t σ H λc H1=>if c=true then u σ H1 Q else Q false H1
noncomputable def gS (t u:TT):TT:=fun σ H Q=>t σ H λc H1=>if c=true then Q true H1 else u σ H1 Q
noncomputable def dF (t:TT):TT:=fun σ H Q=>t σ H λc H1=>Q (!c) H1
theorem NX (ha:PT X a tA):PW X (.BoolOp .And [a] pos) tA:=by
 intro wh pins s σ H Q I h;refine isTrue_and (aK (ha pins s σ H Q I h) λc s1 e=>?_)
 cases c with
 |true=>exact isTrue_and_nil e
 |false=>exact e
theorem Px (ha:PT X a tA):PW X (.BoolOp .Or [a] pos) tA:=by
 intro wh pins s σ H Q I h;refine isTrue_or (aK (ha pins s σ H Q I h) λc s1 e=>?_)
 cases c with
 |false=>exact isTrue_or_nil e
 |true=>exact e
theorem Py (ha:PT X a tA) (hb:PW X (.BoolOp .And (b::rest) pos) wN):PW X (.BoolOp .And (a::b::rest) pos) (cx tA wN):=by
 intro wh pins s σ H Q I h;refine isTrue_and (aK (ha pins s σ H _ I h) λc s1 ⟨H1,I1,q1⟩=>?_)
 cases c with
 |true=>exact hb wh pins s1 σ H1 Q I1 q1
 |false=>exact⟨H1,I1,q1⟩
theorem Q9 (ha:PT X a tA) (hb:PW X (.BoolOp .Or (b::rest) pos) wN):PW X (.BoolOp .Or (a::b::rest) pos) (gS tA wN):=by
 intro wh pins s σ H Q I h;refine isTrue_or (aK (ha pins s σ H _ I h) λc s1 ⟨H1,I1,q1⟩=>?_)
 cases c with
 |true=>exact⟨H1,I1,q1⟩
 |false=>exact hb wh pins s1 σ H1 Q I1 q1
theorem Pz (ha:PT X a tA):PT X (.UnaryOp .Not a pos) (dF tA):=by
 intro pins s σ H Q I h;exact isTrue_not (ha pins s σ H (λc H1=>Q (!c) H1) I h)
noncomputable def Ra (ta tb:TE):TE:=fun σ H Q=>ta σ H λx H1=>∃c,x=.bl c/\if c=true then tb σ H1 Q else Q (.bl false) H1
noncomputable def Sz (ta tb:TE):TE:=fun σ H Q=>ta σ H λx H1=>∃c,x=.bl c/\if c=true then Q (.bl true) H1 else tb σ H1 Q
noncomputable def Rb (ta:TE):TE:=fun σ H Q=>ta σ H λx H1=>∃c,x=.bl c/\Q (.bl (!c)) H1
theorem PB {op} {t:TE} (h:PE X a t):PE X (.BoolOp op [a] pos) t:=λpins s σ H Q I hw=>BoolOp_one (h pins s σ H Q I hw)
theorem PC (ha:PE X a ta) (hb:PE X (.BoolOp .And (b::rest) pos) tb):PE X (.BoolOp .And (a::b::rest) pos) (Ra ta tb):=by
 intro pins s σ H Q I h;refine BoolOp_and (aK (ha pins s σ H _ I h) λv s1 ⟨x,H1,I1,r1,q1⟩=>?_);obtain⟨c,rfl,q1⟩:=q1;cases r1;refine YJ ?_
 cases c with
 |true=>exact hb pins s1 σ H1 Q I1 q1
 |false=>exact⟨.bl false,H1,I1,rfl,q1⟩
theorem Rc (ha:PE X a ta) (hb:PE X (.BoolOp .Or (b::rest) pos) tb):PE X (.BoolOp .Or (a::b::rest) pos) (Sz ta tb):=by
 intro pins s σ H Q I h;refine BoolOp_or (aK (ha pins s σ H _ I h) λv s1 ⟨x,H1,I1,r1,q1⟩=>?_);obtain⟨c,rfl,q1⟩:=q1;cases r1;refine YJ ?_
 cases c with
 |false=>exact hb pins s1 σ H1 Q I1 q1
 |true=>exact⟨.bl true,H1,I1,rfl,q1⟩
theorem PD (ha:PE X a ta):PE X (.UnaryOp .Not a pos) (Rb ta):=by
 intro pins s σ H Q I h;refine UnaryOp_ (aK (ha pins s σ H _ I h) λv s1 ⟨x,H1,I1,r1,q1⟩=>?_);obtain⟨c,rfl,q1⟩:=q1;cases r1;exact not_of (YJ ⟨.bl (!c),H1,I1,rfl,q1⟩)
noncomputable def TN (t:TT) (ta tb:TE):TE:=fun σ H Q=>t σ H λc H1=>if c=true then ta σ H1 Q else tb σ H1 Q
theorem MI {c:Expr} (hc:PT X c tA) (ha:PE X a ta) (hb:PE X b tb):PE X (.IfExp c a b pos) (TN tA ta tb):=by
 intro pins s σ H Q I h;refine wpAny_IfExp (aK (hc pins s σ H _ I h) λd s1 ⟨H1,I1,q1⟩=>?_)
 cases d with
 |true=>exact ha pins s1 σ H1 Q I1 q1
 |false=>exact hb pins s1 σ H1 Q I1 q1
end
end L2
namespace L2
open PySem PySem.Spec PyProof.Rows
def ba (K:Frag) (H:Hp) (a:Addr) (xs:List V):Prop :=
 Rd H a (.lst xs) \/
  ∃(o:Obj) (its:Array Value) (n:Nat),K.lookup a=some o/\o.cls=.type "list"/\o.dict=none/\o.data=.seq its n/\its.size<=WX/\Vals xs its.toList
def aZ (K:Frag) (H:Hp) (a:Addr) (xs:List V):Prop :=
 Rd H a (.tup xs) \/
  ∃(o:Obj) (its:Array Value) (n:Nat),K.lookup a=some o/\o.cls=.type "tuple"/\o.data=.seq its n/\its.size<=WX/\Vals xs its.toList
noncomputable def SA:Value->Option V
 | .none=>some .aB
 | .bool b=>some (.bl b)
 | .int i _=>some (.int i)
 | .str x _=>some (.str x)
 | .bytes b _=>some (.iZ b)
 | .float b _=>some (.sA b)
 | .ref a=>some (.ref a)
 | .type n=>some (.ty n)
 |_=>none
theorem RelV.abs {x:V} {u:Value} (r:RelV x u):SA u=some x:=by
 cases x with
 |aB=>cases r;rfl
 |bl _=>cases r;rfl
 |int _=>obtain⟨t,rfl⟩:=r;rfl
 |str _=>obtain⟨t,rfl⟩:=r;rfl
 |iZ _=>obtain⟨t,rfl⟩:=r;rfl
 |sA _=>obtain⟨t,rfl⟩:=r;rfl
 |ref _=>cases r;rfl
 |ty _=>cases r;rfl
theorem RelV.inj {x y:V} {u:Value} (r:RelV x u) (q:RelV y u):x=y:=Option.some.inj (r.abs.symm.trans q.abs)
theorem Vals.inj:∀{xs ys:List V} {us:List Value},Vals xs us->Vals ys us->xs=ys
 |_,_,_,.nil,.nil=>rfl
 |_,_,_,.cons r t,.cons r' t'=>by rw[r.inj r',Vals.inj t t']
section
variable {X:Cx} {pins:List (Addr×Obj)} {σ:St} {H:Hp} {s:WI} {a:Addr} {xs ys:List V}
theorem ba.of {K:Frag} (h:H a=some (.lst xs)):ba K H a xs:=.inl (.inl h)
theorem aZ.of {K:Frag} (h:H a=some (.tup xs)):aZ K H a xs:=.inl (.inl h)
theorem Inv.list (I:Inv X pins σ H s) (h:ba X.K H a xs):∃its:List Value,Vals xs its/\PlainL s.heap a its.toArray/\xs.length<=WX:=by
 rcases h with h | ⟨o,its,n,hk,hc,hd,hs,hz,r⟩
 ·obtain⟨z,its,n,r,e⟩:=h.ok I.aM
  exact⟨its,r,⟨_,n,e,rfl,rfl,rfl⟩,z⟩
 ·refine⟨its.toList,r,⟨o,n,I.qz a o hk,hc,hd,by simpa using hs⟩,?_⟩
  have e:=r.length;simp only[Xj] at e;omega
theorem Inv.tuple (I:Inv X pins σ H s) (h:aZ X.K H a xs):∃its:List Value,Vals xs its/\IsTup s.heap a its.toArray/\xs.length<=WX:=by
 rcases h with h | ⟨o,its,n,hk,hc,hs,hz,r⟩
 ·obtain⟨z,its,r,p⟩:=h.ok I.aM
  exact⟨its,r,p,z⟩
 ·refine⟨its.toList,r,⟨o,I.qz a o hk,hc,n,by simpa using hs⟩,?_⟩
  have e:=r.length;simp only[Xj] at e;omega
theorem Inv.xR (I:Inv X pins σ H s) (h:ba X.K H a xs) (h':ba X.K H a ys):xs=ys:=by
 obtain⟨its,r,⟨o,n,e,_,_,d⟩,_⟩:=I.list h;obtain⟨its',r',⟨o',n',e',_,_,d'⟩,_⟩:=I.list h';rw[e] at e';cases e';rw[d] at d'
 injection d' with d1 _
 have:its=its':=by simpa using congrArg Array.toList d1
 subst this;exact r.inj r'
theorem Inv.xE (I:Inv X pins σ H s) (h:aZ X.K H a xs) (h':aZ X.K H a ys):xs=ys:=by
 obtain⟨its,r,⟨o,e,_,n,d⟩,_⟩:=I.tuple h;obtain⟨its',r',⟨o',e',_,n',d'⟩,_⟩:=I.tuple h';rw[e] at e';cases e';rw[d] at d'
 injection d' with d1 _
 have:its=its':=by simpa using congrArg Array.toList d1
 subst this;exact r.inj r'
end
noncomputable abbrev Cx.ki (X:Cx) (E:Value->WI->Prop):Cx:={ X with xe:=E }
noncomputable abbrev Cx.sJ (X:Cx):Cx:=X.ki λ_ _=>False
theorem Cx.Ok.ki {X:Cx} (ok:X.Ok) (E:Value->WI->Prop):(X.ki E).Ok :=
 ⟨ok.mod,ok.kind,ok.glob,ok.blt,ok.above,ok.inj,ok.has,ok.sF,ok.hd,ok.frames,ok.wL,ok.Iu,ok.bs,ok.jr,ok.mz,ok.wc,ok.jH,ok.qy⟩
theorem Cx.Ok.md {X:Cx} {E:Value->WI->Prop} (ok:(X.ki E).Ok):X.Ok :=
 ⟨ok.mod,ok.kind,ok.glob,ok.blt,ok.above,ok.inj,ok.has,ok.sF,ok.hd,ok.frames,ok.wL,ok.Iu,ok.bs,ok.jr,ok.mz,ok.wc,ok.jH,ok.qy⟩
section
variable {X:Cx} {pins:List (Addr×Obj)} {σ:St} {H:Hp} {s:WI} {E:Value->WI->Prop}
theorem Inv.ki (I:Inv X pins σ H s) (E:Value->WI->Prop):Inv (X.ki E) pins σ H s:=⟨I.ok.ki E,I.os,I.bare,I.base,I.loc,I.cell,I.free,I.fy,I.pin,I.aM,I.len⟩
theorem Inv.md (I:Inv (X.ki E) pins σ H s):Inv X pins σ H s:=⟨I.ok.md,I.os,I.bare,I.base,I.loc,I.cell,I.free,I.fy,I.pin,I.aM,I.len⟩
theorem SP.md {D:Ends} {f:Flow} {s':WI} (h:SP (X.ki E) pins D f s'):SP X pins D f s':=by
 cases f with
 |next=>obtain⟨aT,H',I,q⟩:=h;exact⟨aT,H',I.md,q⟩
 |brk=>obtain⟨aT,H',I,q⟩:=h;exact⟨aT,H',I.md,q⟩
 |cont=>obtain⟨aT,H',I,q⟩:=h;exact⟨aT,H',I.md,q⟩
 |ret u=>obtain⟨v,aT,H',I,r,q⟩:=h;exact⟨v,aT,H',I.md,r,q⟩
theorem dH.sJ {st:List Stmt} {t:TS} (h:dH X.sJ st t):dH X st t:=λpins s σ H D I hw =>
 Yy (h pins s σ H D (I.ki _) hw) (λ_ _ q=>q.md) λ_ _ z=>ZI z
end
section
variable {X:Cx} {st:Stmt} {rest:List Stmt} {t u:TS} {e:Expr} {te:TE} {pos:Pos}
noncomputable def Rf:TS:=λD σ H=>D.nx σ H
noncomputable def SD (t u:TS):TS:=λD σ H=>t { D with nx:=u D } σ H
theorem NY:dH X [] Rf:=λ_ _ σ H _ I h=>aaS ⟨σ,H,I,h⟩
theorem MJ (h1:PS X st t) (h2:dH X rest u):dH X (st::rest) (SD t u):=by
 intro pins s σ H D I h
 refine wpAny_execs_cons (aK (h1 pins s σ H { D with nx:=u D } I h) λf s1 q=>?_)
 cases f with
 |next =>
  obtain⟨aT,H',I',q⟩:=q;exact h2 pins s1 aT H' D I' q
 |ret v=>exact q
 |brk=>exact q
 |cont=>exact q
theorem NZ (h1:PS X st t):dH X [st] t:=by
 intro pins s σ H D I h;refine wpAny_execs_cons (aK (h1 pins s σ H D I h) λf s1 q=>?_)
 cases f with
 |next=>exact aaS q
 |ret v=>exact q
 |brk=>exact q
 |cont=>exact q
noncomputable def Rg:TS:=λD σ H=>D.ct σ H
theorem Kk:PS X (.Continue pos) Rg:=λ_ _ σ H _ I h=>wpAny_Continue ⟨σ,H,I,h⟩
theorem Inv.quiet {pins:List (Addr×Obj)} {σ:St} {H:Hp} {s:WI} (I:Inv X pins σ H s):interactive X.env=false:=by simp[interactive,I.ok.kind]
noncomputable def Rh (te:TE):TS:=λD σ H=>te σ H λ_ H1=>D.nx σ H1
theorem N0 (he:PE X e te) (hs:swapsWith e none pos.line X.env=pure false:=by rfl):PS X (.Expr e pos) (Rh te):=by
 intro pins s σ H D I h;exact wpAny_Expr_any (aK (he pins s σ H _ I h) λv s1 ⟨x,H1,I1,r1,q1⟩=>⟨σ,H1,I1,q1⟩) I.quiet hs
noncomputable def SE (te:TE):TS:=λD σ H=>te σ H D.rt
theorem PH (he:PE X e te):PS X (.Return (some e) pos) (SE te):=by
 intro pins s σ H D I h;exact wpAny_Return_some (aK (he pins s σ H _ I h) λv s1 ⟨x,H1,I1,r1,q1⟩=>⟨x,σ,H1,I1,r1,q1⟩)
noncomputable def SF (c:TT) (t u:TS):TS:=λD σ H=>c σ H λb H1=>if b=true then t D σ H1 else u D σ H1
theorem Ri {c:Expr} {a b:List Stmt} {tc:TT} (hc:PT X c tc) (ha:dH X a t) (hb:dH X b u):PS X (.If c a b pos) (SF tc t u):=by
 intro pins s σ H D I h;refine wpAny_If (aK (hc pins s σ H _ I h) λd s1 ⟨H1,I1,q1⟩=>?_)
 cases d with
 |true=>exact ha pins s1 σ H1 D I1 q1
 |false=>exact hb pins s1 σ H1 D I1 q1
end
noncomputable abbrev TG:=V->St->Hp->(St->Hp->Prop)->Prop
noncomputable abbrev hX:=List V->St->Hp->(St->Hp->Prop)->Prop
def PG (X:Cx) (target:Expr) (t:TG):Prop :=
 ∀(pins:List (Addr×Obj)) (s:WI) (σ:St) (H:Hp) (v:V) (u:Value) (Q:St->Hp->Prop),Inv X pins σ H s->RelV v u->t v σ H Q ->
  wpAny (model X.prog X.w) X.A (aaT target X.env u) (λ_ s'=>∃ aT H',Inv X pins aT H' s'/\Q aT H') X.xe s
def kA (X:Cx) (ts:List Expr) (t:hX):Prop :=
 ∀(pins:List (Addr×Obj)) (s:WI) (σ:St) (H:Hp) (vs:List V) (us:List Value) (Q:St->Hp->Prop),Inv X pins σ H s->Vals vs us->t vs σ H Q ->
  wpAny (model X.prog X.w) X.A (aaO ((YU ts X.env).map (·.2)) us) (λ_ s'=>∃ aT H',Inv X pins aT H' s'/\Q aT H') X.xe s
noncomputable abbrev we:=V->V->V->Hp->(Hp->Prop)->Prop
def zR (X:Cx) (t:we):Prop :=
 ∀(pins:List (Addr×Obj)) (s:WI) (σ:St) (H:Hp) (o i v:V) (ov iv u:Value) (Q:Hp->Prop),Inv X pins σ H s->RelV o ov->RelV i iv->RelV v u->t o i v H Q ->
  wpAny (model X.prog X.w) X.A (setItem ov iv u) (λ_ s'=>∃H',Inv X pins σ H' s'/\Q H') X.xe s
section
variable {X:Cx} {pos:Pos}
noncomputable def lD (i:Nat):TG:=λv σ H Q=>Q (σ.set i (some v)) H
theorem bC {i:Nat} {x:Str} (hN:X.N.Nodup) (hi:X.N[i]?=some x) (hx:Loc X.env.scope x) (hf:X.fn x=true\/X.env.scope.names.lookup x=some .local:=by first|exact .inl rfl|exact .inr rfl|assumption):PG X (.Name x pos) (lD i):=by
 intro pins s σ H v u Q I r h;exact wpAny_assign_Name (l8 I hN hi hx r (λs' I'=>⟨_,H,I',h⟩) hf)
noncomputable def zS:hX:=λvs σ H Q=>vs=[]/\Q σ H
noncomputable def zq (t:TG) (u:hX):hX:=λvs σ H Q=>∃v r,vs=v::r/\t v σ H fun aT H'=>u r aT H' Q
theorem pM:kA X [] zS:=by
 intro pins s σ H vs us Q I r h;obtain⟨e,h⟩:=h;subst e;cases r;exact assignInOrder_nil ⟨σ,H,I,h⟩
theorem jy {e:Expr} {es:List Expr} {t:TG} {u:hX} (h1:PG X e t) (h2:kA X es u)
  (hs:(YU (e::es) X.env).map (·.2)=aaT e X.env::(YU es X.env).map (·.2):=by rfl):kA X (e::es) (zq t u):=by
 intro pins s σ H vs us Q I r h;obtain⟨v,vr,e1,h⟩:=h;subst e1
 cases r with
 |cons r rr =>
  rw[hs];refine YZ (aK (h1 pins s σ H _ _ _ I r h) λ_ s1 ⟨og,H1,I1,q1⟩=>?_);exact h2 pins s1 og H1 _ _ Q I1 rr q1
noncomputable def zT (K:Frag) (n:Nat) (t:hX):TG:=λv σ H Q=>∃a xs,v=.ref a/\aZ K H a xs/\xs.length=n/\t xs σ H Q
theorem lp {es:List Expr} {k:Nat} {t:hX} {n:Nat} (hc:X.calm=true) (h:kA X es t)
  (hn:(YU es X.env).length=n:=by rfl) (oh:(YU es X.env).findIdx? (·.1)=none:=by rfl):PG X (.Tuple es k pos) (zT X.K n t):=by
 intro pins s σ H v u Q I r hw;obtain⟨a,xs,e1,hq,hl,hw⟩:=hw;subst e1;cases r;obtain⟨its,rv,ht,hz⟩:=I.tuple hq;refine assign_Tuple_tuple (I.ok.hd hc) ht (by simp[hn,<- hl,rv.length]) oh λh' hx=>?_
 have I1:Inv X pins σ H { s with heap:=h' }:=I.kept (t':=s.toks) λb o e=>hx b o (Xe (WS e)) e
 exact h pins _ σ H xs _ Q I1 (by simpa using rv) hw
noncomputable def SG (to ti:TE) (t:we):TG:=λv σ H Q=>to σ H λo H1=>ti σ H1 λi H2=>t o i v H2 λH3=>Q σ H3
theorem Gf {o i:Expr} {to ti:TE} {t:we} (ho:PE X o to) (hi:PE X i ti) (hs:zR X t)
  (ha:∀v,aaT (.Subscript o i pos) X.env v=(do
   let ov <- aai [v] (eval o X.env)
   let iv <- aai [v,ov] (eval i X.env)
   aaU pos
   aai [v,ov,iv] (setItem ov iv v)
   release [v,ov,iv] []):=by intro _;rfl):PG X (.Subscript o i pos) (SG to ti t):=by
 intro pins s σ H v u Q I r h;rw[ha];refine WD (Yf (aK (ho pins s σ H _ I h) λov s1 ⟨x,H1,I1,r1,q1⟩=>?_));refine WD (Yf (aK (hi pins s1 σ H1 _ I1 q1) λiv s2 ⟨y,H2,I2,r2,q2⟩=>?_));refine WD (Zg (WD (Yf (aK (hs pins s2 σ H2 x y v ov iv u _ I2 r1 r2 r q2) λ_ s3 ⟨H3,I3,q3⟩=>?_))));exact wpAny_release ⟨σ,H3,I3,q3⟩
noncomputable def qi (te:TE) (g:TG):TS:=λD σ H=>te σ H λx H1=>g x σ H1 D.nx
theorem yQ {tg e:Expr} {te:TE} {g:TG} (he:PE X e te) (hg:PG X tg g) (hs:Zh [tg] e pos.line X.env=pure false:=by rfl) (hw:Zi [tg] e X.env=pure none:=by rfl)
  (h1:(YU [tg] X.env).map (·.2)=[aaT tg X.env]:=by rfl):PS X (.Assign [tg] e pos) (qi te g):=by
 intro pins s σ H D I h;refine wpAny_Assign_stores (aK (he pins s σ H _ I h) λv s1 ⟨x,H1,I1,r1,q1⟩=>?_) hs hw;rw[h1];exact aK (hg pins s1 σ H1 x v _ I1 r1 q1) λ_ s2 q=>q
theorem PJ {i:Nat} {x:Str} {e:Expr} {te:TE} {pos':Pos} (hN:X.N.Nodup) (hi:X.N[i]?=some x) (hx:Loc X.env.scope x) (he:PE X e te) (hs:swapsWith e (some (.Name x pos')) pos.line X.env=pure false:=by rfl) (hf:X.fn x=true\/X.env.scope.names.lookup x=some .local:=by first|exact .inl rfl|exact .inr rfl|assumption) :
  PS X (.Assign [.Name x pos'] e pos) (qi te (lD i)):=by
 intro pins s σ H D I h;refine wpAny_Assign_Name (aK (he pins s σ H _ I h) λv s1 ⟨y,H1,I1,r1,q1⟩=>?_) hs;exact l8 I1 hN hi hx r1 (λs2 I2=>⟨_,H1,I2,q1⟩) hf
noncomputable def SH (i j:Nat) (ta:TA):TS:=λD σ H=>ta σ H λvs H1=>∃v w,vs=[v,w]/\D.nx ((σ.set i (some v)).set j (some w)) H1
theorem PK {i j:Nat} {x y:Str} {a b:Expr} {ta:TA} {px py pt:Pos} {kt k2 hZ} (hc:X.calm=true) (hN:X.N.Nodup) (hi:X.N[i]?=some x) (hj:X.N[j]?=some y) (eZ:i≠j)
  (hx:X.env.scope.names.lookup x=some .local) (hy:X.env.scope.names.lookup y=some .local) (ha:PA X [a,b] ta)
  (hw:Zi [.Tuple [.Name x px,.Name y py] kt pt] (.Tuple [a,b] k2 hZ) X.env=pure (some [x,y]))
  (hs:Zh [.Tuple [.Name x px,.Name y py] kt pt] (.Tuple [a,b] k2 hZ) pos.line X.env=pure false:=by rfl) :
  PS X (.Assign [.Tuple [.Name x px,.Name y py] kt pt] (.Tuple [a,b] k2 hZ) pos) (SH i j ta):=by
 intro pins s σ H D I h;rw[exec_Assign_arm];refine WD (Zg ?_);rw[hs];refine WD (WG ?_);rw[if_neg (by decide)];refine WD (Tuple_ (aK (ha _ pins s σ H _ I h) λus s1 ⟨vs,H1,I1,r1,q1⟩=>?_));obtain⟨v,w,e1,q1⟩:=q1;subst e1;obtain⟨u1,u2,rfl,rv,oj⟩:∃u1 u2,us=[u1,u2]/\RelV v u1/\RelV w u2:=by
  cases r1 with
  |cons p q =>
   cases q with
   |cons p' q' =>
    cases q';exact⟨_,_,rfl,p,p'⟩
 refine W8 ?_ (by show 2<=WX;decide)
 have I2:Inv X pins σ H1 { s1 with heap:=s1.heap.push { cls:=.type "tuple",data:=.seq [u1,u2].toArray } }:=I1.kept (t':=s1.toks) λb o e=>WE _ e
 rw[hw];refine WD (WG ?_)
 show wpAny (model X.prog X.w) X.A (do rule "assign.swapped-stores";let items <- unpackItems (.ref s1.heap.objs.size) 2 none;aaO [λv=>aaP X.env y v,λv=>aaP X.env x v] items.reverse;pure Flow.next) _ _ _
 refine WD (YV (WD (unpackItems_tuple (items:=#[u1,u2]) (I.ok.hd hc) (IsTup.new s1.heap _) λh' wO=>?_)));have I3:=I2.kept (h':=h') (t':=s1.toks) λb o e=>wO b o (Xe (WS e)) e
 show wpAny _ _ (aaO [λv=>aaP X.env y v,λv=>aaP X.env x v] [u2,u1] >>= λ_=>pure Flow.next) _ _ _
 refine WD (YZ (aaz (l8 I3 hN hj (.inl hy) oj (λs2 I4=>?_) (.inr hy))));refine YZ (aaz (l8 I4 hN hi (.inl hx) rv (λs3 I5=>assignInOrder_nil (WG ?_)) (.inr hx)));rw[List.set_comm _ _ (Zx eZ)] at I5;exact⟨_,H1,I5,q1⟩
end
section
variable {X:Cx} {pos:Pos}
noncomputable def Gg (c:TT) (tb:TS):TS:=λD σ H=>∃W:Nat->St->Hp->Prop,(∃m,W m σ H)/\∀m σ H,W m σ H ->
 c σ H λb H1=>if b=true then ∃N:St->Hp->Prop,(∀ aT H',N aT H'->∃m',m' < m/\W m' aT H')/\tb { D with nx:=N,ct:=N,bk:=D.nx } σ H1 else D.nx σ H1
theorem MK {c:Expr} {body:List Stmt} {tc:TT} {tb:TS} (hp:PassesOwn (model X.prog X.w) X.A X.env X.xe) (hc:PT X c tc) (hb:dH X body tb):PS X (.While c body [] pos) (Gg tc tb):=by
 intro pins s σ H D I h;obtain⟨W,⟨m0,w0⟩,turn⟩:=h;refine wpAny_While (codeAny_whileLoop (λn s'=>∃ aT H',Inv X pins aT H' s'/\W n aT H') ?_ m0 ⟨σ,H,I,w0⟩);rintro n s1 ⟨og,H1,I1,w1⟩;refine Y7 hp (aK (hc pins s1 og H1 _ I1 (turn n og H1 w1)) λb s2 ⟨H2,I2,q2⟩=>?_)
 cases b with
 |true =>
  obtain⟨N,hN,q2⟩:=q2;rw[if_pos rfl];refine Y7 hp (aK (hb pins s2 og H2 _ I2 q2) λf s3 q3=>?_)
  cases f with
  |next =>
   obtain⟨f6,H3,I3,n3⟩:=q3;obtain⟨m',hm,w3⟩:=hN f6 H3 n3;exact⟨m',hm,f6,H3,I3,w3⟩
  |cont =>
   obtain⟨f6,H3,I3,n3⟩:=q3;obtain⟨m',hm,w3⟩:=hN f6 H3 n3;exact⟨m',hm,f6,H3,I3,w3⟩
  |brk=>exact q3
  |ret v=>exact q3
 |false =>
  rw[if_neg WV];exact aaS ⟨og,H2,I2,q2⟩
end
structure It where
 go:Nat->Hp->Prop
 qA:Nat->Hp->V->Hp->Prop
 stop:Nat->Hp->Prop
def fT (X:Cx) (pins:List (Addr×Obj)) (H:Hp) (b:Addr):Prop :=
 H b=none/\b≠X.env.locals/\b∉X.fs/\(b∈X.ex\/X.dg.heap.objs.size<=b)/\(∀x c,X.env.cells.lookup x=some c->c≠b)/\∀p∈X.pn++pins,p.1≠b
theorem Inv.qj {X:Cx} {pins:List (Addr×Obj)} {σ:St} {H H':Hp} {s:WI} {b:Addr} (I:Inv X pins σ H s) (hb:s.heap.objs.size<=b) (hn:H' b=none):fT X pins H' b:=by
 refine⟨hn,YH (WL I.lt hb),I.r6 hb,.inr (W7 I.sz hb),λx c e z=>?_,λp hp z=>?_⟩
 ·obtain⟨v,q⟩:=I.cell x c e
  exact absurd (WL q.lt (by rw[z];exact hb)) (Xk _)
 ·exact absurd (WL (WS (I.pin p hp).1) (by rw[z];exact hb)) (Xk _)
structure Turn (P:Xf) (w:World) (K:Frag) (tg:Expr) (J:It) (fp:List Addr) (it:Addr) (tn:Nat->Heap->Prop):Prop where
 mem:it∈fp
 obj:∀i h,tn i h->∀b∈fp,∃o,h.get? b=some o/\∀v,o.data≠.cell v
 keep:∀i h h',tn i h->(∀b∈fp,∀o,h.get? b=some o->h'.get? b=some o)->tn i h'
 item:∀(X:Cx),X.prog=P->X.w=w->X.K=K->X.calm=true->∀(i:Nat) (pins:List (Addr×Obj)) (s:WI) (σ:St) (H:Hp) (E:Value->WI->Prop),Inv X pins σ H s->(∀b∈fp,fT X pins H b)->tn i s.heap->J.go i H ->
  wpAny (model P w) X.A (Zy (.ref it)) (λr s1=>∃u,r=some u /\
   wpAny (model P w) X.A (Y8 tg (.ref it) u) (λ_ s2=>∃x H',Inv X pins σ H' s2/\RelV x u/\J.qA i H x H'/\tn (i+1) s2.heap/\∀b∈fp,H' b=none) E s1) E s
 done:∀(X:Cx),X.prog=P->X.w=w->X.K=K->X.calm=true->∀(i:Nat) (pins:List (Addr×Obj)) (s:WI) (σ:St) (H:Hp) (E:Value->WI->Prop),Inv X pins σ H s->(∀b∈fp,fT X pins H b)->tn i s.heap->J.stop i H ->
  wpAny (model P w) X.A (Zy (.ref it)) (λr s1=>r=none/\Inv X pins σ H s1) E s
 self:∀(A:Xv) (i:Nat) (s:WI) (Q:Value->WI->Prop) (E:Value->WI->Prop),tn i s.heap->Q (.ref it) s->wpAny (model P w) A (pyIter (.ref it)) Q E s
noncomputable abbrev TI:=St->Hp->(It->Hp->Prop)->Prop
def IC (X:Cx) (pins:List (Addr×Obj)) (σ:St) (tg:Expr) (R:It->Hp->Prop) (ia:Value) (s2:WI):Prop :=
 ∃(it:Addr) (fp:List Addr) (tn:Nat->Heap->Prop) (J:It) (H':Hp),ia=.ref it/\Inv X pins σ H' s2/\Turn X.prog X.w X.K tg J fp it tn/\tn 0 s2.heap/\(∀b∈fp,fT X pins H' b)/\R J H'
def PI (X:Cx) (tg iter:Expr) (wi:TI):Prop :=
 ∀(pins:List (Addr×Obj)) (s:WI) (σ:St) (H:Hp) (R:It->Hp->Prop),Inv X pins σ H s->wi σ H R ->
  wpAny (model X.prog X.w) X.A (eval iter X.env) (λv s1=>wpAny (model X.prog X.w) X.A (pyIter v) (IC X pins σ tg R) X.xe s1) X.xe s
theorem vN {M:Model} {A:Xv} {E:Value->WI->Prop} {s:WI} {tg:Expr} {it:Addr} {u:Value} {o:Obj} {n:String} {vs:Array Value} {Q:Unit->WI->Prop} (ho:s.heap.get? it=some o) (hc:o.cls=.type n) (hd:o.data=.fields vs)
  (hn:["enumerate","zip","dict_itemiterator","dict_reverseitemiterator","odict_iterator","itertools.zip_longest","itertools.pairwise"].contains n=false) (hQ:Q () s):wpAny M A (Y8 tg (.ref it) u) Q E s:=by
 unfold Y8
 cases tg<;>first
  |exact WG hQ
  |(cases u<;>first
    |exact WG hQ
    |(refine WD (wpAny_load ho ?_)
      rw[hc,hd]
      show wpAny M A (if (["enumerate","zip","dict_itemiterator","dict_reverseitemiterator","odict_iterator","itertools.zip_longest","itertools.pairwise"].contains n&&vs[0]?==some (YA _))=true then _ else _) Q E s
      rw[if_neg (by intro h;rw[hn,Yq] at h;cases h)];exact WG hQ))
noncomputable def Az (K:Frag) (a:Addr):It :=
 ⟨λi H=>∃xs x,ba K H a xs/\xs[i]?=some x,λi H x H'=>H'=H/\∀xs,ba K H a xs->xs[i]?=some x,λi H=>∃xs,ba K H a xs/\xs.length<=i⟩
noncomputable def AA (K:Frag) (a:Addr):It :=
 ⟨λi H=>∃xs x,aZ K H a xs/\xs[i]?=some x,λi H x H'=>H'=H/\∀xs,aZ K H a xs->xs[i]?=some x,λi H=>∃xs,aZ K H a xs/\xs.length<=i⟩
noncomputable def sL (lo:Int) (n:Nat):It:=⟨λi _=>i<n,λi H x H'=>H'=H/\x=.int (lo+i),λi _=>n<=i⟩
theorem Lu {P:Xf} {w:World} {K:Frag} {tg:Expr} (a it:Addr):Turn P w K tg (Az K a) [it] it (λi h=>h.IsListIter it a i) where
 mem:=by simp
 obj:=λi h st b hb=>by
  have e:b=it:=by simpa using hb
  subst e;obtain⟨o,e,c,d⟩:=st;exact⟨o,e,λv z=>by rw[d] at z;cases z⟩
 keep:=λi h h' st k=>st.at λo e=>k it (by simp) o e
 item:=by
  intro X hP hw hK hc i pins s σ H E I hf st hg;subst hP hw hK;obtain⟨xs,x,hq,hx⟩:=hg;obtain⟨its,rv,p,hz⟩:=I.list hq;obtain⟨u,hu,ru⟩:=rv.get hx;obtain⟨f0,f1,f2,f3,f4,f5⟩:=hf it (by simp);refine wpAny_pyNext_list_item st p.isList (x:=u) (by simpa using hu) λh' dI sb=>?_
  have I1:Inv X pins σ H { s with heap:=h' }:=I.turned (t':=s.toks) (λb o hb e=>(sb.2 b hb).trans e) f0 f1 f3 f4 f5
  obtain⟨o,e,c,d⟩:=id dI
  exact⟨u,rfl,vN (s:={ s with heap:=h' }) e c d (by decide) ⟨x,H,I1,ru,⟨rfl,λys hy=>by rw[I.xR hy hq];exact hx⟩,dI,λb hb=>(hf b hb).1⟩⟩
 done:=by
  intro X hP hw hK hc i pins s σ H E I hf st hg;subst hP hw hK;obtain⟨xs,hq,hx⟩:=hg;obtain⟨its,rv,p,hz⟩:=I.list hq;obtain⟨f0,f1,f2,f3,f4,f5⟩:=hf it (by simp);have hl:=rv.length;exact wpAny_pyNext_list_end (I.ok.hd hc) st p.isList (by simp;omega) λh' eb=>⟨rfl,I.turned (t':=s.toks) (λb o hb e=>eb b o hb e) f0 f1 f3 f4 f5⟩
 self:=λ_ _ _ _ _ st h=>wpAny_pyIter_listiter st h
theorem KN {P:Xf} {w:World} {K:Frag} {tg:Expr} (a it:Addr):Turn P w K tg (AA K a) [it] it (λi h=>h.IsTupleIter it a i) where
 mem:=by simp
 obj:=λi h st b hb=>by
  have e:b=it:=by simpa using hb
  subst e;obtain⟨o,e,c,d⟩:=st;exact⟨o,e,λv z=>by rw[d] at z;cases z⟩
 keep:=λi h h' st k=>st.at λo e=>k it (by simp) o e
 item:=by
  intro X hP hw hK hc i pins s σ H E I hf st hg;subst hP hw hK;obtain⟨xs,x,hq,hx⟩:=hg;obtain⟨its,rv,p,hz⟩:=I.tuple hq;obtain⟨u,hu,ru⟩:=rv.get hx;obtain⟨f0,f1,f2,f3,f4,f5⟩:=hf it (by simp);refine wpAny_pyNext_tuple_item st (show s.heap.IsTuple a its.toArray from p) (x:=u) (by simpa using hu) λh' dI sb=>?_
  have I1:Inv X pins σ H { s with heap:=h' }:=I.turned (t':=s.toks) (λb o hb e=>(sb.2 b hb).trans e) f0 f1 f3 f4 f5
  obtain⟨o,e,c,d⟩:=id dI
  exact⟨u,rfl,vN (s:={ s with heap:=h' }) e c d (by decide) ⟨x,H,I1,ru,⟨rfl,λys hy=>by rw[I.xE hy hq];exact hx⟩,dI,λb hb=>(hf b hb).1⟩⟩
 done:=by
  intro X hP hw hK hc i pins s σ H E I hf st hg;subst hP hw hK;obtain⟨xs,hq,hx⟩:=hg;obtain⟨its,rv,p,hz⟩:=I.tuple hq;obtain⟨f0,f1,f2,f3,f4,f5⟩:=hf it (by simp);have hl:=rv.length;exact wpAny_pyNext_tuple_end (I.ok.hd hc) st (show s.heap.IsTuple a its.toArray from p) (by simp;omega) λh' eb=>⟨rfl,I.turned (t':=s.toks) (λb o hb e=>eb b o hb e) f0 f1 f3 f4 f5⟩
 self:=λ_ _ _ _ _ st h=>wpAny_pyIter_tupleiter st h
theorem KO {P:Xf} {w:World} {K:Frag} {tg:Expr} (it:Addr) (lo:Int) (n:Nat):Turn P w K tg (sL lo n) [it] it (λi h=>IsRangeIter h it (lo+(i:Nat)*1) ((n:Int)-(i:Nat)) 1) where
 mem:=by simp
 obj:=λi h st b hb=>by
  have e:b=it:=by simpa using hb
  subst e;exact⟨_,st,λv z=>by
   have z':Data.fields _=Data.cell v:=z;cases z'⟩
 keep:=λi h h' st k=>k it (by simp) _ st
 item:=by
  intro X hP hw hK hc i pins s σ H E I hf st hg;subst hP hw hK;obtain⟨f0,f1,f2,f3,f4,f5⟩:=hf it (by simp);have W:=Walks.range (prog:=X.prog) (w:=X.w) (I.ok.hd hc) it lo 1 n;refine W.item i s _ _ hg st λv h' tk hv dI kk=>?_;obtain⟨t,rfl⟩:=hv
  have I1:Inv X pins σ H { s with heap:=h',toks:=tk }:=I.turned (λb o hb e=>kk b o (by simpa using hb) e) f0 f1 f3 f4 f5
  refine⟨_,rfl,vN (s:={ s with heap:=h',toks:=tk }) (n:="range_iterator") dI rfl rfl (by decide) ⟨.int (lo+i),H,I1,⟨t,?_⟩,⟨rfl,rfl⟩,dI,λb hb=>(hf b hb).1⟩⟩
  rw[Int.mul_one]
 done:=by
  intro X hP hw hK hc i pins s σ H E I hf st hg;subst hP hw hK;obtain⟨f0,f1,f2,f3,f4,f5⟩:=hf it (by simp);exact wpAny_pyNext_range_end (I.ok.hd hc) st (by have:n<=i:=hg;omega) λh' eb=>⟨rfl,I.turned (t':=s.toks) (λb o hb e=>eb b o hb e) f0 f1 f3 f4 f5⟩
 self:=λ_ _ _ _ _ st h=>aaf st h
end L2
namespace L2
open PySem PySem.Spec PyProof.Rows
section
variable {X:Cx} {tg:Expr}
noncomputable def He (K:Frag) (tl:TE):TI:=fun σ H R=>tl σ H λx H1=>∃a,x=.ref a/\(∃xs,ba K H1 a xs)/\R (Az K a) H1
noncomputable def HN (K:Frag) (tl:TE):TI:=fun σ H R=>tl σ H λx H1=>∃a,x=.ref a/\(∃xs,aZ K H1 a xs)/\R (AA K a) H1
theorem N1 {l:Expr} {tl:TE} (hl:PE X l tl):PI X tg l (He X.K tl):=by
 intro pins s σ H R I h;refine aK (hl pins s σ H _ I h) λv s1 ⟨x,H1,I1,r1,q1⟩=>?_;obtain⟨a,e,⟨xs,hq⟩,q⟩:=q1;subst e;cases r1;obtain⟨its,rv,p,hz⟩:=I1.list hq;refine aaj p.isList ?_;refine⟨s1.heap.objs.size,[s1.heap.objs.size],_,_,H1,rfl,I1.kept (t':=s1.toks) λb o e=>WE _ e,Lu a _,⟨_,WN _ rfl,rfl,rfl⟩,λb hb=>?_,q⟩;have e:b=s1.heap.objs.size:=by simpa using hb
 subst e;exact I1.qj (Nat.le_refl _) (I1.aM.fresh (Nat.le_refl _))
theorem PL {l:Expr} {tl:TE} (hl:PE X l tl):PI X tg l (HN X.K tl):=by
 intro pins s σ H R I h;refine aK (hl pins s σ H _ I h) λv s1 ⟨x,H1,I1,r1,q1⟩=>?_;obtain⟨a,e,⟨xs,hq⟩,q⟩:=q1;subst e;cases r1;obtain⟨its,rv,p,hz⟩:=I1.tuple hq;refine wpAny_pyIter_tuple (show s1.heap.IsTuple a its.toArray from p) ?_;refine⟨s1.heap.objs.size,[s1.heap.objs.size],_,_,H1,rfl,I1.kept (t':=s1.toks) λb o e=>WE _ e,KN a _,⟨_,WN _ rfl,rfl,rfl⟩,λb hb=>?_,q⟩;have e:b=s1.heap.objs.size:=by simpa using hb
 subst e;exact I1.qj (Nat.le_refl _) (I1.aM.fresh (Nat.le_refl _))
theorem Eo {pins:List (Addr×Obj)} {σ:St} {H:Hp} {s:WI} {R:It->Hp->Prop} {E:Value->WI->Prop} {lo hi:Int} {t u v:Tok} {tk:Nat} (I:Inv X pins σ H s) (h1:-(2 ^ 62)<=lo) (h2:lo<2 ^ 62) (h3:-(2 ^ 62)<=hi) (h4:hi<2 ^ 62)
  (q:R (sL lo (hi-lo).toNat) H):wpAny (model X.prog X.w) X.A (pyIter (.ref s.heap.objs.size)) (IC X pins σ tg R) E { s with heap:=s.heap.push { cls:=.type "range",data:=.fields #[.int lo t,.int hi u,.int 1 v] },toks:=tk }:=by
 refine wpAny_pyIter_range (IsRange.new ..) (small_one h1 h2 h3 h4) ?_
 have I1:Inv X pins σ H { s with heap:=s.heap.push { cls:=.type "range",data:=.fields #[.int lo t,.int hi u,.int 1 v] },toks:=tk }:=I.kept λb o e=>WE _ e
 refine⟨(s.heap.push { cls:=.type "range",data:=.fields #[.int lo t,.int hi u,.int 1 v] }).objs.size,[(s.heap.push { cls:=.type "range",data:=.fields #[.int lo t,.int hi u,.int 1 v] }).objs.size],_,_,H,rfl,
  I1.kept (t':=tk) λb o e=>WE _ e,KO _ lo (hi-lo).toNat,?_,λb hb=>?_,q⟩
 ·have e1:lo+((0:Nat):Int)*1=lo:=by simp
  have e2:(((hi-lo).toNat:Nat):Int)-((0:Nat):Int)=YG lo hi 1:=by rw[rangeSize_one];split<;>omega
  show IsRangeIter _ _ (lo+((0:Nat):Int)*1) ((((hi-lo).toNat:Nat):Int)-((0:Nat):Int)) 1;rw[e1,e2];exact WN _ rfl
 ·have e:b=(s.heap.push { cls:=.type "range",data:=.fields #[.int lo t,.int hi u,.int 1 v] }).objs.size:=by simpa using hb
  subst e;exact I1.qj (Nat.le_refl _) (I1.aM.fresh (Nat.le_refl _))
noncomputable def Rj (ta:TA):TI:=fun σ H R=>ta σ H λvs H1=>∃j:Int,vs=[.int j]/\-(2 ^ 62)<=j/\j<2 ^ 62/\R (sL 0 j.toNat) H1
noncomputable def Rk (ta:TA):TI:=fun σ H R=>ta σ H λvs H1=>∃i j:Int,vs=[.int i,.int j]/\(-(2 ^ 62)<=i/\i<2 ^ 62/\-(2 ^ 62)<=j/\j<2 ^ 62)/\R (sL i (j-i).toNat) H1
theorem Lv {a:Expr} {ta:TA} {p pos:Pos} (hg:Gl X "range") (hm:X.mg "range"=none) (ha:PA X [a] ta) (hs:Xb [a] X.env=[(false,eval a X.env)]:=by rfl):PI X tg (.Call (.Name "range" p) [a] [] pos) (Rj ta):=by
 intro pins s σ H R I h;refine Call_ (lj I hg hm boot_range (Ya (aK (ha pos pins s σ H _ I h) λus s1 ⟨vs,H1,I1,r1,q1⟩=>?_) hs rfl));obtain⟨j,e,q1,q2,q⟩:=q1;subst e
 cases r1 with
 |cons r rr =>
  cases rr;obtain⟨t,rfl⟩:=r;exact call_range_1 (Eo I1 (by omega) (by omega) q1 q2 (by simpa using q))
theorem Lw {a b:Expr} {ta:TA} {p pos:Pos} (hg:Gl X "range") (hm:X.mg "range"=none) (ha:PA X [a,b] ta) (hs:Xb [a,b] X.env=[(false,eval a X.env),(false,eval b X.env)]:=by rfl) (cB:Xb [b] X.env=[(false,eval b X.env)]:=by rfl) :
  PI X tg (.Call (.Name "range" p) [a,b] [] pos) (Rk ta):=by
 intro pins s σ H R I h;refine Call_ (lj I hg hm boot_range (Ya (aK (ha pos pins s σ H _ I h) λus s1 ⟨vs,H1,I1,r1,q1⟩=>?_) (by rw[hs,cB]) (by rw[cB];rfl)));obtain⟨i,j,e,⟨q1,q2,q3,q4⟩,q⟩:=q1;subst e
 cases r1 with
 |cons r rr =>
  cases rr with
  |cons r' rr =>
   cases rr;obtain⟨t,rfl⟩:=r;obtain⟨t',rfl⟩:=r';exact call_range_2 (Eo I1 q1 q2 q3 q4 q)
noncomputable def HP (wi:TI) (g:TG) (tb:TS):TS:=λD σ H=>wi σ H λJ H1=>∃W:Nat->Nat->St->Hp->Prop,(∃m,W 0 m σ H1)/\∀i m σ H,W i m σ H ->
 (J.stop i H/\D.nx σ H)\/(J.go i H/\∃N:St->Hp->Prop,(∀ aT H',N aT H'->∃m',m' < m/\W (i+1) m' aT H')/\∀x H',J.qA i H x H'->g x σ H' fun i4 H2=>tb { D with nx:=N,ct:=N,bk:=D.nx } i4 H2)
noncomputable def me (fp:List Addr) (h:Heap):List (Addr×Obj):=fp.filterMap λb=>(h.get? b).map λo=>(b,o)
theorem pw {fp:List Addr} {h:Heap} {b:Addr} {o:Obj} (hb:b∈fp) (e:h.get? b=some o):(b,o)∈me fp h:=List.mem_filterMap.mpr ⟨b,hb,by rw[e];rfl⟩
theorem DE {fp:List Addr} {h:Heap} {p:Addr×Obj} (hp:p∈me fp h):p.1∈fp/\h.get? p.1=some p.2:=by
 obtain⟨b,hb,e⟩:=List.mem_filterMap.mp hp
 cases q:h.get? b with
 |none=>rw[q] at e;cases e
 |some o =>
  rw[q] at e;have e':(b,o)=p:=Option.some.inj e;subst e';exact⟨hb,q⟩
theorem Inv.pinned {pins:List (Addr×Obj)} {σ:St} {H:Hp} {s:WI} {fp:List Addr} (I:Inv X pins σ H s) (hf:∀b∈fp,fT X pins H b) (ho:∀b∈fp,∃o,s.heap.get? b=some o/\∀v,o.data≠.cell v):Inv X (pins++me fp s.heap) σ H s :=
 I.kZ λp hp=>(XX.mp hp).elim (λz=>I.pin p (WU _ z)) λz=>by
  obtain⟨hb,e⟩:=DE z;obtain⟨f0,f1,f2,_⟩:=hf p.1 hb;obtain⟨o,e',d⟩:=ho p.1 hb;rw[e] at e';cases e';exact⟨e,f0,f1,f2,d⟩
theorem Inv.kW {pins pl:List (Addr×Obj)} {σ:St} {H:Hp} {s:WI} (I:Inv X (pins++pl) σ H s):Inv X pins σ H s:=I.kZ λp hp=>I.pin p (WU _ (X8 _ hp))
theorem PM {iter:Expr} {body:List Stmt} {wi:TI} {g:TG} {tb:TS} {pos:Pos} (hp:PassesOwn (model X.prog X.w) X.A X.env X.xe) (hc:X.calm=true) (hi:PI X tg iter wi) (hg:PG X tg g) (hb:dH X body tb)
  (hs:∀x,Xo iter X.env x=pure x:=by intro _;rfl):PS X (.For tg iter body [] pos) (HP wi g tb):=by
 intro pins s σ H D I h;refine wpAny_For (aK (hi pins s σ H _ I h) λv s1 h1=>aK h1 λia s2 h2=>?_) hs;obtain⟨it,fp,tn,J,H2,e,I2,T,js,f2,W,⟨m0,w0⟩,turn⟩:=h2;subst e;have stat:∀{H':Hp},(∀b∈fp,H' b=none)->∀b∈fp,fT X pins H' b:=λhn b hb=>⟨hn b hb,(f2 b hb).2⟩;refine codeAny_forLoop_any (λn s'=>∃i aT H',Inv X pins aT H' s'/\tn i s'.heap/\(∀b∈fp,H' b=none)/\W i n aT H') ?_ m0 ⟨0,σ,H2,I2,js,λb hb=>(f2 b hb).1,w0⟩;rintro n s3 ⟨i,f6,H3,I3,mI,mJ,w3⟩
 rcases turn i n f6 H3 w3 with ⟨stop,qn⟩ | ⟨go,N,hN,step⟩
 ·refine Y7 hp (aK (T.done X rfl rfl rfl hc i pins s3 f6 H3 X.xe I3 (stat mJ) mI stop) λr s4 ⟨hr,I4⟩=>?_)
  subst hr;exact aaS ⟨f6,H3,I4,qn⟩
 ·refine Y7 hp (aK (T.item X rfl rfl rfl hc i pins s3 f6 H3 X.xe I3 (stat mJ) mI go) λr s4 ⟨u,hr,h4⟩=>?_)
  subst hr;refine Y7 hp (aK h4 λ_ s5 ⟨x,H5,I5,r5,y5,jQ,sM⟩=>?_);have sO:=I5.pinned (stat sM) (T.obj _ _ jQ);refine Y7 hp (aK (hg _ s5 f6 H5 x u _ sO r5 (step x H5 y5)) λ_ s6 ⟨TQ,H6,I6,q6⟩=>?_);refine Y7 hp (aK (hb _ s6 TQ H6 _ I6 q6) λf s7 q7=>?_);have again:∀{jR:St} {H7:Hp},Inv X (pins++me fp s5.heap) jR H7 s7->N jR H7->∃m,m<n/\∃i aT H',Inv X pins aT H' s7/\tn i s7.heap/\(∀b∈fp,H' b=none)/\W i m aT H':=λ{jR H7} I7 n7=>by
   obtain⟨m',hm,w7⟩:=hN jR H7 n7;refine⟨m',hm,i+1,jR,H7,I7.kW,T.keep _ _ _ jQ λb hb o e=>(I7.pin (b,o) (WU _ (WU _ (pw hb e)))).1,λb hb=>?_,w7⟩;obtain⟨o,e,d⟩:=T.obj _ _ jQ b hb;exact(I7.pin (b,o) (WU _ (WU _ (pw hb e)))).2.1
  cases f with
  |next=>obtain⟨jR,H7,I7,n7⟩:=q7;exact again I7 n7
  |cont=>obtain⟨jR,H7,I7,n7⟩:=q7;exact again I7 n7
  |brk=>obtain⟨jR,H7,I7,q7⟩:=q7;exact⟨jR,H7,I7.kW,q7⟩
  |ret v=>obtain⟨x7,jR,H7,I7,r7,q7⟩:=q7;exact⟨x7,jR,H7,I7.kW,r7,q7⟩
end
end L2
namespace L2
open PySem PySem.Spec PyProof.Rows
noncomputable abbrev R2:=V->V->Hp->VK->Prop
def bE (X:Cx) (f:Value->Value->Sem Value) (r:R2):Prop :=
 ∀(pins:List (Addr×Obj)) (s:WI) (σ:St) (H:Hp) (x y:V) (v u:Value) (Q:VK),Inv X pins σ H s->RelV x v->RelV y u->r x y H Q ->
  wpAny (model X.prog X.w) X.A (f v u) (EP X pins σ Q) X.xe s
def sP (X:Cx) (f:Value->Sem Value) (r:V->Hp->VK->Prop):Prop :=
 ∀(pins:List (Addr×Obj)) (s:WI) (σ:St) (H:Hp) (x:V) (v:Value) (Q:VK),Inv X pins σ H s->RelV x v->r x H Q ->
  wpAny (model X.prog X.w) X.A (f v) (EP X pins σ Q) X.xe s
def cz (X:Cx) (f:Value) (r:List V->Hp->VK->Prop):Prop :=
 ∀(pins:List (Addr×Obj)) (s:WI) (σ:St) (H:Hp) (xs:List V) (us:List Value) (Q:VK),Inv X pins σ H s->Vals xs us->r xs H Q ->
  wpAny (model X.prog X.w) X.A (call f us) (EP X pins σ Q) X.xe s
def SI (X:Cx) (r:V->Hp->(Bool->Hp->Prop)->Prop):Prop :=
 ∀(pins:List (Addr×Obj)) (s:WI) (σ:St) (H:Hp) (x:V) (v:Value) (Q:Bool->Hp->Prop),Inv X pins σ H s->RelV x v->r x H Q ->
  wpAny (model X.prog X.w) X.A (truthy v) (TP X pins σ Q) X.xe s
noncomputable def sQ (r:R2) (ta tb:TE):TE:=fun σ H Q=>ta σ H λx H1=>tb σ H1 λy H2=>r x y H2 Q
noncomputable def ID (r:V->Hp->VK->Prop) (ta:TE):TE:=fun σ H Q=>ta σ H λx H1=>r x H1 Q
noncomputable def rI (C:Int->Int->Prop) (g:Int->Int->V):R2:=λx y H Q=>∃i j,x=.int i/\y=.int j/\C i j/\Q (g i j) H
noncomputable def om (g:Int->Int->V):R2:=λx y H Q=>∃i j,x=.int i/\y=.int j/\Q (g i j) H
noncomputable def rU (g:Int->V):V->Hp->VK->Prop:=λx H Q=>∃i,x=.int i/\Q (g i) H
section
variable {X:Cx} {a b c:Expr} {ta tb tc:TE} {pos:Pos}
theorem zU (ha:PE X a ta) (hb:PE X b tb) {pins:List (Addr×Obj)} {s:WI} {σ:St} {H:Hp} {R:V->V->Hp->Prop} (I:Inv X pins σ H s)
  (h:ta σ H λx H1=>tb σ H1 λy H2=>R x y H2) {Q:Value->WI->Prop} {f:Value->Value->Sem Value}
  (hf:∀v u s2 x y H2,Inv X pins σ H2 s2->RelV x v->RelV y u->R x y H2->wpAny (model X.prog X.w) X.A (f v u) Q X.xe s2) :
  wpAny (model X.prog X.w) X.A (eval a X.env) (λv bK=>wpAny (model X.prog X.w) X.A (eval b X.env) (λu wg=>wpAny (model X.prog X.w) X.A (f v u) Q X.xe wg) X.xe bK) X.xe s:=by
 refine aK (ha pins s σ H _ I h) λv s1 ⟨x,H1,I1,r1,q1⟩=>?_;refine aK (hb pins s1 σ H1 _ I1 q1) λu s2 ⟨y,H2,I2,r2,q2⟩=>?_;exact hf v u s2 x y H2 I2 r1 r2 q2
theorem Rl {op:Operator} {r:R2} (ho:bE X (YB op) r) (ha:PE X a ta) (hb:PE X b tb):PE X (.BinOp a op b pos) (sQ r ta tb):=by
 intro pins s σ H Q I h;exact wpAny_BinOp (zU ha hb I h λv u s2 x y H2 I2 rx ry q=>ho pins s2 σ H2 x y v u Q I2 rx ry q)
theorem Hf {op:UnaryOp} {r:V->Hp->VK->Prop} (ho:sP X (unaryOp op) r) (ha:PE X a ta):PE X (.UnaryOp op a pos) (ID r ta):=by
 intro pins s σ H Q I h;exact UnaryOp_ (aK (ha pins s σ H _ I h) λv s1 ⟨x,H1,I1,r1,q1⟩=>ho pins s1 σ H1 x v Q I1 r1 q1)
theorem wQ {f:Value->Value->Sem Value} {C:Int->Int->Prop} {g:Int->Int->Int}
  (rule:∀(i j:Int) (t u:Tok) (s:WI) (Q:Value->WI->Prop) (E:Value->WI->Prop),C i j->Q (.int (g i j) s.toks) { s with toks:=s.toks+1 }->wpAny (model X.prog X.w) X.A (f (.int i t) (.int j u)) Q E s) :
  bE X f (rI C λi j=>.int (g i j)):=by
 intro pins s σ H x y v u Q I rx ry h;obtain⟨i,j,rfl,rfl,hc,q⟩:=h;obtain⟨t,rfl⟩:=rx;obtain⟨t',rfl⟩:=ry;exact rule i j t t' s _ _ hc ⟨.int (g i j),H,I.tok _,⟨_,rfl⟩,q⟩
theorem HQ {f:Value->Value->Sem Value} {g:Int->Int->Int}
  (rule:∀(i j:Int) (t u:Tok) (s:WI) (Q:Value->WI->Prop) (E:Value->WI->Prop),Q (.int (g i j) s.toks) { s with toks:=s.toks+1 }->wpAny (model X.prog X.w) X.A (f (.int i t) (.int j u)) Q E s) :
  bE X f (om λi j=>.int (g i j)):=by
 intro pins s σ H x y v u Q I rx ry h;obtain⟨i,j,rfl,rfl,q⟩:=h;obtain⟨t,rfl⟩:=rx;obtain⟨t',rfl⟩:=ry;exact rule i j t t' s _ _ ⟨.int (g i j),H,I.tok _,⟨_,rfl⟩,q⟩
theorem zV {f:Value->Value->Sem Value} {g:Int->Int->Bool}
  (rule:∀(i j:Int) (t u:Tok) (s:WI) (Q:Value->WI->Prop) (E:Value->WI->Prop),Q (.bool (g i j)) s->wpAny (model X.prog X.w) X.A (f (.int i t) (.int j u)) Q E s) :
  bE X f (om λi j=>.bl (g i j)):=by
 intro pins s σ H x y v u Q I rx ry h;obtain⟨i,j,rfl,rfl,q⟩:=h;obtain⟨t,rfl⟩:=rx;obtain⟨t',rfl⟩:=ry;exact rule i j t t' s _ _ ⟨.bl (g i j),H,I,rfl,q⟩
def SJ (i j:Int):Prop:=0<j/\j<1073741824
def SK (i j:Int):Prop:=0<=j/\j<=1000000/\i.natAbs<2 ^ 64
def wj (i j:Int):Prop:=(-(2 ^ 64)<i/\i<2 ^ 64)\/(-(2 ^ 64)<j/\j<2 ^ 64)
theorem wj.ok {i j:Int} (h:wj i j):IntMulOk i j:=by
 rcases h with ⟨h1,h2⟩ | ⟨h1,h2⟩
 ·exact .of_left (intBits_le_64 h1 h2)
 ·exact .of_right (intBits_le_64 h1 h2)
theorem PN:bE X (YB .Add) (om λi j=>.int (i+j)):=HQ λ_ _ _ _ _ _ _ q=>add_int q
theorem PQ:bE X (YB .Sub) (om λi j=>.int (i-j)):=HQ λ_ _ _ _ _ _ _ q=>sub_int q
theorem PR:bE X (YB .Mult) (rI wj λi j=>.int (i*j)):=wQ λ_ _ _ _ _ _ _ hc q=>mul_int q hc.ok
theorem N2:bE X (YB .FloorDiv) (rI SJ λi j=>.int (i / j)):=wQ λi j _ _ _ _ _ hc q=>by
 have h1:(0:Int)<j:=hc.1;have h2:j<1073741824:=hc.2;exact floordiv_int (by omega) (by rw[Int.fdiv_eq_ediv_of_nonneg i (by omega)];exact q) (.inl (PyProof.noPylong_small (by omega)))
theorem PU:bE X (YB .Mod) (rI (λ_ j=>0<j) λi j=>.int (i % j)):=wQ λi j _ _ _ _ _ hc q=>by
 have h1:(0:Int)<j:=hc;exact mod_int' (by omega) (by rw[Int.fmod_eq_emod_of_nonneg i (by omega)];exact q)
theorem PV:bE X (YB .Pow) (rI SK λi j=>.int (i ^ j.toNat)):=wQ λ_ _ _ _ _ _ _ hc q=>pow_int_small hc.1 hc.2.1 hc.2.2 q
theorem TR {f:Value->Sem Value} {g:Int->Int}
  (rule:∀(i:Int) (t:Tok) (s:WI) (Q:Value->WI->Prop) (E:Value->WI->Prop),Q (.int (g i) s.toks) { s with toks:=s.toks+1 }->wpAny (model X.prog X.w) X.A (f (.int i t)) Q E s) :
  sP X f (rU λi=>.int (g i)):=by
 intro pins s σ H x v Q I rx h;obtain⟨i,rfl,q⟩:=h;obtain⟨t,rfl⟩:=rx;exact rule i t s _ _ ⟨.int (g i),H,I.tok _,⟨_,rfl⟩,q⟩
theorem Gh:sP X (unaryOp .USub) (rU λi=>.int (-i)):=TR λ_ _ _ _ _ q=>neg_int q
end
noncomputable def zW:V->V->Bool
 | .aB,.aB=>true | .aB,.int _=>true | .int _,.aB=>true | .aB,.bl _=>true | .bl _,.aB=>true | .aB,.str _=>true | .str _,.aB=>true
 | .int _,.int _=>true | .bl _,.bl _=>true | .str _,.str _=>true | .iZ _,.iZ _=>true
 | .int _,.str _=>true | .str _,.int _=>true | .bl _,.str _=>true | .str _,.bl _=>true
 |_,_=>false
noncomputable def TU:R2:=λx y H Q=>zW x y=true/\Q (.bl (decide (x=y))) H
noncomputable def TV:R2:=λx y H Q=>zW x y=true/\Q (.bl (!decide (x=y))) H
theorem Fe {i j:Int}:decide (V.int i=V.int j)=(i==j):=by
 rw[Yw];simp
theorem Gi {i j:Bool}:decide (V.bl i=V.bl j)=(i==j):=by
 rw[Yw];simp
theorem yo {i j:Str}:decide (V.str i=V.str j)=(i==j):=by
 rw[Yw];simp
theorem Ff {i j:Array UInt8}:decide (V.iZ i=V.iZ j)=(i.toList==j.toList):=by
 rw[Yw];cases i;cases j;simp
section
variable {X:Cx} {a b c:Expr} {ta tb tc:TE} {pos:Pos}
theorem cH {pins:List (Addr×Obj)} {σ:St} {H:Hp} {s:WI} {Q:VK} {k k':Bool} (I:Inv X pins σ H s) (q:Q (.bl k) H) (e:k=k'):EP X pins σ Q (.bool k') s:=by
 subst e;exact⟨.bl k,H,I,rfl,q⟩
theorem Rm:bE X (Yg .Eq) TU:=by
 intro pins s σ H x y v u Q I rx ry h;obtain⟨hs,q⟩:=h
 cases x with
 |aB =>
  cases rx
  cases y with
  |aB=>cases ry;exact PySem.EqNone.eq_none_none (cH I q (by simp))
  |bl j=>cases ry;exact PySem.EqNone.eq_none_bool (cH I q (by simp))
  |int j=>obtain⟨t',rfl⟩:=ry;exact PySem.EqNone.eq_none_int (cH I q (by simp))
  |str j=>obtain⟨t',rfl⟩:=ry;exact PySem.EqNone.eq_none_str (cH I q (by simp))
  |_=>exact absurd (show false=true from hs) WV
 |bl i =>
  cases rx
  cases y with
  |aB=>cases ry;exact PySem.EqNone.eq_bool_none (cH I q (by simp))
  |bl j=>cases ry;exact eq_bool (cH I q Gi)
  |str j=>obtain⟨t',rfl⟩:=ry;exact PySem.EqMixed.eq_bool_str (cH I q (by simp))
  |_=>exact absurd (show false=true from hs) WV
 |int i =>
  obtain⟨t,rfl⟩:=rx
  cases y with
  |aB=>cases ry;exact PySem.EqNone.eq_int_none (cH I q (by simp))
  |int j=>obtain⟨t',rfl⟩:=ry;exact eq_int (cH I q Fe)
  |str j=>obtain⟨t',rfl⟩:=ry;exact PySem.EqMixed.eq_int_str (cH I q (by simp))
  |_=>exact absurd (show false=true from hs) WV
 |str i =>
  obtain⟨t,rfl⟩:=rx
  cases y with
  |aB=>cases ry;exact PySem.EqNone.eq_str_none (cH I q (by simp))
  |bl j=>cases ry;exact PySem.EqMixed.eq_str_bool (cH I q (by simp))
  |int j=>obtain⟨t',rfl⟩:=ry;exact PySem.EqMixed.eq_str_int (cH I q (by simp))
  |str j=>obtain⟨t',rfl⟩:=ry;exact eq_str (cH I q yo)
  |_=>exact absurd (show false=true from hs) WV
 |iZ i =>
  obtain⟨t,rfl⟩:=rx
  cases y with
  |iZ j=>obtain⟨t',rfl⟩:=ry;exact PySem.W.eq_bytes (cH I q Ff)
  |_=>exact absurd (show false=true from hs) WV
 |_=>cases y<;>exact absurd (show false=true from hs) WV
theorem Rn:bE X (Yg .NotEq) TV:=by
 intro pins s σ H x y v u Q I rx ry h;obtain⟨hs,q⟩:=h
 cases x with
 |aB =>
  cases rx
  cases y with
  |aB=>cases ry;exact PySem.EqNone.ne_none_none (cH I q (by simp))
  |bl j=>cases ry;exact PySem.EqNone.ne_none_bool (cH I q (by simp))
  |int j=>obtain⟨t',rfl⟩:=ry;exact PySem.EqNone.ne_none_int (cH I q (by simp))
  |str j=>obtain⟨t',rfl⟩:=ry;exact PySem.EqNone.ne_none_str (cH I q (by simp))
  |_=>exact absurd (show false=true from hs) WV
 |bl i =>
  cases rx
  cases y with
  |aB=>cases ry;exact PySem.EqNone.ne_bool_none (cH I q (by simp))
  |bl j=>cases ry;exact ne_bool (cH I q (congrArg not Gi))
  |str j=>obtain⟨t',rfl⟩:=ry;exact PySem.EqMixed.ne_bool_str (cH I q (by simp))
  |_=>exact absurd (show false=true from hs) WV
 |int i =>
  obtain⟨t,rfl⟩:=rx
  cases y with
  |aB=>cases ry;exact PySem.EqNone.ne_int_none (cH I q (by simp))
  |int j=>obtain⟨t',rfl⟩:=ry;exact ne_int (cH I q (congrArg not Fe))
  |str j=>obtain⟨t',rfl⟩:=ry;exact PySem.EqMixed.ne_int_str (cH I q (by simp))
  |_=>exact absurd (show false=true from hs) WV
 |str i =>
  obtain⟨t,rfl⟩:=rx
  cases y with
  |aB=>cases ry;exact PySem.EqNone.ne_str_none (cH I q (by simp))
  |bl j=>cases ry;exact PySem.EqMixed.ne_str_bool (cH I q (by simp))
  |int j=>obtain⟨t',rfl⟩:=ry;exact PySem.EqMixed.ne_str_int (cH I q (by simp))
  |str j=>obtain⟨t',rfl⟩:=ry;exact ne_str (cH I q (congrArg not yo))
  |_=>exact absurd (show false=true from hs) WV
 |iZ i =>
  obtain⟨t,rfl⟩:=rx
  cases y with
  |iZ j=>obtain⟨t',rfl⟩:=ry;exact PySem.W.ne_bytes (cH I q (congrArg not Ff))
  |_=>exact absurd (show false=true from hs) WV
 |_=>cases y<;>exact absurd (show false=true from hs) WV
theorem Ro:bE X (Yg .LtE) (om λi j=>.bl (decide (i<=j))):=zV λ_ _ _ _ _ _ _ q=>le_int q
theorem Rp:bE X (Yg .Gt) (om λi j=>.bl (decide (j<i))):=zV λ_ _ _ _ _ _ _ q=>gt_int q
theorem Rq:bE X (Yg .GtE) (om λi j=>.bl (decide (j<=i))):=zV λ_ _ _ _ _ _ _ q=>ge_int q
theorem bS (b:Expr) {op:CmpOp} (h:op≠.In:=by decide) (h2:op≠.NotIn:=by decide):Z6 op b=false:=by
 have e1:(op==CmpOp.In)=false:=by cases op<;>first|rfl|exact absurd rfl h
 have e2:(op==CmpOp.NotIn)=false:=by cases op<;>first|rfl|exact absurd rfl h2
 cases b<;>simp[Z6,e1,e2]
theorem N3 {op:CmpOp} {r:R2} (ho:bE X (Yg op) r) (ha:PE X a ta) (hb:PE X b tb) (hm:Z6 op b=false):PE X (.Compare a [op] [b] pos) (sQ r ta tb):=by
 intro pins s σ H Q I h;exact wpAny_Compare1 (zU ha hb I h λv u s2 x y H2 I2 rx ry q=>ho pins s2 σ H2 x y v u Q I2 rx ry q) hm
noncomputable def vO (t:TE):TT:=fun σ H Q=>t σ H λx H'=>∃k,x=.bl k/\Q k H'
theorem N4 {op:CmpOp} {r:R2} (ho:bE X (Yg op) r) (ha:PE X a ta) (hb:PE X b tb) (hm:Z6 op b=false):PT X (.Compare a [op] [b] pos) (vO (sQ r ta tb)):=by
 intro pins s σ H Q I h;refine wpAny_isTrue_Compare1 (aK (ha pins s σ H _ I h) λv s1 ⟨x,H1,I1,r1,q1⟩=>aK (hb pins s1 σ H1 _ I1 q1) λu s2 ⟨y,H2,I2,r2,q2⟩ =>
  aK (ho pins s2 σ H2 x y v u _ I2 r1 r2 q2) λc s3 ⟨z,H3,I3,r3,k,e,q3⟩=>?_) hm
 subst e;cases r3;exact YJ ⟨H3,I3,q3⟩
noncomputable def Gj (r r':R2) (ta tb tc:TE):TE:=fun σ H Q=>ta σ H λx H1=>tb σ H1 λy H2=>r x y H2 λz H3=>∃k,z=.bl k /\
 (if k=true then tc σ H3 λw' H4=>r' y w' H4 Q else Q (.bl false) H3)
theorem ML {op oo:CmpOp} {r r':R2} (ho:bE X (Yg op) r) (dZ:bE X (Yg oo) r') (ha:PE X a ta) (hb:PE X b tb) (hc:PE X c tc)
  (hm:lastMarks [op,oo] [b,c]=false:=by with_unfolding_all rfl):PE X (.Compare a [op,oo] [b,c] pos) (Gj r r' ta tb tc):=by
 intro pins s σ H Q I h;refine Compare_chain (aK (ha pins s σ H _ I h) λv s1 ⟨x,H1,I1,r1,q1⟩=>chain_link (aK (hb pins s1 σ H1 _ I1 q1) λu s2 ⟨y,H2,I2,r2,q2⟩ =>
  aK (ho pins s2 σ H2 x y v u _ I2 r1 r2 q2) λd s3 ⟨z,H3,I3,r3,k,e,q3⟩=>?_)) hm
 subst e;cases r3;refine YJ ?_
 cases k with
 |false=>exact ite_ff ⟨.bl false,H3,I3,rfl,q3⟩
 |true=>exact ite_tt (chain_last (aK (hc pins s3 σ H3 _ I3 q3) λw' s4 ⟨z',H4,I4,r4,q4⟩=>dZ pins s4 σ H4 y z' u w' Q I4 r2 r4 q4))
def nP (K:Frag) (x:V) (H:Hp) (k:Bool):Prop :=
 match x with
 | .aB=>k=false
 | .bl b=>k=b
 | .int i=>k=(i != 0)
 | .str y=>y.length<=WX/\k=((y.length:Int) != 0)
 | .iZ y=>y.size<=WX/\k=((y.size:Int) != 0)
 | .ref p=>(∃xs,ba K H p xs/\k=!xs.isEmpty)\/(∃xs,aZ K H p xs/\k=!xs.isEmpty)\/∃aq,H p=some (.dK aq)/\k=!aq.isEmpty
 |_=>False
theorem KP {κ:Type} {aq:List (κ×V)} {vs:List (κ×Value)} (r:KV aq vs):(!vs.isEmpty)=!aq.isEmpty:=by
 cases r<;>rfl
theorem Dl {xs:List V} {its:List Value} (r:Vals xs its):(!its.toArray.isEmpty)=!xs.isEmpty:=by
 cases r<;>simp
theorem nr:(WX:Nat)<2 ^ 63:=by rw[Zz];decide
theorem Gk:SI X (λx H Q=>∃k,nP X.K x H k/\Q k H):=by
 intro pins s σ H x v Q I rx h;obtain⟨k,e,q⟩:=h;have hl:=nr;have hs:WX=16777216:=Zz
 cases x with
 |aB =>
  cases rx;have e':k=false:=e;subst e';exact truthy_none ⟨H,I,q⟩
 |bl b =>
  cases rx;have e':k=b:=e;subst e';exact YJ ⟨H,I,q⟩
 |int i =>
  obtain⟨t,rfl⟩:=rx;have e':k=(i != 0):=e;subst e';exact PySem.P.truthy_int ⟨H,I,q⟩
 |str y =>
  obtain⟨t,rfl⟩:=rx;obtain⟨hy,e'⟩:y.length<=WX/\k=((y.length:Int) != 0):=e;subst e';exact PySem.P.truthy_str (by omega) ⟨H,I.tok _,q⟩
 |iZ y =>
  obtain⟨t,rfl⟩:=rx;obtain⟨hy,e'⟩:y.size<=WX/\k=((y.size:Int) != 0):=e;subst e';exact PySem.W.truthy_bytes (by omega) ⟨H,I.tok _,q⟩
 |ref p =>
  cases rx;have e':(∃xs,ba X.K H p xs/\k=!xs.isEmpty)\/(∃xs,aZ X.K H p xs/\k=!xs.isEmpty)\/∃aq,H p=some (.dK aq)/\k=!aq.isEmpty:=e
  rcases e' with ⟨xs,hx,e'⟩ | ⟨xs,hx,e'⟩ | ⟨aq,hx,e'⟩
  ·subst e'
   obtain⟨its,r,pl,hz⟩:=I.list hx;have hlen:=r.length;exact wpAny_truthy_list pl.isList (by simp only[W2];omega) ⟨H,I.tok _,by rw[Dl r];exact q⟩
  ·subst e'
   obtain⟨its,r,pl,hz⟩:=I.tuple hx;have hlen:=r.length;exact truthy_tuple pl (by simp only[W2];omega) ⟨H,I.tok _,by rw[Dl r];exact q⟩
  ·subst e'
   obtain⟨hz,hS,vs,r,m⟩:aq.length<=WX/\(p==YT)=false/\∃vs,KV aq vs/\s.heap.DictOf (vd X.prog X.w) p vs:=I.aM p _ hx;have hlen:aq.length=vs.length:=Paired.length r;exact wpAny_truthy_dict hS m (by omega) ⟨H,I.tok _,by rw[KP r];exact q⟩
 |_=>exact(show False from e).elim
theorem MM (ha:PE X a ta) (he:∀whole,isTrue a X.env whole=(do let v <- whole;aaU a.pos;aai [v] (truthy v))) :
  PT X a (fun σ H Q=>ta σ H λx H'=>∃k,nP X.K x H' k/\Q k H'):=by
 intro pins s σ H Q I h;exact isTrue_plain (aK (ha pins s σ H _ I h) λv s1 ⟨x,H1,I1,r1,q1⟩=>Gk pins s1 σ H1 x v Q I1 r1 q1) (he _)
theorem KQ:bE X (YB .Add) (λx y H Q=>∃i j,x=.str i/\y=.str j/\i.length+j.length<=WX/\Q (.str (i++j)) H):=by
 intro pins s σ H x y v u Q I rx ry h;obtain⟨i,j,rfl,rfl,hz,q⟩:=h;obtain⟨t,rfl⟩:=rx;obtain⟨t',rfl⟩:=ry;exact add_str (λt' tk=>⟨.str (i++j),H,I.tok _,⟨_,rfl⟩,q⟩) hz
theorem vals1 {x:V} {us:List Value} (r:Vals [x] us):∃u,us=[u]/\RelV x u:=by
 cases r with
 |cons r1 r2=>cases r2;exact⟨_,rfl,r1⟩
theorem vals2 {x y:V} {us:List Value} (r:Vals [x,y] us):∃u w',us=[u,w']/\RelV x u/\RelV y w':=by
 cases r with
 |cons r1 r2 =>
  cases r2 with
  |cons r3 r4=>cases r4;exact⟨_,_,rfl,r1,r3⟩
theorem Lx (hc:X.calm=true):cz X (.builtin "max") (λxs H Q=>∃i j,xs=[.int i,.int j]/\Q (.int (if j > i then j else i)) H):=by
 intro pins s σ H xs us Q I r h;obtain⟨i,j,rfl,q⟩:=h;obtain⟨u,w',rfl,⟨t,rfl⟩,⟨t',rfl⟩⟩:=vals2 r;refine max_two_ints (I.ok.hd hc) λh' tk k=>⟨_,H,I.kept k,?_,q⟩;by_cases hj:j > i
 ·rw[if_pos hj,if_pos hj];exact⟨_,rfl⟩
 ·rw[if_neg hj,if_neg hj];exact⟨_,rfl⟩
theorem Ly (hc:X.calm=true):cz X (.builtin "min") (λxs H Q=>∃i j,xs=[.int i,.int j]/\Q (.int (if j<i then j else i)) H):=by
 intro pins s σ H xs us Q I r h;obtain⟨i,j,rfl,q⟩:=h;obtain⟨u,w',rfl,⟨t,rfl⟩,⟨t',rfl⟩⟩:=vals2 r;refine min_two_ints (I.ok.hd hc) λh' tk k=>⟨_,H,I.kept k,?_,q⟩;by_cases hj:j<i
 ·rw[if_pos hj,if_pos hj];exact⟨_,rfl⟩
 ·rw[if_neg hj,if_neg hj];exact⟨_,rfl⟩
end
end L2
namespace L2
open PySem PySem.Spec PyProof.Rows
structure Wa (h:Heap) (x dx C:Addr) (mA:Str->Option Value):Prop where
 obj:h.get? x=some (PySem.W.instObj C dx)
 ns:h.Ns1 dx mA
 ne:dx≠x
section
variable {prog:Xf} {w:World} {A:Xv} {E:Value->WI->Prop} {s:WI} {K:Frag} {x dx C f:Addr} {mA:Str->Option Value} {name:Str} {v:Value}
end
section
variable {P:Xf} {w:World} {H H':Hp} {h h':Heap} {a C dx:Addr} {fs TL:List (Str×V)}
end
structure TX (K:Frag) (C:Addr):Prop where
 pg:PySem.W.plainGet K C Str.empty=true
 hd:PySem.W.hasDictIn K C=true
 po:PySem.W.plainOver K C=true
 sa:aaA K (.ref C) "__setattr__"=some (some (.builtin "object.__setattr__"))
structure Wj (K:Frag) (C:Addr) (f:Str) (v:V) (u:Value):Prop where
 at_:aaA K (.ref C) f=some (some u)
 rel:RelV v u
 get:PySem.W.specialIn K u "__get__"=some none
 cp:PySem.W.copiedNames.contains f=false
structure Meth (K:Frag) (C:Addr) (m:Str) (f:Addr):Prop where
 at_:aaA K (.ref C) m=some (some (.ref f))
 fn:PySem.W.isFn K (.ref f)=true
 kp:Y2 K (.ref f)=true
section
variable {X:Cx} {pins:List (Addr×Obj)} {σ:St} {H:Hp} {s:WI} {a C dx:Addr} {fs:List (Str×V)} {f:Str} {v:V} {A:Xv} {E:Value->WI->Prop}
end
section
variable {X:Cx} {o e value:Expr} {f:Str} {pos pos' r9:Pos} {ta tv:TE}
end
section
variable {X:Cx} {pins:List (Addr×Obj)} {σ:St} {H:Hp} {s:WI} {A:Xv} {E:Value->WI->Prop} {Q:Value->WI->Prop} {c:Value} {b:Bool}
inductive jI (K:Frag) (H:Hp):V->Value->Prop where
 |aB:jI K H .aB (.type "NoneType")
 |bl (x:Bool):jI K H (.bl x) (.type "bool")
 |int (i:Int):jI K H (.int i) (.type "int")
 |str (x:Str):jI K H (.str x) (.type "str")
 |sA (x:UInt64):jI K H (.sA x) (.type "float")
 |lst {a:Addr} {xs:List V} (e:H a=some (.lst xs)):jI K H (.ref a) (.type "list")
 |cL {a:Addr} {o:Obj} {xs:List V} (e:H a=some (.cL o (.lst xs))):jI K H (.ref a) (.type "list")
 |tup {a:Addr} {xs:List V} (e:H a=some (.tup xs)):jI K H (.ref a) (.type "tuple")
 |dK {a:Addr} {aq:List (Key×V)} (e:H a=some (.dK aq)):jI K H (.ref a) (.type "dict")
 |dT {a:Addr} {aq:List (List Key×V)} (e:H a=some (.dT aq)):jI K H (.ref a) (.type "dict")
 |ins {a C dx:Addr} {fs:List (Str×V)} (e:H a=some (.ins C dx fs)) (cl:TX K C) (ha:aaA K (.ref C) "__class__"=some (some (.builtin "object.__class__")))
   (hn:PySem.W.specialIn K (.builtin "object.__class__") "__get__"=some (some (.builtin "getset_descriptor.__get__"))) (IE:PySem.W.takesIn K (.builtin "object.__class__")=some true)
   (hm:PySem.W.mroIn K C (.type "object")=some true):jI K H (.ref a) (.ref C)
end
end L2
namespace L2
open PySem PySem.Spec PyProof.Rows
structure cI (k:Nat) (A:Xv):Prop where
 hd:A.handled=none
 dp:A.depth+3*k+5<recursionLimit
 un:A.units+16*k+200<cLine
 gd:A.guards=some []
theorem cI.mono {j k:Nat} {A:Xv} (r:cI k A) (h:j<=k):cI j A:=⟨r.hd,by have:=r.dp;omega,by have:=r.un;omega,r.gd⟩
theorem cI.deeper {k:Nat} {A:Xv} (r:cI (k+1) A) (env:Env):cI k (A.deeper env) :=
 ⟨r.hd,by have:=r.dp;show A.depth+1+3*k+5 < _;omega,by have:=r.un;show A.units+3+16*k+200 < _;omega,r.gd⟩
theorem cI.depth {k:Nat} {A:Xv} (r:cI k A):A.depth<recursionLimit:=by have:=r.dp;omega
noncomputable def SM:TA:=λ_ H Q=>Q [] H
noncomputable def Rr (ta:TE) (tr:TA):TA:=fun σ H Q=>ta σ H λx H1=>tr σ H1 λxs H2=>Q (x::xs) H2
section
variable {X:Cx} {e:Expr} {es:List Expr} {te:TE} {t:TA} {pos:Pos}
theorem nu:PA X [] SM:=λ_ _ _ _ H Q I h=>Calls.spliced_nil ⟨[],H,I,.nil,h⟩
theorem k9 (ha:PE X e te) (hr:PA X es t) (hs:Xb (e::es) X.env=(false,eval e X.env)::Xb es X.env:=by rfl):PA X (e::es) (Rr te t):=by
 intro pos pins s σ H Q I h;rw[hs];show wpAny _ _ (spliced ((false,eval e X.env)::Z5 pos (Xb es X.env))) _ _ s;refine Calls.spliced_cons (aK (ha pins s σ H _ I h) λu s1 ⟨x,H1,I1,r1,q1⟩=>?_);exact aK (hr pos pins s1 σ H1 _ I1 q1) λus s2 ⟨xs,H2,I2,r2,q2⟩=>⟨x::xs,H2,I2,.cons r1 r2,q2⟩
noncomputable def SN (t:TA):TE:=fun σ H Q=>t σ H λxs H1=>xs.length<=WX/\∀p,H1 p=none->Q (.ref p) (upd H1 p (.tup xs))
noncomputable def SO (t:TA):TE:=fun σ H Q=>t σ H λxs H1=>xs.length<=WX/\∀p,H1 p=none->Q (.ref p) (upd H1 p (.lst xs))
theorem PX {x1} (h:PA X es t):PE X (.Tuple es x1 pos) (SN t):=by
 intro pins s σ H Q I hq;refine wpAny_Tuple_spliced (aK (h pos pins s σ H _ I hq) λus s1 ⟨xs,H1,I1,r,z,q⟩=>⟨by rw[<- r.length];exact z,?_⟩);have hf:H1 s1.heap.objs.size=none:=I1.aM.fresh (Nat.le_refl _);refine⟨.ref s1.heap.objs.size,upd H1 s1.heap.objs.size (.tup xs),I1.laid (t':=s1.toks) (λb u e=>WE _ e) (Nat.le_refl _) ?_,rfl,q _ hf⟩;exact⟨z,us,r,⟨_,WN _ rfl,rfl,_,rfl⟩⟩
theorem Gm (h:PA X es t):PE X (.List es pos) (SO t):=by
 intro pins s σ H Q I hq;refine wpAny_List_spliced (aK (h pos pins s σ H _ I hq) λus s1 ⟨xs,H1,I1,r,z,q⟩=>⟨by rw[<- r.length];exact z,?_⟩);have hf:H1 s1.heap.objs.size=none:=I1.aM.fresh (Nat.le_refl _);refine⟨.ref s1.heap.objs.size,upd H1 s1.heap.objs.size (.lst xs),I1.laid (t':=s1.toks) (λb u e=>WE _ e) (Nat.le_refl _) ?_,rfl,q _ hf⟩;exact⟨z,us,0,r,WN _ rfl⟩
end
noncomputable abbrev Sp:=List V->Hp->VK->XK->Prop
noncomputable abbrev jt:=List Env->Hp->WI->XK->Value->WI->Prop
structure wk (P:Xf) (w:World) (K:Frag) (mg:Str->Option Value) (base:Heap) (A:Xv) (outer:List Env) (s:WI) (H:Hp):Prop where
 frames:A.frames=some outer
 mod:Mod K mg base
 bs:∀b o,base.get? b=some o->s.heap.get? b=some o/\H b=none
 jr:base.objs.size<=s.heap.objs.size
 jH:s.heap.FunFrames base outer
 qy:∀b∈gR outer,H b=none
 aM:cA P w H s.heap
 bare:AllBare s.gens
def CE (outer:List Env) (P:Xf) (w:World) (H:Hp) (s:WI) (Q:VK) (u:Value) (s':WI):Prop :=
 ∃v H',s'.os=s.os/\AllBare s'.gens/\Un (gR outer) [] H H' s.heap s'.heap/\cA P w H' s'.heap/\RelV v u/\Q v H'
def CR (CX:jt) (outer:List Env) (P:Xf) (w:World) (H:Hp) (s:WI) (Q:VK) (E:XK) (r:Result) (s':WI):Prop :=
 match r with
 | .ok (.ret u)=>CE outer P w H s Q u s'
 | .ok _=>False
 | .error e=>CX outer H s E e s'
structure aW (P:Xf) (w:World) (K:Frag) (mg:Str->Option Value) (base:Heap) (CX:jt) (k:Nat) (f:Addr) (fd:Xg) (ps:List Str) (sp:Sp):Prop where
 len:∀vs H Q E,sp vs H Q E->vs.length=ps.length
 run:∀(A:Xv) (outer:List Env) (s:WI) (H:Hp) (args:Args) (us:List Value) (vs:List V) (Q:VK) (E:XK),cI k A->wk P w K mg base A outer s H->BindsTo s fd args (ps.zip us)->Vals vs us->sp vs H Q E ->
  aaV (model P w) A (.call (.ref f) args) (CR CX outer P w H s Q E) s
theorem aW.imp {P:Xf} {w:World} {K:Frag} {mg:Str->Option Value} {base:Heap} {CX:jt} {k:Nat} {f:Addr} {fd:Xg} {ps:List Str} {sp IF:Sp} (F:aW P w K mg base CX k f fd ps sp)
  (h:∀vs H Q E,IF vs H Q E->sp vs H Q E):aW P w K mg base CX k f fd ps IF :=
 ⟨λvs H Q E q=>F.len vs H Q E (h _ _ _ _ q),λA outer s H args us vs Q E hr he hb hv hs=>F.run A outer s H args us vs Q E hr he hb hv (h _ _ _ _ hs)⟩
section
variable {X:Cx} {pins:List (Addr×Obj)} {σ:St} {H:Hp} {s s':WI}
theorem Inv.jJ (I:Inv X pins σ H s):wk X.prog X.w X.K X.mg X.base X.A X.stack s H :=
 ⟨I.ok.frames,I.ok.mod,I.bs,W7 I.ok.jr I.sz,I.stack,I.ym,I.aM,I.bare⟩
theorem Inv.after {Q:VK} {u:Value} (I:Inv X pins σ H s) (h:CE X.stack X.prog X.w H s Q u s'):EP X pins σ Q u s':=by
 obtain⟨v,H',os,bare,un,aM,r,q⟩:=h;obtain⟨hh,g,d,t,AB⟩:=s';obtain rfl:AB=s.os:=os;exact⟨v,H',I.call (h':=hh) (g':=g) (d':=d) (t':=t) (ch:=[]) un aM bare (λb z=>absurd z (by simp)),r,q⟩
end
noncomputable def Rt (sp:Sp) (aw:List V) (E:XK) (t:TA):TE:=fun σ H Q=>t σ H λvs H1=>sp (vs++aw) H1 Q E
def Binds (K:Frag) (fd:Xg) (ps:List Str) (ds:List Value):Prop :=
 ∀(s:WI) (us:List Value),K.In s.heap->(us++ds).length=ps.length->BindsTo s fd ⟨us,[]⟩ (ps.zip (us++ds))
theorem Binds.all {K:Frag} {fd:Xg} {ps:List Str} (h:∀us:List Value,us.length=ps.length->bindArgs fd ⟨us,[]⟩=pure (ps.zip us)):Binds K fd ps []:=λs us _ hl=>by
 rw[Yb] at hl |-;exact .of_eq (h us hl)
def Passes (CX:jt) (X:Cx) (E:XK):Prop:=∀(pins:List (Addr×Obj)) (σ:St) (H:Hp) (s:WI) (e:Value) (s':WI),Inv X pins σ H s->CX X.stack H s E e s'->X.xe e s'
section
variable {X:Cx} {CX:jt} {k:Nat} {f C:Addr} {fd:Xg} {ps:List Str} {sp:Sp} {aw:List V} {ds:List Value} {E:XK} {x m:Str} {p pos apos:Pos} {e o:Expr} {es:List Expr} {ta:TE} {t:TA}
theorem PY {pins:List (Addr×Obj)} {σ:St} {H:Hp} {s:WI} {Q:VK} {us:List Value} {vs:List V} (F:aW X.prog X.w X.K X.mg X.base CX k f fd ps sp) (hr:cI k X.A) (hb:Binds X.K fd ps ds) (hd:Vals aw ds) (hx:Passes CX X E)
  (I:Inv X pins σ H s) (r:Vals vs us) (h:sp (vs++aw) H Q E):wpAny (model X.prog X.w) X.A (call (.ref f) us) (EP X pins σ Q) X.xe s:=by
 have r2:Vals (vs++aw) (us++ds):=r.append hd;have hl:(us++ds).length=ps.length:=by rw[<- r2.length];exact F.len _ _ _ _ h
 refine wpAny_call (Ze (F.run X.A X.stack s H ⟨us,[]⟩ (us++ds) (vs++aw) Q E hr I.jJ (hb s us I.qz hl) r2 h) λr s' hq=>?_)
 cases r with
 |error e=>exact hx pins σ H s e s' I hq
 |ok fl =>
  cases fl with
  |ret u=>exact I.after hq
  |next=>exact ZI hq
  |brk=>exact ZI hq
  |cont=>exact ZI hq
theorem N5 (F:aW X.prog X.w X.K X.mg X.base CX k f fd ps sp) (hr:cI k X.A) (hg:Gl X x) (hm:X.mg x=some (.ref f)) (hk:Y2 X.K (.ref f)=true) (hb:Binds X.K fd ps ds) (hd:Vals aw ds) (hx:Passes CX X E)
  (ha:PA X (e::es) t) (jS:(x==("__debug__":Str))=false:=by decide) (he:Xb (e::es) X.env=(false,eval e X.env)::Xb es X.env:=by rfl) (dj:(Z5 pos (Xb es X.env)).any (·.1)=false:=by rfl) :
  PE X (.Call (.Name x p) (e::es) [] pos) (Rt sp aw E t):=by
 intro pins s σ H Q I h;refine wpAny_Call_Name_kw (Fd I hg hm ?_ jS);refine PySem.W.callWith_K (h₀:=X.base) I.ok.mod.sD hk (aK (ha pos pins s σ H _ I h) λus s1 ⟨vs,H1,I1,r,q⟩=>⟨I1.qz,?_⟩) he dj;exact PY F hr hb hd hx I1 r q
structure Mk (K:Frag) (C f:Addr):Prop where
 makes:PySem.W.makesIn K C=true
 init:aaA K (.ref C) "__init__"=some (some (.ref f))
 fn:PySem.W.isFn K (.ref f)=true
 kp:Y2 K (.ref C)=true
end
section
variable {X:Cx} {CX:jt} {k:Nat} {f C:Addr} {fd:Xg} {ps ks:List Str} {sp:Sp} {E:XK} {x m:Str} {p pos apos SQ:Pos} {e o:Expr} {es:List Expr} {Wk:List Keyword} {te ta:TE} {t tk:TA} {nm:Option Str}
structure V9 (K:Frag) (fd:Xg) (ps ks:List Str) (g:List Value->List Value->List Value) (gV:List V->List V->List V):Prop where
 to:∀(s:WI) (us ws:List Value),K.In s.heap->(g us ws).length=ps.length->BindsTo s fd ⟨us,ks.zip ws⟩ (ps.zip (g us ws))
 rel:∀{vs:List V} {us:List Value} {zs:List V} {ws:List Value},Vals vs us->Vals zs ws->Vals (gV vs zs) (g us ws)
variable {g:List Value->List Value->List Value} {gV:List V->List V->List V}
end
structure bx (N P:List Str) (sc:Scope):Prop where
 kind:sc.kind=.function
 co:sc.isCoroutine=false
 gen:sc.isGenerator=false
 nd:N.Nodup
 pre:N.take P.length=P
 par:∀x∈P,sc.names.lookup x=some .local\/sc.names.lookup x=some .cell
 PZ:∀y∈sc.names,y.2≠.free
theorem DF {kindOf:Str->Option ZJ} {x:Str}:∀{binds:List (Str×Value)} {m:Str->Option Value},(∀v,(x,v)∉binds)->bindL kindOf binds m x=m x
 | [],_,_=>rfl
 |(n,v)::r,m,h=>by
  unfold bindL;rw[DF λw hw=>h w (WT _ hw)];split
  ·have:x≠n:=by rintro rfl;exact h v WR
   simp[this]
  ·rfl
theorem DG {kindOf:Str->Option ZJ} {x:Str}:∀{binds:List (Str×Value)} {m:Str->Option Value},(∀v,(x,v)∉binds)->bindC kindOf binds m x=m x
 | [],_,_=>rfl
 |(n,v)::r,m,h=>by
  unfold bindC;rw[DG λw hw=>h w (WT _ hw)];split
  ·rfl
  ·have:x≠n:=by rintro rfl;exact h v WR
   simp[this]
theorem DH {kindOf:Str->Option ZJ} {x:Str} {v:Value}:∀{P:List Str} {vs:List Value} {i:Nat} {m:Str->Option Value},P.Nodup->P[i]?=some x->vs[i]?=some v->kindOf x=some .local ->
  bindL kindOf (P.zip vs) m x=some v
 | [],_,_,_,_,h,_,_=>by simp at h
 |_::_,[],_,_,_,_,h,_=>by simp at h
 |p::P,w::vs,0,m,nd,h1,h2,hk=>by
  simp at h1 h2;subst h1;subst h2;show bindL kindOf ((p,w)::P.zip vs) m p=_;unfold bindL;rw[DF λv hv=>(ZA.mp nd).1 (List.of_mem_zip hv).1,if_pos hk];simp
 |p::P,w::vs,i+1,m,nd,h1,h2,hk=>by
  show bindL kindOf ((p,w)::P.zip vs) m x=_;unfold bindL;exact DH (i:=i) (ZA.mp nd).2 (by simpa using h1) (by simpa using h2) hk
theorem DJ {kindOf:Str->Option ZJ} {x:Str} {v:Value}:∀{P:List Str} {vs:List Value} {i:Nat} {m:Str->Option Value},P.Nodup->P[i]?=some x->vs[i]?=some v->kindOf x≠some .local ->
  bindC kindOf (P.zip vs) m x=some v
 | [],_,_,_,_,h,_,_=>by simp at h
 |_::_,[],_,_,_,_,h,_=>by simp at h
 |p::P,w::vs,0,m,nd,h1,h2,hk=>by
  simp at h1 h2;subst h1;subst h2;show bindC kindOf ((p,w)::P.zip vs) m p=_;unfold bindC;rw[DG λv hv=>(ZA.mp nd).1 (List.of_mem_zip hv).1,if_neg hk];simp
 |p::P,w::vs,i+1,m,nd,h1,h2,hk=>by
  show bindC kindOf ((p,w)::P.zip vs) m x=_;unfold bindC;exact DJ (i:=i) (ZA.mp nd).2 (by simpa using h1) (by simpa using h2) hk
noncomputable def start (N:List Str) (vs:List V):St:=vs.map some++WM (N.length-vs.length) none
noncomputable def nQ (CX:jt) (P:Xf) (w:World) (K:Frag) (mg:Str->Option Value) (base:Heap) (N:List Str) (qual:Str) (scope:Scope) (f:Addr) (cd:Value) (A:Xv) (outer:List Env) (s:WI) (H:Hp) (E:XK):Cx where
 prog:=P
 w:=w
 K:=K
 mg:=mg
 base:=base
 A:=A.deeper (envOfC qual scope s.heap.objs.size f cd)
 N:=N
 dg:=s
 rZ:=H
 env:=envOfC qual scope s.heap.objs.size f cd
 outer:=outer
 stack:=envOfC qual scope s.heap.objs.size f cd::outer
 ex:=[]
 calm:=true
 fn:=λ_=>true
 pn:=[]
 xe:=λe s'=>wpAny (model P w) (A.deeper (envOfC qual scope s.heap.objs.size f cd)) (leaving (envOfC qual scope s.heap.objs.size f cd) e) (λ_ sR=>CX outer H s E e sR) (λe' sR=>CX outer H s E e' sR) s'
theorem Ep {sc:Scope} {n:Nat} {x:Str} (h:sc.names.lookup x=some .cell):∃c,(ZO n sc.names []).lookup x=some c:=by
 have q:=aag sc.names n [] (.inl h);exact Option.isSome_iff_exists.mp q
theorem Lz {CX:jt} {P:Xf} {w:World} {K:Frag} {mg:Str->Option Value} {base:Heap} {N ps:List Str} {qual:Str} {scope:Scope} {f:Addr} {cd:Value} {A:Xv} {outer:List Env} {s s1:WI} {H:Hp} {E:XK} {us:List Value} {vs:List V}
  (S:bx N ps scope) (hd:A.handled=none) (e0:wk P w K mg base A outer s H) (hl:vs.length=ps.length) (r:Vals vs us)
  (x:InCallC s s.heap.objs.size (bindL (envOfC qual scope s.heap.objs.size f cd).kindOf (ps.zip us) λ_=>none) (ZO (s.heap.objs.size+1) scope.names []) (bindC (envOfC qual scope s.heap.objs.size f cd).kindOf (ps.zip us) λ_=>none) s1) :
  Inv (nQ CX P w K mg base N qual scope f cd A outer s H E) [] (start N vs) H s1:=by
 have dj:ps.length<=N.length:=by have:=congrArg List.length S.pre;rw[Zo] at this;omega
 obtain⟨h1,tk,rfl,hk⟩:=x.done;have sS:∀b:Addr,b∉(nQ CX P w K mg base N qual scope f cd A outer s H E).ex:=λb z=>absurd (show b∈([]:List Addr) from z) (by simp);refine⟨⟨e0.mod,S.kind,rfl,rfl,Nat.le_refl _,λy z c h1 h2=>?_,λy hy=>?_,λy c _ h=>?_,λ_=>hd,Around.frames_deeper e0.frames,.inr ⟨rfl,rfl⟩,λb z=>absurd z (sS b),e0.bs,e0.jr,λb _ _=>sS b,λb z=>absurd z (sS b),e0.jH,e0.qy⟩,
  rfl,e0.bare,Un.kept hk,⟨_,x.toInCall.ns,λi y v h1 h2 h3=>?_⟩,λy c h=>⟨_,x.cell y c h⟩,e0.aM.fresh (Nat.le_refl _),λy c h=>?_,λp hp=>absurd (show p∈([]:List (Addr×Obj)) from hp) (by simp),e0.aM.kept hk,?_⟩
 ·exact name_of_addr x.apart (Zj h1) (Zj h2)
 ·have hy:scope.names.lookup y=some .cell\/scope.names.lookup y=some .free:=hy
  rcases hy with hy|hy
  ·exact Ep hy
  ·exact absurd rfl (S.PZ _ (Zj hy))
 ·exact Nat.le_of_lt (x.above y c (Zj h))
 ·have hi:i<vs.length:=by
   unfold start at h2;by_cases hi:i<vs.length
   ·exact hi
   ·rw[Xr (by simpa using hi)] at h2
    rw[X5] at h2
    split at h2<;>cases h2
  have ha:vs[i]?=some v:=by
   unfold start at h2;rw[W0 (by simpa using hi),W6] at h2
   cases e:vs[i]? with
   |none=>rw[e] at h2;cases h2
   |some a=>rw[e] at h2;cases h2;rfl
  obtain⟨u,hu,rv⟩:=r.get ha;have hp:ps[i]?=some y:=by
   rw[<- S.pre,List.getElem?_take_of_lt (by omega)];exact h1
  have IG:ps.Nodup:=by rw[<- S.pre];exact S.nd.sublist (List.take_sublist _ _)
  refine⟨u,rv,?_⟩
  rcases S.par y (YF hp) with k|k
  ·exact .inl ⟨k,DH IG hp hu k⟩
  ·obtain⟨c,e⟩:=Ep (n:=s.heap.objs.size+1) k
   refine .inr ⟨.inl k,c,e,?_⟩;have q:=x.cell y c e;rw[DJ IG hp hu (by show scope.names.lookup y≠_;rw[k];decide)] at q;exact q
 ·exact e0.aM.fresh (Nat.le_of_lt (x.above y c (Zj h)))
 ·unfold start
  show _=N.length;rw[Xw,WJ,ZC];omega
theorem Ru {CX:jt} {P:Xf} {w:World} {K:Frag} {mg:Str->Option Value} {base:Heap} {k:Nat} {f:Addr} {name qual:Str} {params:Arguments} {body:List Stmt} {scope:Scope} {dV kV doc pm bg ct oc:Value} {an od:Option Addr}
  {mK:Array (Option Value)} {N ps:List Str} {sp:Sp} (lk:K.lookup f=some ⟨oc,od,.func (Zf name qual params body scope dV kV doc pm an bg ct),mK⟩) (jP:aaB K bg qual=true) (S:bx N ps scope)
  (len:∀vs H Q E,sp vs H Q E->vs.length=ps.length)
  (zr:∀(A:Xv) (outer:List Env) (s:WI) (H:Hp) (vs:List V) (Q:VK) (E:XK),cI k (A.deeper (envOfC qual scope s.heap.objs.size f bg))->sp vs H Q E ->
   ∃t,dH (nQ CX P w K mg base N qual scope f bg A outer s H E) body t/\t { nx:=λ_ H'=>Q .aB H',rt:=Q } (start N vs) H) :
  aW P w K mg base CX (k+1) f (Zf name qual params body scope dV kV doc pm an bg ct) ps sp:=by
 refine⟨len,λA outer s H args us vs Q E hr e0 hb r mL=>?_⟩;have hl:=len _ _ _ _ mL;have KX:K.In s.heap:=e0.mod.sD.keeps λb o e=>(e0.bs b o e).1;have lim:s.heap.NoLimit:=e0.mod.nolimit.keeps λb o e=>(e0.bs b o e).1;have Rv:∀y∈ps.zip us,scope.names.lookup y.1=some .local\/(scope.names.lookup y.1=some .cell/\((ZO (s.heap.objs.size+1) scope.names []).lookup y.1).isSome=true):=λ⟨n,v⟩ hy=>by
  rcases S.par n (List.of_mem_zip hy).1 with q|q
  ·exact .inl q
  ·exact .inr ⟨q,aag _ _ _ (.inl q)⟩
 refine codeAny_call_function hr.depth (KX _ _ lk) rfl S.co S.gen rfl (PySem.W.codeRec_of KX jP) (hb _ _ _ _ ?_);refine wpAny_newFunctionEnv_cells S.kind Rv λenv he s1 x=>?_;subst he;refine⟨lim.keeps x.toInCall.keep,codeAny_func ?_⟩;obtain⟨t,ht,hq⟩:=zr A outer s H vs Q E (hr.deeper _) mL;have I:Inv (nQ CX P w K mg base N qual scope f bg A outer s H E) [] (start N vs) H s1:=Lz S hr.hd e0 hl r x;refine Yy (ht [] s1 (start N vs) H _ I hq) (λfl s' hs=>?_) λe s' hs=>hs;have fin:∀{aT:St} {H':Hp} {v:V} {u:Value},Inv (nQ CX P w K mg base N qual scope f bg A outer s H E) [] aT H' s'->RelV v u->Q v H'->CE outer P w H s Q u s' :=
  λ{aT H' v u} J rv q=>⟨v,H',J.os,J.bare,J.base,J.aM,rv,q⟩
 cases fl with
 |ret u =>
  obtain⟨v,aT,H',J,rv,q⟩:=hs;exact fin J rv q
 |next =>
  obtain⟨aT,H',J,q⟩:=hs;exact fin (v:=V.aB) (u:=Value.none) J rfl q
 |brk =>
  obtain⟨_,_,_,q⟩:=hs;exact ZI q
 |cont =>
  obtain⟨_,_,_,q⟩:=hs;exact ZI q
end L2
namespace L2
open PySem PySem.Spec PyProof.Rows
section
variable {X:Cx} {x:Str} {p pos:Pos} {e:Expr} {es:List Expr} {t:TA} {id T:String} {r:List V->Hp->VK->Prop}
noncomputable def AD (r:List V->Hp->VK->Prop) (t:TA):TE:=fun σ H Q=>t σ H λvs H1=>r vs H1 Q
theorem xS (hc:cz X (.builtin id) r) (hg:Gl X x) (hm:X.mg x=none) (hv:XA x=some (.builtin id)) (ha:PA X (e::es) t) (hn:x≠"__name__":=by decide) (jS:(x==("__debug__":Str))=false:=by decide)
  (he:Xb (e::es) X.env=(false,eval e X.env)::Xb es X.env:=by rfl) (dj:(Z5 pos (Xb es X.env)).any (·.1)=false:=by rfl):PE X (.Call (.Name x p) (e::es) [] pos) (AD r t):=by
 intro pins s σ H Q I h;refine wpAny_Call_Name_kw (lj I hg hm hv ?_ hn jS);exact PyProof.Rows.callWith_builtin1 (aK (ha pos pins s σ H _ I h) λus s1 ⟨vs,H1,I1,r1,q1⟩=>hc pins s1 σ H1 vs us Q I1 r1 q1) he dj
theorem xF (hc:cz X (.type T) r) (hg:Gl X x) (hm:X.mg x=none) (hv:XA x=some (.type T)) (ha:PA X (e::es) t) (hn:x≠"__name__":=by decide) (jS:(x==("__debug__":Str))=false:=by decide)
  (he:Xb (e::es) X.env=(false,eval e X.env)::Xb es X.env:=by rfl) (dj:(Z5 pos (Xb es X.env)).any (·.1)=false:=by rfl):PE X (.Call (.Name x p) (e::es) [] pos) (AD r t):=by
 intro pins s σ H Q I h;refine wpAny_Call_Name_kw (lj I hg hm hv ?_ hn jS);exact Ya (aK (ha pos pins s σ H _ I h) λus s1 ⟨vs,H1,I1,r1,q1⟩=>hc pins s1 σ H1 vs us Q I1 r1 q1) he dj
end
end L2
namespace HT
open PySem PyProof.Rows
noncomputable def lexLt:List Int->List Int->Bool
 | [],[]=>false
 | [],_::_=>true
 |_::_,[]=>false
 |x::xs,y::ys=>if x=y then lexLt xs ys else decide (x<y)
theorem jc (x y:Int) (xs ys:List Int):lexLt (x::xs) (y::ys)=if x=y then lexLt xs ys else decide (x<y):=rfl
theorem Er (A:Xv) (s:WI) (a:Int) (t:Tok) (c:Int) (u:Tok) (prog:Xf) (w:World) (E:Value->WI->Prop) (Q:Value->WI->Prop) (h:Q (.bool (decide (a<c))) s) :
  wpAny (model prog w) A (richCompare .Lt (.int a t) (.int c u)) Q E s :=
 (PyProof.Rows.lt_int h:wpAny (model prog w) A (Yg .Lt (.int a t) (.int c u)) Q E s)
section
open PySem.SeqAt
open PySem.AutoSeq1 (wpAny_loadPart')
open PySem.MeetsSeq PySem.MeetsSeq2 PySem.MeetsSeq3
end
section
variable {prog:Xf} {w:World} {A:Xv} {E:Value->WI->Prop} {s:WI}
theorem N6 {t b:Addr} {vs ws:List Value} {Q:Value->WI->Prop} (ht:IsTup s.heap t vs.toArray) (hb:IsTup s.heap b ws.toArray) (hv:vs≠[])
  (h1:ws=[]->Q (.ref t) s) (h2:ws≠[]->Q (.ref s.heap.objs.size) { s with heap:=s.heap.push { cls:=.type "tuple",data:=.seq (vs++ws).toArray } })
  (hsz:vs.length+ws.length<=WX):wpAny (model prog w) A (YB .Add (.ref t) (.ref b)) Q E s:=by
 obtain⟨⟨cls,dd,data,sl⟩,ho,hc,n,hd⟩:=id ht;obtain⟨⟨HR,mM,data2,cC⟩,ju,mO,n2,hd2⟩:=id hb;simp only at hc hd mO hd2;subst hc hd mO hd2;have e:vs.toArray++ws.toArray=(vs++ws).toArray:=by simp
 by_cases hw:ws=[]
 ·exact concat_meets ⟨_,ho,rfl⟩ ⟨_,ju,rfl⟩ noFill_tuple_add seq_tuple_add aah Z7 (Z3 _ _)
   (tuple_addW1 t b vs.toArray ws.toArray n n2 dd mM sl cC (by simpa using hv) (by simp[hw])) ⟨ho,ju,h1 hw⟩
 ·refine concat_meets ⟨_,ho,rfl⟩ ⟨_,ju,rfl⟩ noFill_tuple_add seq_tuple_add aah Z7 (Z3 _ _)
   (tuple_addW2 t b vs.toArray ws.toArray n n2 dd mM sl cC (by simpa using hv) (by simpa using hw) (by rw[W2,W2];exact hsz)) ⟨ho,ju,?_⟩
  rw[e];exact h2 hw
noncomputable def aR (n d:Nat):Option Int->Nat
 |none=>d
 |some v=>if v<0 then (v+(n:Int)).toNat else min v.toNat n
theorem N7 (n d k:Nat):aR n d (some (k:Int))=min k n:=by
 show (if (k:Int)<0 then ((k:Int)+(n:Int)).toNat else min (k:Int).toNat n)=min k n
 rw[if_neg (by omega),Xm]
theorem P0 (n d:Nat) (hd:d<=n) (o:Option Int):aR n d o<=n:=by
 cases o with
 |none=>exact hd
 |some v =>
  show (if v<0 then (v+(n:Int)).toNat else min v.toNat n)<=n
  by_cases hv:v<0
  ·rw[if_pos hv];omega
  ·rw[if_neg hv];exact Nat.min_le_right _ _
theorem Fg (v:Int) (n d:Nat):(if v<0 then max (v+(n:Int)) 0 else min v (n:Int))=((aR n d (some v):Nat):Int):=by
 show (if v<0 then max (v+(n:Int)) 0 else min v (n:Int))=(((if v<0 then (v+(n:Int)).toNat else min v.toNat n):Nat):Int)
 by_cases hv:v<0
 ·simp only[if_pos hv];omega
 ·simp only[if_neg hv];omega
theorem KR (lo hi:Option Int) (n:Nat):XR lo hi 1 (n:Int)=(((aR n 0 lo:Nat):Int),((aR n n hi:Nat):Int)):=by
 have h1:¬ ((1:Int)<0):=by omega
 unfold XR;simp only[h1,if_false];refine Prod.ext ?_ ?_
 ·cases lo with
  |none=>rfl
  |some v=>exact Fg v n 0
 ·cases hi with
  |none=>rfl
  |some v=>exact Fg v n n
theorem KS (i j:Nat):Xh (i:Int) (j:Int) 1=j-i:=by
 unfold Xh;have h1:(1:Int) > 0:=by omega
 simp only[h1,if_true,Int.ediv_one]
 split<;>omega
theorem Dm {v:Value} {o:Option Int} {Q:Option Int->WI->Prop} (p:IsPart v o) (h:Q o s):wpAny (model prog w) A (Builtin.Slice.slicePartIndex v) Q E s:=by
 cases p with
 |none=>exact ZP h
 |int i t=>exact slicePart_int h
theorem Cj {sl:Addr} {vl vu:Value} {lo hi:Option Int} {n:Nat} {Q:Int×Int×Nat->WI->Prop} (hs:s.heap.IsSliceOf sl vl vu .none) (pl:IsPart vl lo) (pu:IsPart vu hi)
  (h:Q (((aR n 0 lo:Nat):Int),1,aR n n hi-aR n 0 lo) s):wpAny (model prog w) A (YQ (.ref sl) (pure (n:Int))) Q E s:=by
 obtain⟨os,gE,gF,i5⟩:=id hs;unfold YQ ZQ;refine WD (WD (XY gE i5 (x:=vl) rfl (WD (XY gE i5 (x:=vu) rfl (WD (XY gE i5 (x:=.none) rfl (WG ?_)))))));refine WD (ZP ?_)
 show wpAny _ _ (if ((1:Int)==0)=true then _ else _) _ _ s
 rw[if_neg (by decide)];refine WD (Dm pl (WD (Dm pu (WD (WG ?_)))))
 show wpAny _ _ (match XR lo hi 1 (n:Int) with | (lo,hi)=>pure (lo,(1:Int),Xh lo hi 1)) _ _ s
 rw[KR lo hi n];show wpAny _ _ (pure (((aR n 0 lo:Nat):Int),(1:Int),Xh ((aR n 0 lo:Nat):Int) ((aR n n hi:Nat):Int) 1)) _ _ s;rw[KS];exact WG h
theorem MN (xs:Array Value) (i k:Nat):((WW k).filterMap λ(m:Nat)=>xs[((i:Int)+(m:Int)*1).toNat]?).toArray=((xs.toList.drop i).take k).toArray:=by
 have e:(λ(m:Nat)=>xs[((i:Int)+(m:Int)*1).toNat]?)=λm=>xs[i+m]?:=by
  funext m;have:((i:Int)+(m:Int)*1).toNat=i+m:=by omega
  rw[this]
 rw[e];have:=pick_run xs i k;rw[List.filterMap_map] at this;have e2:((λx=>xs[x]?) ∘ λx=>i+x)=λm=>xs[i+m]?:=rfl;rw[e2] at this;rw[this]
theorem Jw {t sl:Addr} {items:Array Value} {vl vu:Value} {lo hi:Option Int} {Q:Value->WI->Prop} (ht:IsTup s.heap t items) (hs:s.heap.IsSliceOf sl vl vu .none) (pl:IsPart vl lo) (pu:IsPart vu hi)
  (hw:¬ (aR items.size 0 lo=0/\aR items.size items.size hi=items.size))
  (h:Q (.ref s.heap.objs.size) { s with heap:=s.heap.push { cls:=.type "tuple",data:=.seq ((items.toList.drop (aR items.size 0 lo)).take (aR items.size items.size hi-aR items.size 0 lo)).toArray } })
  (hsz:items.size<=WX):wpAny (model prog w) A (aa6 (.ref t) (.ref sl)) Q E s:=by
 have vQ:sizeOk (.seq ((items.toList.drop (aR items.size 0 lo)).take (aR items.size items.size hi-aR items.size 0 lo)).toArray):=by
  show ((items.toList.drop (aR items.size 0 lo)).take (aR items.size items.size hi-aR items.size 0 lo)).toArray.size<=WX;rw[W2,Zo,List.length_drop,Xj];omega
 have hj:aR items.size items.size hi<=items.size:=P0 _ _ (Nat.le_refl _) hi;obtain⟨os,gE,gF,i5⟩:=id hs;have oq:s.TypeIs (.ref sl) "slice":=⟨os,gE,gF⟩;unfold aa6
 try with_reducible refine Yf ?_
 first|refine WD (WG ?_)|skip
 refine WD (aak ht.typeIs (by decide) ?_);refine WD (Xp (name:=XC "__getitem__") ht.typeIs Xd
  (Xs Xd ht.typeIs Z0 ?_ (Z8 _ _)))
 show wpAny _ _ (Yo (.ref t) >>= _) _ _ s;refine WD (tupleItemsOf_ ht ?_);refine WD (ZD oq ?_);rw[if_pos (by decide)];refine WD (Cj hs pl pu ?_);have AE:¬ ((((aR items.size 0 lo:Nat):Int)==0&&(1:Int)==1&&(aR items.size items.size hi-aR items.size 0 lo)==items.size)=true):=by
  intro q;rw[WK,WK] at q;have q1:((aR items.size 0 lo:Nat):Int)=0:=eq_of_beq q.1.1;have q2:aR items.size items.size hi-aR items.size 0 lo=items.size:=eq_of_beq q.2;exact hw ⟨by omega,by omega⟩
 show wpAny _ _ (if (((aR items.size 0 lo:Nat):Int)==0&&(1:Int)==1&&(aR items.size items.size hi-aR items.size 0 lo)==items.size)=true then _ else _) _ _ s
 rw[if_neg AE,MN]
 first
  |exact WD (m:=XE _) (W8 (WG ⟨_,rfl,WG h⟩) vQ)
  |exact WD (m:=XE _) (W8 (WD (WG (WG ⟨_,rfl,WG h⟩))) vQ)
  |exact WD (WD (m:=XE _) (W8 (WG (WG ⟨_,rfl,WG h⟩)) vQ))
  |exact WD (WD (m:=XE _) (W8 (WG ⟨_,rfl,WG h⟩) vQ))
end
end HT
namespace L2
open PySem PySem.Spec PyProof.Rows
noncomputable abbrev TO:=St->Hp->(Option Int->Hp->Prop)->Prop
def PO (X:Cx) (e:Option Expr) (t:TO):Prop :=
 ∀(pins:List (Addr×Obj)) (s:WI) (σ:St) (H:Hp) (Q:Option Int->Hp->Prop),Inv X pins σ H s->t σ H Q ->
  wpAny (model X.prog X.w) X.A (evalPart e X.env) (λu s'=>∃o H',Inv X pins σ H' s'/\IsPart u o/\Q o H') X.xe s
noncomputable def N8:TO:=λ_ H Q=>Q none H
noncomputable def Rx (t:TE):TO:=fun σ H Q=>t σ H λx H1=>∃i,x=.int i/\Q (some i) H1
theorem intsAre_of {ns:List Int}:∀{us:List Value},Vals (ns.map V.int) us->aal us ns:=by
 induction ns with
 |nil=>intro us r;rw[XT] at r;cases r;exact .nil
 |cons n ns ih =>
  intro us r;rw[W4] at r
  cases r with
  |cons r1 r2 =>
   obtain⟨t,e⟩:=r1;subst e;exact .cons n t (ih r2)
section
variable {X:Cx} {e:Expr} {te:TE} {lo hi:Option Expr} {tl th:TO} {pos p2:Pos}
theorem N9:PO X none N8:=by
 intro pins s σ H Q I h;rw[evalPart_none];exact WG ⟨none,H,I,.none,h⟩
theorem Oa (h:PE X e te):PO X (some e) (Rx te):=by
 intro pins s σ H Q I hw;rw[evalPart_some];refine aK (h pins s σ H _ I hw) λu s1 ⟨x,H1,I1,r1,q1⟩=>?_;obtain⟨i,rfl,q⟩:=q1;obtain⟨t,rfl⟩:=r1;exact⟨some i,H1,I1,.int i t,q⟩
def sT (X:Cx) (r:V->Option Int->Option Int->Hp->VK->Prop):Prop :=
 ∀(pins:List (Addr×Obj)) (s:WI) (σ:St) (H:Hp) (x:V) (v vl vu:Value) (lo hi:Option Int) (sl:Addr) (Q:VK),Inv X pins σ H s->RelV x v->s.heap.IsSliceOf sl vl vu .none->IsPart vl lo->IsPart vu hi->r x lo hi H Q ->
  ∃T id,typeLookup (.type T) "__getitem__"=pure (some (.builtin id))/\s.TypeIs v T/\wpAny (model X.prog X.w) X.A (aa6 v (.ref sl)) (EP X pins σ Q) X.xe s
noncomputable def TY (r:V->Option Int->Option Int->Hp->VK->Prop) (te:TE) (tl th:TO):TE:=fun σ H Q=>te σ H λx H1=>tl σ H1 λl H2=>th σ H2 λu H3=>r x l u H3 Q
theorem MO {r:V->Option Int->Option Int->Hp->VK->Prop} (hr:sT X r) (he:PE X e te) (hl:PO X lo tl) (hu:PO X hi th):PE X (.Subscript e (.Slice lo hi none p2) pos) (TY r te tl th):=by
 intro pins s σ H Q I h;refine Subscript_ (aK (he pins s σ H _ I h) λv s1 ⟨x,H1,I1,r1,q1⟩=>?_);refine wpAny_Slice (aK (hl pins s1 σ H1 _ I1 q1) λvl s2 ⟨l,H2,I2,pl,q2⟩=>aK (hu pins s2 σ H2 _ I2 q2) λvu s3 ⟨u,H3,I3,pu,q3⟩=>?_);rw[evalPart_none];refine WG ?_
 have I4:Inv X pins σ H3 { s3 with heap:=s3.heap.push { cls:=.type "slice",data:=.fields #[vl,vu,.none] } }:=I3.kept (t':=s3.toks) λb ob q=>WE _ q
 obtain⟨T,id,hT,ht,hg⟩:=hr pins { s3 with heap:=s3.heap.push { cls:=.type "slice",data:=.fields #[vl,vu,.none] } } σ H3 x v vl vu l u s3.heap.objs.size Q I4 r1 (Heap.IsSliceOf.new ..) pl pu q3
 show wpAny (model X.prog X.w) X.A (subscriptTail e (.Slice lo hi none p2) v (.ref s3.heap.objs.size)) (EP X pins σ Q) X.xe { s3 with heap:=s3.heap.push { cls:=.type "slice",data:=.fields #[vl,vu,.none] } }
 exact tail_any (ops:=[.ref s3.heap.objs.size,v]) ht hT hg (by with_unfolding_all rfl)
noncomputable def jK (xs:List V) (lo hi:Option Int):List V:=(xs.drop (HT.aR xs.length 0 lo)).take (HT.aR xs.length xs.length hi-HT.aR xs.length 0 lo)
theorem C1 (xs:List V) (lo hi:Option Int):(jK xs lo hi).length<=xs.length:=by
 unfold jK;rw[Zo,List.length_drop];omega
noncomputable def SR (K:Frag):V->Option Int->Option Int->Hp->VK->Prop:=λx lo hi H Q=>∃a xs,x=.ref a/\aZ K H a xs /\
 ¬ (HT.aR xs.length 0 lo=0/\HT.aR xs.length xs.length hi=xs.length)/\∀p,H p=none->Q (.ref p) (upd H p (.tup (jK xs lo hi)))
theorem vE:sT X (SR X.K):=by
 intro pins s σ H x v vl vu lo hi sl Q I rx hs pl pu h;obtain⟨a,xs,rfl,hx,hw,q⟩:=h;cases rx;obtain⟨its,r,ht,hz⟩:=I.tuple hx;have hlen:its.toArray.size=xs.length:=by rw[W2];exact r.length.symm
 refine⟨"tuple",_,Xd.lookup,ht.typeIs,?_⟩;refine HT.Jw ht hs pl pu (by rw[hlen];exact hw) ?_ (by rw[hlen];exact hz);rw[hlen];refine⟨.ref s.heap.objs.size,_,I.laid (t':=s.toks) (o:=.tup (jK xs lo hi)) (λb ob q=>WE _ q) (Nat.le_refl _) ?_,rfl,q _ (I.aM.fresh (Nat.le_refl _))⟩;exact⟨W7 (C1 xs lo hi) hz,_,(r.drop (HT.aR xs.length 0 lo)).take (HT.aR xs.length xs.length hi-HT.aR xs.length 0 lo),IsTup.new _ _⟩
noncomputable def Ry (K:Frag):R2:=λx y H Q=>∃a b xs ys,x=.ref a/\y=.ref b/\aZ K H a xs/\aZ K H b ys/\xs≠[]/\xs.length+ys.length<=WX /\
 (ys=[]->Q (.ref a) H)/\(ys≠[]->∀p,H p=none->Q (.ref p) (upd H p (.tup (xs++ys))))
theorem Vals.yp {xs:List V} {us:List Value} (r:Vals xs us):us=[]↔xs=[]:=by
 cases r with
 |nil=>simp
 |cons _ _=>simp
theorem Ob:bE X (YB .Add) (Ry X.K):=by
 intro pins s σ H x y v u Q I rx ry h;obtain⟨a,b,xs,ys,rfl,rfl,ha,hb,hx,hz,q1,q2⟩:=h;cases rx;cases ry;obtain⟨its,r1,p1,_⟩:=I.tuple ha;obtain⟨nR,r2,p2,_⟩:=I.tuple hb;refine HT.N6 p1 p2 (λz=>hx (r1.yp.mp z)) (λz=>⟨.ref a,H,I,rfl,q1 (r2.yp.mp z)⟩) (λz=>?_) (by rw[<- r1.length,<- r2.length];exact hz);refine⟨.ref s.heap.objs.size,_,I.laid (t':=s.toks) (o:=.tup (xs++ys)) (λb ob q=>WE _ q) (Nat.le_refl _) ?_,rfl,q2 (λw=>z (r2.yp.mpr w)) _ (I.aM.fresh (Nat.le_refl _))⟩;exact⟨by rw[Xw];exact hz,_,r1.append r2,IsTup.new _ _⟩
end
end L2
namespace L2
open PySem PySem.Spec PyProof.Rows
noncomputable def fm (n:Nat) (i:Int):Option Nat:=if 0<=i then (if i<n then some i.toNat else none) else if -(n:Int)<=i then some (i+n).toNat else none
noncomputable def dJ {α:Type} (xs:List α) (i:Int):Option α:=(fm xs.length i).bind λj=>xs[j]?
theorem Fh {n:Nat} {i:Int} {j:Nat} (h:fm n i=some j):seqIndex? i n=some j/\j<n/\-(n:Int)<=i/\i<n:=by
 unfold fm at h;by_cases h0:0<=i
 ·rw[if_pos h0] at h
  by_cases h1:i<n
  ·rw[if_pos h1] at h
   have e:i.toNat=j:=Option.some.inj h;exact⟨by rw[seqIndex_of h0 h1,e],by omega,by omega,h1⟩
  ·rw[if_neg h1] at h;cases h
 ·rw[if_neg h0] at h
  by_cases h1:-(n:Int)<=i
  ·rw[if_pos h1] at h
   have e:(i+n).toNat=j:=Option.some.inj h;exact⟨by rw[seqIndex_neg (by omega) h1,e],by omega,h1,by omega⟩
  ·rw[if_neg h1] at h;cases h
theorem yq {α:Type} {xs:List α} {i:Int} {v:α} (h:dJ xs i=some v):∃j,seqIndex? i xs.length=some j/\xs[j]?=some v/\j<xs.length/\-(xs.length:Int)<=i/\i<xs.length:=by
 unfold dJ at h
 cases e:fm xs.length i with
 |none=>rw[e] at h;cases h
 |some j =>
  rw[e] at h;obtain⟨h1,h2,h3,h4⟩:=Fh e;exact⟨j,h1,h,h2,h3,h4⟩
def Fi (b:Expr):Prop:=∀o i,subscripted b false o i=operate [o,i] (aa6 o i)
def sU (X:Cx) (r:R2):Prop :=
 ∀(value slice:Expr) (pins:List (Addr×Obj)) (s:WI) (σ:St) (H:Hp) (x y:V) (v u:Value) (Q:VK),Inv X pins σ H s->RelV x v->RelV y u->r x y H Q ->
  subscripted slice false v u=operate [v,u] (aa6 v u)->wpAny (model X.prog X.w) X.A (subscriptTail value slice v u) (EP X pins σ Q) X.xe s
def TZ (X:Cx) (id:String) (r:V->List V->Hp->VK->Prop):Prop :=
 ∀(pins:List (Addr×Obj)) (s:WI) (σ:St) (H:Hp) (x:V) (xs:List V) (v:Value) (us:List Value) (Q:VK),Inv X pins σ H s->RelV x v->Vals xs us->r x xs H Q ->
  wpAny (model X.prog X.w) X.A (call (.builtin id) (v::us)) (EP X pins σ Q) X.xe s
section
variable {X:Cx} {a b:Expr} {ta tb:TE} {pos:Pos}
theorem Rz {r:R2} (hr:sU X r) (ha:PE X a ta) (hb:PE X b tb) (hs:Fi b):PE X (.Subscript a b pos) (sQ r ta tb):=by
 intro pins s σ H Q I h;exact Subscript_ (zU ha hb I h λv u s2 x y H2 I2 rx ry q=>hr a b pins s2 σ H2 x y v u Q I2 rx ry q (hs _ _))
noncomputable def SS (K:Frag):R2:=λx y H Q=>∃p xs i v,x=.ref p/\y=.int i/\ba K H p xs/\dJ xs i=some v/\Q v H
noncomputable def SU (K:Frag):R2:=λx y H Q=>∃p xs i v,x=.ref p/\y=.int i/\aZ K H p xs/\dJ xs i=some v/\Q v H
noncomputable def SV:R2:=λx y H Q=>∃z i c,x=.str z/\y=.int i/\z.length<=WX/\dJ z.cps.toList i=some c/\Q (.str ⟨#[c]⟩) H
theorem Fj:sU X (SS X.K):=by
 intro value slice pins s σ H x y v u Q I rx ry h hs;obtain⟨p,xs,i,z,rfl,rfl,hq,he,q⟩:=h;cases rx;obtain⟨t,rfl⟩:=ry;obtain⟨its,r,pl,hz⟩:=I.list hq;obtain⟨j,h1,h2,h3,h4,h5⟩:=yq he;obtain⟨w,ew,oj⟩:=r.get h2;have hl:=r.length;have hn:=nr;have fin:EP X pins σ Q w s:=⟨z,H,I,oj,q⟩;by_cases h0:0<=i
 ·have hj:i.toNat=j:=by
   rw[seqIndex_of h0 h5] at h1;exact Option.some.inj h1
  exact item_listR pl.isList h0 (by omega) (by rw[hj];simpa using ew) fin hs
 ·have hj:(i+(its.toArray.size:Int)).toNat=j:=by
   rw[seqIndex_neg (by omega) h4] at h1;rw[W2,<- hl];exact Option.some.inj h1
  exact subscriptTail_builtinR (x:=w) pl.isList.typeIs slot_list_getitem.lookup
   (wpAny_getItem_list_neg (Q:=λr s'=>r=w/\EP X pins σ Q r s') pl.isList (by omega) (by rw[W2]<;>omega) (by omega) (by rw[hj];simpa using ew) ⟨rfl,fin⟩) hs
theorem P1:sU X (SU X.K):=by
 intro value slice pins s σ H x y v u Q I rx ry h hs;obtain⟨p,xs,i,z,rfl,rfl,hq,he,q⟩:=h;cases rx;obtain⟨t,rfl⟩:=ry;obtain⟨its,r,pl,hz⟩:=I.tuple hq;obtain⟨j,h1,h2,h3,h4,h5⟩:=yq he;obtain⟨w,ew,oj⟩:=r.get h2;have hl:=r.length;have hn:=nr;have fin:EP X pins σ Q w s:=⟨z,H,I,oj,q⟩;exact subscriptTail_builtinR (x:=w) pl.typeIs slot_tuple_getitem.lookup
  (getItem_tuple (j:=j) (Q:=λr s'=>r=w/\EP X pins σ Q r s') pl (by omega) (by omega) (by rw[W2,<- hl];exact h1) (by simpa using ew) ⟨rfl,fin⟩) hs
theorem P2:sU X SV:=by
 intro value slice pins s σ H x y v u Q I rx ry h hs;obtain⟨z,i,c,rfl,rfl,hz,he,q⟩:=h;obtain⟨t,rfl⟩:=rx;obtain⟨t',rfl⟩:=ry;obtain⟨j,h1,h2,h3,h4,h5⟩:=yq he;have hl:z.cps.toList.length=z.length:=by simp[Str.length]
 rw[hl] at h1 h4 h5;have hn:=nr;exact tail_any (typeIs_str s z t) slot_str_getitem.lookup (getItem_str (c:=c) (by
  have e1:decide (i < -(2 ^ 63:Int))=false:=decide_eq_false (by omega);have e2:decide (i ≥ 2 ^ 63)=false:=decide_eq_false (by omega);rw[e1,e2,Bool.or_false]) (by rw[h1];simpa using h2) ⟨.str ⟨#[c]⟩,H,I.tok _,⟨_,rfl⟩,q⟩) hs
theorem KU (its:List Value) (n j:Nat) (u:Value):YK (·.setIfInBounds j u) { cls:=.type "list",data:=.seq its.toArray n }={ cls:=.type "list",data:=.seq (its.set j u).toArray n }:=by
 simp[YK]
theorem Inv.lst {pins:List (Addr×Obj)} {σ:St} {H:Hp} {s:WI} {p:Addr} {xs:List V} (I:Inv X pins σ H s) (h:H p=some (.lst xs)) :
  ∃(its:List Value) (n:Nat),Vals xs its/\s.heap.get? p=some { cls:=.type "list",data:=.seq its.toArray n }/\xs.length<=WX:=by
 obtain⟨z,its,n,r,e⟩:=I.aM p _ h;exact⟨its,n,r,e,z⟩
theorem Inv.P4 {pins:List (Addr×Obj)} {σ:St} {H:Hp} {s:WI} {p:Addr} {xs ys:List V} {its its':List Value} {n n':Nat} {f:Obj->Obj} (I:Inv X pins σ H s) (h:H p=some (.lst xs))
  (ho:s.heap.get? p=some { cls:=.type "list",data:=.seq its.toArray n }) (hf:f { cls:=.type "list",data:=.seq its.toArray n }={ cls:=.type "list",data:=.seq its'.toArray n' }) (r:Vals ys its') (hz:ys.length<=WX) (t:Nat) :
  Inv X pins σ (upd H p (.lst ys)) { s with heap:=s.heap.update p f,toks:=t }:=by
 have e:(s.heap.update p f).get? p=some { cls:=.type "list",data:=.seq its'.toArray n' }:=by
  rw[X6 f ho (by rw[hf]<;>rfl),hf]
 refine I.write (x:=p) (e:=p) (by rw[h];trivial) (.inl rfl) (λb u hb q=>(Zt _ _ (Zx hb)).trans q) ⟨_,e⟩ ?_;exact⟨hz,its',n',r,e⟩
noncomputable def RA:V->V->V->Hp->(Hp->Prop)->Prop:=λo i v H Q=>∃p xs k j,o=.ref p/\i=.int k/\H p=some (.lst xs)/\fm xs.length k=some j/\Q (upd H p (.lst (xs.set j v)))
theorem set_list:zR X RA:=by
 intro pins s σ H o i v ov iv u Q I ro ri rv h;obtain⟨p,xs,k,j,rfl,rfl,hp,hj,q⟩:=h;cases ro;obtain⟨t,rfl⟩:=ri;obtain⟨its,n,r,ho,hz⟩:=I.lst hp;obtain⟨h1,h2,h3,h4⟩:=Fh hj;have hl:=r.length;have hn:=nr
 have I':Inv X pins σ (upd H p (.lst (xs.set j v))) { s with heap:=s.heap.update p (YK (·.setIfInBounds j u)) } :=
  I.P4 hp ho (KU its n j u) (r.set rv j) (by rw[XZ];exact hz) s.toks
 by_cases h0:0<=k
 ·have hk:k.toNat=j:=by
   rw[seqIndex_of h0 h4] at h1;exact Option.some.inj h1
  exact PySem.W.ki_setAt ho h0 (by omega) (by rw[W2,<- hl];exact h4) (by rw[hk];exact⟨_,I',q⟩)
 ·have hk:(k+(its.toArray.size:Int)).toNat=j:=by
   rw[seqIndex_neg (by omega) h3] at h1;rw[W2,<- hl];exact Option.some.inj h1
  exact PySem.W.ki_setBack ho (by omega) (by rw[W2,<- hl];exact h3) (by omega) (by rw[hk];exact⟨_,I',q⟩)
theorem JZ (lo hi:Option Int) (n:Nat):(aam lo hi none n).1=((HT.aR n 0 lo:Nat):Int)/\(aam lo hi none n).2.1=((HT.aR n n hi:Nat):Int)/\(aam lo hi none n).2.2=1:=by
 refine⟨?_,?_,rfl⟩
 ·cases lo with
  |none=>simp[aam,HT.aR]
  |some i =>
   simp only[aam,HT.aR,Option.getD_none,show (1:Int) > 0 by decide,if_true];by_cases h:i<0
   ·simp only[h,if_true]<;>omega
   ·simp only[h,if_false]<;>omega
 ·cases hi with
  |none=>simp[aam,HT.aR]
  |some i =>
   simp only[aam,HT.aR,Option.getD_none,show (1:Int) > 0 by decide,if_true];by_cases h:i<0
   ·simp only[h,if_true]<;>omega
   ·simp only[h,if_false]<;>omega
theorem JN (its:List Value) (lo hi:Option Int):slicePick its.toArray lo hi none=((its.drop (HT.aR its.length 0 lo)).take (HT.aR its.length its.length hi-HT.aR its.length 0 lo)).toArray:=by
 obtain⟨h1,h2,h3⟩:=JZ lo hi its.toArray.size;unfold slicePick;rw[h1,h2,h3]
 simp only[sliceRange_one,pick_run,W2]<;>rfl
noncomputable def SW (K:Frag):V->Option Int->Option Int->Hp->VK->Prop:=λx lo hi H Q=>∃a xs,x=.ref a/\ba K H a xs/\∀p,H p=none->Q (.ref p) (upd H p (.lst (jK xs lo hi)))
theorem Oc:sT X (SW X.K):=by
 intro pins s σ H x v vl vu lo hi sl Q I rx hs pl pu h;obtain⟨a,xs,rfl,hx,q⟩:=h;cases rx;obtain⟨its,r,ht,hz⟩:=I.list hx;have hlen:=r.length;refine⟨"list",_,slot_list_getitem.lookup,ht.isList.typeIs,?_⟩
 refine wpAny_getItem_list_slice ht.isList hs pl pu .none (by simp) ?_ (by rw[W2]<;>omega)
 rw[JN,<- hlen];refine⟨.ref s.heap.objs.size,_,I.laid (t':=s.toks) (o:=.lst (jK xs lo hi)) (λb ob q=>WE _ q) (Nat.le_refl _) ?_,rfl,q _ (I.aM.fresh (Nat.le_refl _))⟩;exact⟨W7 (C1 xs lo hi) hz,_,0,(r.drop (HT.aR xs.length 0 lo)).take (HT.aR xs.length xs.length hi-HT.aR xs.length 0 lo),WN _ rfl⟩
theorem xq:cz X (.builtin "len") (λxs H Q=>∃p ys,xs=[.ref p]/\(ba X.K H p ys\/aZ X.K H p ys)/\Q (.int ys.length) H):=by
 intro pins s σ H xs us Q I r h;obtain⟨p,ys,rfl,hq,q⟩:=h;obtain⟨u,rfl,rx⟩:=vals1 r;cases rx;have hn:=nr
 rcases hq with hq|hq
 ·obtain⟨its,r',pl,hz⟩:=I.list hq
  have hlen:=r'.length
  exact Calls.call_len_list pl.isList (by simp only[W2]<;>omega) ⟨.int ys.length,H,I.tok _,⟨s.toks+1,by rw[W2,hlen]⟩,q⟩
 ·obtain⟨its,r',pl,hz⟩:=I.tuple hq
  have hlen:=r'.length
  exact len_tuple pl (by simp only[W2]<;>omega) ⟨.int ys.length,H,I.tok _,⟨s.toks+1,by rw[W2,hlen]⟩,q⟩
theorem J0:cz X (.builtin "len") (λxs H Q=>∃z,xs=[.str z]/\z.length<=WX/\Q (.int z.length) H):=by
 intro pins s σ H xs us Q I r h;obtain⟨z,rfl,hz,q⟩:=h;obtain⟨u,rfl,t,rfl⟩:=vals1 r;have hn:=nr;exact len_str (by omega) ⟨.int z.length,H,I.tok _,⟨_,rfl⟩,q⟩
theorem Ct:cz X (.type "tuple") (λxs H Q=>∃p ys,xs=[.ref p]/\((ba X.K H p ys/\∀l,H l=none->Q (.ref l) (upd H l (.tup ys)))\/(aZ X.K H p ys/\Q (.ref p) H))):=by
 intro pins s σ H xs us Q I r h;obtain⟨p,ys,rfl,h⟩:=h;obtain⟨u,rfl,rx⟩:=vals1 r;cases rx
 rcases h with ⟨hq,q⟩ | ⟨hq,q⟩
 ·obtain⟨its,r',pl,hz⟩:=I.list hq
  have hlen:=r'.length
  refine call_tuple_list pl.isList (λh' kp=>?_) (by simp only[W2]<;>omega)
  have I1:Inv X pins σ H { s with heap:=h' }:=I.kept (t':=s.toks) kp
  have I2:Inv X pins σ (upd H h'.objs.size (.tup ys)) { s with heap:=h'.push { cls:=.type "tuple",data:=.seq its.toArray } } :=
   I1.laid (t':=s.toks) (λb o e=>WE _ e) (Nat.le_refl _) (show dD X.prog X.w _ _ _ (.tup ys) from ⟨hz,its,r',IsTup.new _ _⟩)
  exact⟨.ref h'.objs.size,_,I2,rfl,q _ (I1.aM.fresh (Nat.le_refl _))⟩
 ·obtain⟨its,r',pl,hz⟩:=I.tuple hq
  exact call_tuple_same pl ⟨.ref p,H,I,rfl,q⟩
def IH (K:Frag) (T:String) (x:V) (H:Hp):Prop:=match x with
 | .str _=>T="str"
 | .int _=>T="int"
 | .ref p=>(T="list"/\∃xs,ba K H p xs)\/(T="tuple"/\∃o,K.lookup p=some o/\o.cls=.type "tuple"/\o.dict=none) \/
   (T="dict"/\((∃aq,H p=some (.dK aq))\/∃aq,H p=some (.dT aq)))\/(T="set"/\∃S n,H p=some (.set S n))
 |_=>False
theorem P5 {pins:List (Addr×Obj)} {σ:St} {H:Hp} {s:WI} {T:String} {x:V} {v:Value} (I:Inv X pins σ H s) (r:RelV x v) (ty:IH X.K T x H) :
  s.TypeIs v T/\∀a,v=.ref a->∃ob,s.heap.get? a=some ob/\ob.dict=none:=by
 cases x with
 |str z =>
  obtain⟨t,rfl⟩:=r;cases (show T="str" from ty)
  exact⟨typeIs_str s z t,λ_ e=>nomatch e⟩
 |int i =>
  obtain⟨t,rfl⟩:=r;cases (show T="int" from ty)
  exact⟨typeIs_int s i t,λ_ e=>nomatch e⟩
 |ref p =>
  cases r
  rcases ty with ⟨rfl,xs,hq⟩ | ⟨rfl,o,hk,hc,hd⟩ | ⟨rfl,hk⟩ | ⟨rfl,S,n,hk⟩
  ·obtain⟨its,_,pl,_⟩:=I.list hq
   refine⟨pl.isList.typeIs,λa e=>?_⟩;cases e;obtain⟨o,n,e,c,hd,_⟩:=pl;exact⟨o,e,hd⟩
  ·refine⟨⟨o,I.qz p o hk,hc⟩,λa e=>?_⟩
   cases e;exact⟨o,I.qz _ o hk,hd⟩
  ·have z:∃o,s.heap.get? p=some o/\o.ExactDict:=by
    rcases hk with ⟨aq,hk⟩ | ⟨aq,hk⟩
    ·obtain⟨_,_,_,_,o,_,_,e,ex,_⟩:=I.aM p _ hk
     exact⟨o,e,ex⟩
    ·obtain⟨_,_,_,_,o,_,_,e,ex,_⟩:=I.aM p _ hk
     exact⟨o,e,ex⟩
   obtain⟨o,e,ex⟩:=z;refine⟨⟨o,e,ex.1⟩,λa e2=>?_⟩;cases e2;exact⟨o,e,ex.2.1⟩
  ·obtain⟨o,_,_,_,e,ex,_⟩:=I.aM p _ hk
   refine⟨⟨o,e,ex.1⟩,λa e2=>?_⟩;cases e2;exact⟨o,e,ex.2.1⟩
 |_=>exact ZI ty
noncomputable def T4 (K:Frag) (T:String) (r:V->List V->Hp->VK->Prop) (to:TE) (t:TA):TE:=fun σ H Q=>to σ H λx H1=>IH K T x H1/\t σ H1 λxs H2=>r x xs H2 Q
variable {o e:Expr} {es:List Expr} {to:TE} {t:TA} {name:Str} {apos dU:Pos} {T id:String} {r:V->List V->Hp->VK->Prop}
theorem RB (pa:PlainAttrs T) (slot:Slot T name id) (T5:typeOf (.builtin id)=pure (.type "method_descriptor")) (hm:TZ X id r) (ho:PE X o to) (ha:PA X (e::es) t)
  (zt:attributeBase o name X.env (eval o X.env)=eval o X.env:=by rfl)
  (zX:((Z5 dU (Xb (e::es) X.env)).all (λx=>!x.1)&&(backToKw dU (keywordEach [] X.env)).all (λx=>x.1.isSome)
   && decide ((e::es).length+([]:List Keyword).length+(if ([]:List Keyword).isEmpty then 0 else 1)<30))=true:=by rfl)
  (zu:(apos.endLine==dU.line)=true:=by rfl) (hs:Xb (e::es) X.env=(false,eval e X.env)::Xb es X.env:=by rfl) (yR:(Z5 dU (Xb es X.env)).any (·.1)=false:=by rfl) :
  PE X (.Call (.Attribute o name apos) (e::es) [] dU) (T4 X.K T r to t):=by
 intro pins s σ H Q I h;refine wpAny_Call_method_late zt zX zu rfl (aK (ho pins s σ H _ I h) λv s1 ⟨x,H1,I1,r1,ty,q1⟩=>?_);obtain⟨h1,h2⟩:=P5 I1 r1 ty;refine⟨T,id,pa,slot,T5,h1,h2,?_⟩;have hA:=ha dU pins s1 σ H1 _ I1 q1;rw[hs] at hA |-
 refine Calls.callWith_builtin (by show (false||(Z5 dU (Xb es X.env)).any (·.1))=false;rw[yR]<;>rfl) (Calls.evalArgs_plain ?_)
 exact aK hA λus s2 ⟨vs,H2,I2,r2,q2⟩=>hm pins s2 σ H2 x vs v us Q I2 r1 r2 q2
end
end L2
namespace L2
open PySem PySem.Spec PyProof.Rows
def T6 (X:Cx) (id:String) (r:V->List V->Hp->VK->Prop):Prop :=
 ∀(pins:List (Addr×Obj)) (s:WI) (σ:St) (H:Hp) (x:V) (xs:List V) (v:Value) (us:List Value) (Q:VK),Inv X pins σ H s->RelV x v->Vals xs us->r x xs H Q ->
  wpAny (model X.prog X.w) X.A (call (.builtin id) (v::us)) (EP X pins σ Q) X.xe s
theorem Vals.one:∀{x:V} {us:List Value},Vals [x] us->∃u,us=[u]/\RelV x u
 |_,_,.cons r .nil=>⟨_,rfl,r⟩
theorem Vals.rep {xs:List V} {us:List Value} (h:Vals xs us):∀k:Nat,Vals (WM k xs).flatten (WM k us).flatten
 |0=>.nil
 |k+1=>by
  rw[Yz,Yz,Y9,Y9];exact Vals.append h (Vals.rep h k)
theorem foldl_rep (its:List Value):∀(k:Nat) (acc:List Value),
  List.foldl (λx1 x2=>x1++x2) acc.toArray (WM k its.toArray)=(acc++(WM k its).flatten).toArray
 |0,acc=>by simp
 |k+1,acc=>by
  have e:acc.toArray++its.toArray=(acc++its).toArray:=by simp
  have e2:(acc++its)++(WM k its).flatten=acc++(WM (k+1) its).flatten:=by
   rw[Yz,Y9,X3]
  rw[<- e2,<- foldl_rep its k (acc++its),<- e,Yz,List.foldl_cons]
section
variable {X:Cx} {pins:List (Addr×Obj)} {σ:St} {H:Hp} {s:WI} {l b:Addr} {xs ys zs:List V}
theorem Inv.SX {its its':List Value} {n:Nat} {f:Array Value->Array Value} {t':Nat} (I:Inv X pins σ H s) (hH:H l=some (.lst xs))
  (e:s.heap.get? l=some { cls:=.type "list",data:=.seq its.toArray n }) (hf:f its.toArray=its'.toArray) (hv:Vals ys its') (hz:ys.length<=WX) :
  Inv X pins σ (upd H l (.lst ys)) { s with heap:=s.heap.update l (YK f),toks:=t' }:=by
 have q:=PySem.IsL.update e f;rw[hf] at q;refine I.write (x:=l) (e:=l) (by rw[hH];exact trivial) (.inl rfl) (λb' u hb hu=>(Zt s.heap (YK f) (Zx hb)).trans hu) ⟨_,q⟩ ?_;exact⟨hz,its',_,hv,q⟩
theorem Inv.HS {its:List Value} {t':Nat} (I:Inv X pins σ H s) (hv:Vals ys its) (hz:ys.length<=WX) :
  Inv X pins σ (upd H s.heap.objs.size (.lst ys)) { s with heap:=s.heap.push { cls:=.type "list",data:=.seq its.toArray },toks:=t' } :=
 I.laid (λ_ _ q=>WE _ q) (Nat.le_refl _) ⟨hz,its,0,hv,WN _ rfl⟩
theorem Inv.fresh (I:Inv X pins σ H s):H s.heap.objs.size=none:=I.aM.fresh (Nat.le_refl _)
theorem Inv.wo (I:Inv X pins σ H s) (hH:H l=some (.lst xs)):xs.length<=WX/\∃(its:List Value) (n:Nat),Vals xs its/\xs.length=its.length/\s.heap.get? l=some { cls:=.type "list",data:=.seq its.toArray n }:=by
 obtain⟨z,its,n,r,e⟩:=I.aM l _ hH;exact⟨z,its,n,r,r.length,e⟩
theorem MP {n:Nat} (h:n<=WX):Z4 n=false:=by
 unfold Z4;exact decide_eq_false (by omega)
end
section
variable {X:Cx}
noncomputable def Od:V->List V->Hp->VK->Prop:=λx vs H Q=>∃l xs y,x=.ref l/\vs=[y]/\H l=some (.lst xs)/\xs.length<WX/\Q .aB (upd H l (.lst (xs++[y])))
theorem LA:T6 X "list.append" Od:=by
 intro pins s σ H x vs v us Q I rx rv h;obtain⟨l,xs,y,rfl,rfl,hH,hz,q⟩:=h;cases rx;obtain⟨u,rfl,ru⟩:=rv.one;obtain⟨z,its,n,r,hl,e⟩:=I.wo hH;refine call_meets F.slot_list_append ⟨_,e,rfl⟩ F.entry_list_append (F.args_list_append_2 _ _) (PySem.list_append l its.toArray n u (by rw[W2];omega)) ⟨e,?_⟩;refine⟨.aB,_,I.SX (its':=its++[u]) hH e (by simp) (r.append (.cons ru .nil)) ?_,rfl,q⟩;rw[Xw,aaD];omega
noncomputable def SY:R2:=λx y H Q=>∃l b xs zs,x=.ref l/\y=.ref b/\H l=some (.lst xs)/\H b=some (.lst zs)/\xs.length+zs.length<=WX/\∀p,H p=none->Q (.ref p) (upd H p (.lst (xs++zs)))
theorem P6:bE X (YB .Add) SY:=by
 intro pins s σ H x y v u Q I rx ry h;obtain⟨l,b,xs,zs,rfl,rfl,hH,hB,hz,q⟩:=h;cases rx;cases ry;obtain⟨z,its,n,r,hl,e⟩:=I.wo hH;obtain⟨z2,nR,n2,r2,sV,e2⟩:=I.wo hB;refine PySem.P.add_list e e2 ?_ (by rw[W2,W2];omega);have ea:its.toArray++nR.toArray=(its++nR).toArray:=by simp
 rw[ea];exact⟨.ref _,_,I.HS (t':=s.toks) (r.append r2) (by rw[Xw];omega),rfl,q _ I.fresh⟩
noncomputable def S0:R2:=λx y H Q=>∃l k xs,x=.ref l/\y=.int k/\H l=some (.lst xs)/\-(2 ^ 63)<=k/\k<2 ^ 63/\xs.length*k.toNat<=WX /\
 ∀p,H p=none->Q (.ref p) (upd H p (.lst (WM k.toNat xs).flatten))
theorem len_rep {α:Type} (xs:List α) (k:Nat):(WM k xs).flatten.length=k*xs.length:=by
 induction k with
 |zero=>simp
 |succ k ih=>rw[Yz,Y9,Xw,ih,Nat.succ_mul,Nat.add_comm]
theorem P7:bE X (YB .Mult) S0:=by
 intro pins s σ H x y v u Q I rx ry h;obtain⟨l,k,xs,rfl,rfl,hH,h1,h2,hz,q⟩:=h;cases rx;obtain⟨t,rfl⟩:=ry;obtain⟨z,its,n,r,hl,e⟩:=I.wo hH;have hlen:its.toArray.size*k.toNat<=WX:=by rw[W2,<- hl];exact hz
 have S6:¬ its.toArray.size*k.toNat > (2 ^ 63-1) / 8:=by
  have:(WX:Nat)<=(2 ^ 63-1) / 8:=by decide
  omega
 have S7:¬ (!Builtin.List.listFitsIndex k)=true:=by
  rw[fitsIndex_both h1 h2];exact WV
 have RC:¬ Z4 (its.toArray.size*k.toNat)=true:=by
  rw[MP hlen];exact WV
 have S8:List.foldl (λx1 x2=>x1++x2) #[] (WM (if its.toArray.isEmpty=true then 0 else k.toNat) its.toArray)=(WM k.toNat its).flatten.toArray:=by
  have f0:∀m:Nat,List.foldl (λx1 x2=>x1++x2) #[] (WM m its.toArray)=(WM m its).flatten.toArray:=λm=>by
   have:=foldl_rep its m [];rw[XG] at this;exact this
  rw[f0]
  cases its with
  |nil=>simp
  |cons a r'=>rw[if_neg (by simp)]
 refine wpAny_binaryOp_repeat_ref (T:="list") (U:="int") (by decide) ⟨_,e,rfl⟩ (λs'=>typeIs_int s' k t) noFill_list_mul F.fills_int_mul aaW repeat_list F.slot_int_index.lookup
  (call_meets aaW (typeIs_int s k t) F.entry_int_rmul (F.args_int_rmul_2 _ _) (int___rmul___int_list k t l its.toArray n)
   ⟨e,rfl,⟨_,e,rfl⟩,call_meets F.slot_list_mul ⟨_,e,rfl⟩ F.entry_list_mul (F.args_list_mul_2 _ _) (AutoListH.list___mul___list_int_3 l its.toArray n k t S7 S6 RC) ⟨e,?_⟩⟩)
 rw[S8];exact⟨.ref _,_,I.HS (t':=s.toks) (r.rep k.toNat) (by rw[len_rep,Nat.mul_comm];exact hz),rfl,q _ I.fresh⟩
end
section
variable {prog:Xf} {w:World} {A:Xv} {E:Value->WI->Prop} {s:WI}
set_option maxRecDepth 100000 in
end
section
variable {X:Cx}
end
end L2
namespace II
open PySem PySem.W PySem.Calls PyProof.Rows
theorem JA {P:Params} {h:Heap}:∀(ns:List Int) (vs:List Value),WellAll P h vs (ns.map WData.int)->aal vs ns:=by
 intro ns
 induction ns with
 |nil =>
  intro vs w;rw[XT] at w;cases w;exact .nil
 |cons n ns ih =>
  intro vs w;rw[W4] at w
  cases w with
  |cons a b =>
   cases a;exact .cons _ _ (ih _ b)
theorem LB {l:OpenLaw} {n:Nat} (hn:l.most=some n) {P:Params} {h:Heap} {args:List WData} {vals:List Value}
  (wq:l.row.toRowW.claim.pre args=true) (AF:WellAll P h vals args) :
  ∃a vs ns,vals=[Zn a]/\args=[WData.list (ns.map WData.int)]/\h.get? a=some { cls:=.type "list",data:=.seq vs.toArray }/\aal vs ns/\ns.length<=n:=by
 have T7:WShape.hasAll [] args [.list .int]=true:=(pre_splitW wq).1;have hc:l.pre.holds [] { args:=args }=true:=(pre_splitW wq).2;obtain⟨d,r,rfl,h1,h2⟩:=hasAllW_cons T7;obtain rfl:=hasAllW_nil h2;obtain⟨xs,rfl,h3⟩:=hasW_list h1;obtain⟨ns,rfl⟩:=items_int h3;have hlen:ns.length<=n:=by
  unfold OpenLaw.pre at hc;have h4:(WTm.not (.lt (.lit (.int (n:Int))) (.len (.arg 0)))).holds [] { args:=[.list (ns.map .int)] }=true:=by
   have h4:=(holds_andW hc).1;rw[hn] at h4;exact h4
  have h5:=condW_of h4 (w_not (w_lt w_lit (w_len_list (w_arg rfl))));rw[WJ] at h5;refine Zp λq=>?_;have q':(n:Int)<((ns.length:Nat):Int):=by omega
  first
   |(rw[decide_eq_true q'] at h5;exact absurd h5 (by decide))
   |(simp at h5;omega)
 cases AF with
 |cons w1 w2 =>
  cases w2
  cases w1 with
  |list ho dW=>exact⟨_,_,ns,rfl,rfl,ho,JA ns _ dW,hlen⟩
theorem LC (l:OpenLaw) (args:List WData):l.row.toRowW.claim.post args (.bool true) args=true :=
 postW_of (r:=l.row.toRowW) (X:=(true==true))
  (show WShape.has [] (.bool true) .bool=true by first|rfl|decide|simp[WShape.has,WShape.arms,WShape.armsAll])
  (show (WTm.eq .res (.lit (.bool true))).value [] { args:=args,res:=some (.bool true),after:=args }=some (.bool (true==true)) from w_eq_bool (w_res rfl) w_lit) rfl
theorem Kl {l:OpenLaw} {n:Nat} {q:Xf} {loose:List Str} {XP:(Str->Option Value)->Heap->Prop} {YP:World->Heap->Prop} {d:DefRec}
  (hn:l.most=some n) (sW:d.params.defaults=[])
  (call:∀(w:World) (dg bK:WI) (mg mb:Str->Option Value) (fa:Addr) (o:Obj) (pm cd doc:Value) (a:Addr) (vs:List Value) (ns:List Int),
   Ground q loose [] XP w dg mg mb bK.heap->YP w bK.heap ->
   bK.heap.get? fa=some o->o.data=.func (docDef d.name d.params d.body d.scope pm cd doc)->bK.heap.CodeRec cd d.name->mg d.name=some (.ref fa) ->
   bK.heap.get? a=some { cls:=.type "list",data:=.seq vs.toArray }->aal vs ns->ns.length<=n->bK.gens=#[] ->
   aaV (model l.prog w) callerA (.call (.ref fa) ⟨[.ref a],[]⟩) (λr s'=>r=.ok (.ret (.bool true))/\OldK bK.heap s'.heap/\s'.os=bK.os/\AllBare s'.gens) bK) :
  WalkO q loose XP YP l.row.toRowW d [] (λf vs=>PySem.call f vs):=by
 intro w dg bK mg mb G Y fa o pm cd doc dV kV ho hd jP hD sX hg args vals as wq Wb Wl AF IJ;obtain rfl:dV=.none:=Dflts.none hD sW;obtain rfl:kV=.none:=Dflts.noKw hD;obtain⟨a,vs,ns,rfl,rfl,zY,hints,hlen⟩:=LB hn wq AF;refine enter_call (Ze (call w dg bK mg mb fa o pm cd doc a vs ns G Y ho (fd_plain hd) jP sX zY hints hlen hg) λr s' hq=>?_);obtain⟨rfl,h2,h3,h4⟩:=hq
 exact⟨.inl ⟨.bool true,.bool true,[],rfl,λ_=>rfl,.bool true,LC l _,λ_=>⟨List.Pairwise.nil,λ_ hm=>(nomatch hm)⟩⟩,h2,h3,h4⟩
section
variable {prog:Xf} {w:World} {A:Xv} {E:Value->WI->Prop} {s:WI} {K:Frag}
noncomputable def ledger (h:Heap) (L d:Addr):List (Addr×Obj):=(WW h.objs.size).filterMap λa=>if a=L\/a=d then none else (h.get? a).map λo=>(a,o)
end
end II
namespace L2
open PySem PySem.Spec PyProof.Rows
theorem DK:∀{vs:List Value} {ns:List Int},aal vs ns->Vals (ns.map V.int) vs
 |_,_,.nil=>.nil
 |_,_,.cons n t h=>.cons ⟨t,rfl⟩ (DK h)
def zZ (H:Hp):Prop:=∀b,H b=none\/∃o xs,H b=some (.cL o (.lst xs))
theorem MQ {P:Xf} {w:World} {K:Frag} {mg mb:Str->Option Value} {CX:jt} {k:Nat} {fa a:Addr} {fd:Xg} {x:Str} {sp:Sp} {bK:WI} {vs:List Value} {ns:List Int}
  (KX:K.In bK.heap) (mP:bK.heap.Ns Xi mg) (hb:bK.heap.Ns builtinsNs mb) (T8:∀x:Str,x≠"__name__"->mb x=XA x) (S9:bK.heap.NoLimit) (hg:bK.gens=#[])
  (ha:bK.heap.get? a=some { cls:=.type "list",data:=.seq vs.toArray }) (hi:aal vs ns) (hl:ns.length<=WX) (hr:cI k callerA)
  (F:∀base:Heap,K.In base->base.Ns Xi mg->aW P w K mg base CX k fa fd [x] sp) (RD:∀(s:WI) (u:Value),BindsTo s fd ⟨[u],[]⟩ [(x,u)])
  (mL:∀H:Hp,zZ H->ba K H a (ns.map V.int)->sp [.ref a] H (λv _=>v=.bl true) λ_ _ _=>False)
  (AG:∀H e s',CX [] H bK (λ_ _ _=>False) e s'->False) :
  aaV (model P w) callerA (.call (.ref fa) ⟨[.ref a],[]⟩) (λr s'=>r=.ok (.ret (.bool true))/\OldK bK.heap s'.heap/\s'.os=bK.os/\AllBare s'.gens) bK:=by
 have rv:=DK hi;have Ta:=hi.length;have core:∀H:Hp,zZ H->ba K H a (ns.map V.int)->cA P w H bK.heap->(∀b,H b≠none->b=a)->(H a≠none->K.lookup a=none) ->
   aaV (model P w) callerA (.call (.ref fa) ⟨[.ref a],[]⟩) (λr s'=>r=.ok (.ret (.bool true))/\OldK bK.heap s'.heap/\s'.os=bK.os/\AllBare s'.gens) bK:=by
  intro H hO hS aM hA hK;have Fm:∀{b:Addr} {o:Obj},bK.heap.get? b=some o->H b=none->(lP bK.heap H).get? b=some o:=λe n=>MH e n;have sS:∀{b:Addr} {o:Obj} {es:Array aaX} {ep:Nat},bK.heap.get? b=some o->o.data=.dict es ep->H b=none:=λ{b o es ep} e d=>by
   cases q:H b with
   |none=>rfl
   |some u =>
    have e':b=a:=hA b (by rw[q];simp);subst e';rw[ha] at e;cases e;have d':Data.seq vs.toArray _=Data.dict es ep:=d;cases d'
  have wR:∀{b:Addr} {m:Str->Option Value},bK.heap.Ns b m->(lP bK.heap H).Ns b m:=λ{b m} ⟨o,es,ep,e,d,r⟩=>⟨o,es,ep,Fm e (sS e d),d,r⟩;have IK:K.In (lP bK.heap H):=λb o e=>Fm (KX b o e) (by
   cases q:H b with
   |none=>rfl
   |some u =>
    have e':b=a:=hA b (by rw[q];simp);subst e';rw[hK (by rw[q];simp)] at e;cases e)
  have hM:Mod K mg (lP bK.heap H):=⟨IK,wR mP,⟨mb,wR hb,T8⟩,let ⟨mc,h1,h2⟩:=S9;⟨mc,wR h1,h2⟩⟩
  have e0:wk P w K mg (lP bK.heap H) callerA [] bK H:=⟨rfl,hM,λb o e=>NU e,Nat.le_of_eq (Lr _ _),trivial,λb hb=>absurd (show b∈([]:List Addr) from hb) (by simp),aM,.of_eq hg⟩;refine Ze ((F _ IK (wR mP)).run callerA [] bK H ⟨[.ref a],[]⟩ [.ref a] [.ref a] _ _ hr e0 (RD bK (.ref a)) (.cons rfl .nil) (mL H hO hS)) λr s' h=>?_
  cases r with
  |error e=>exact(AG H e s' h).elim
  |ok fl =>
   cases fl with
   |next=>exact ZI h
   |brk=>exact ZI h
   |cont=>exact ZI h
   |ret u =>
    obtain⟨v,H',os,bare,un,Tb,r',q⟩:=h;have q':v=.bl true:=q;subst q';obtain rfl:u=Value.bool true:=r';refine⟨rfl,OldK.of_keep λb o e=>?_,os,bare⟩
    cases q:H b with
    |none=>exact un.keep b o e q (by intro z;exact absurd (show b∈([]:List Addr) from z) (by simp)) (by simp)
    |some u =>
     rcases hO b with z | ⟨ob,xs,z⟩
     ·rw[q] at z;cases z
     ·have z2:=un.iT b ob _ z
      obtain⟨e1,_⟩:=aM b _ z;obtain⟨e2,_⟩:=Tb b _ z2;rw[e] at e1;cases e1;exact e2
 cases hk:K.lookup a with
 |some o =>
  have e:=KX a o hk;rw[ha] at e;cases e;refine core (λ_=>none) (λ_=>.inl rfl) (.inr ⟨_,vs.toArray,_,hk,rfl,rfl,rfl,by rw[W2,Ta];exact hl,by simpa using rv⟩) (λb u z=>by have z':(none:Option HO)=some u:=z;cases z') (λb z=>absurd rfl z) λz=>absurd rfl z
 |none =>
  refine core (λb=>if b=a then some (.cL { cls:=.type "list",data:=.seq vs.toArray } (.lst (ns.map V.int))) else none) (λb=>?_) (.inl (.inr ⟨{ cls:=.type "list",data:=.seq vs.toArray },if_pos rfl⟩)) (λb u z=>?_) (λb z=>?_) λ_=>hk
  ·by_cases hb:b=a
   ·exact .inr ⟨_,_,if_pos hb⟩
   ·exact .inl (if_neg hb)
  ·by_cases hb:b=a
   ·have z':=(if_pos hb).symm.trans z
    cases z';subst hb;exact⟨ha,by rw[WJ];exact hl,vs,_,rv,ha⟩
   ·have z':=(if_neg hb).symm.trans z
    cases z'
  ·by_cases hb:b=a
   ·exact hb
   ·exact absurd (if_neg hb) z
end L2
namespace L2
open PySem PySem.Spec PyProof.Rows
noncomputable abbrev Wm {K:Frag} {h:Heap} (_:K.In h):Frag:=K
theorem Oe {l:PySem.W.OpenLaw} {n k:Nat} {q:Xf} {loose:List Str} {XP:(Str->Option Value)->Heap->Prop} {YP:World->Heap->Prop} {d:DefRec} {K:Params->Frag} {CX:World->jt} {sp:World->Sp} {x:Str}
  (hn:l.most=some n) (T9:n<=WX) (sW:d.params.defaults=[]) (hr:cI k callerA)
  (hY:∀(w:World) (h:Heap),YP w h->(K w.params).In h)
  (F:∀(w:World) (mg:Str->Option Value) (fa:Addr) (h:Heap),(K w.params).In h->h.Ns Xi mg->mg d.name=some (.ref fa) ->
   ∃fd:Xg,(∀(s:WI) (u:Value),BindsTo s fd ⟨[u],[]⟩ [(x,u)]) /\
    ∀base:Heap,(K w.params).In base->base.Ns Xi mg->aW l.prog w (K w.params) mg base (CX w) k fa fd [x] (sp w))
  (mL:∀(w:World) (H:Hp) (a:Addr) (ns:List Int),ns.length<=n->zZ H->ba (K w.params) H a (ns.map V.int)->sp w [.ref a] H (λv _=>v=.bl true) λ_ _ _=>False)
  (AG:∀(w:World) (H:Hp) (s:WI) (e:Value) (s':WI),CX w [] H s (λ_ _ _=>False) e s'->False) :
  PySem.W.WalkO q loose XP YP l.row.toRowW d [] (λf vs=>PySem.call f vs):=by
 refine II.Kl hn sW λw dg bK mg mb fa o pm cd doc a vs ns G Y ho hd jP sX zY hints hlen hg=>?_;have KX:=hY w _ Y;obtain⟨fd,hb,hF⟩:=F w mg fa _ KX G.T.g sX;exact MQ KX G.T.g G.T.b G.T.builtins G.T.nolimit hg zY hints (W7 hlen T9) hr hF hb (λH hO hS=>mL w H a ns hlen hO hS) λH e s'=>AG w H bK e s'
end L2
namespace L2
open PySem PySem.Spec PyProof.Rows
noncomputable def nk (s:Stmt):Arguments:=match s with
 | .FunctionDef _ a _ _ _ _ _ _ _ _=>a
 |_=>{ posonlyargs:=[],args:=[],vararg:=none,kwonlyargs:=[],kw_defaults:=[],kwarg:=none,defaults:=[] }
noncomputable def lb (s:Stmt):List Stmt:=match s with
 | .FunctionDef _ _ b _ _ _ _ _ _ _=>b
 |_=>[]
noncomputable def aX (s:Stmt):Scope:=match s with
 | .FunctionDef _ _ _ _ _ _ sc _ _ _=>sc
 |_=>{ kind:=.function,names:=[],isGenerator:=false,isCoroutine:=false }
noncomputable abbrev bb:jt:=λ_ _ _ _ _ _=>False
noncomputable abbrev E0:XK:=λ_ _ _=>False
theorem RE {X:Cx}:Passes bb X E0:=λ_ _ _ _ _ _ _ h=>h.elim
structure ot (K:Frag) (x qual:Str) (st:Stmt) (f:Addr) (fd:Xg):Prop where
 ex:∃(oc:Value) (od:Option Addr) (kV doc pm:Value) (an:Option Addr) (bg ct:Value) (mK:Array (Option Value)),
  fd=Zf x qual (nk st) (lb st) (aX st) .none kV doc pm an bg ct/\K.lookup f=some ⟨oc,od,.func fd,mK⟩/\aaB K bg qual=true
 kp:Y2 K (.ref f)=true
section
variable {P:Xf} {w:World} {K:Frag} {mg:Str->Option Value} {base:Heap}
theorem ot.ok {x qual:Str} {st:Stmt} {f:Addr} {fd:Xg} {N ps:List Str} {k:Nat} {sp:Sp} (F:ot K x qual st f fd) (S:bx N ps (aX st)) (len:∀vs H Q E,sp vs H Q E->vs.length=ps.length)
  (zr:∀(bg:Value) (A:Xv) (outer:List Env) (s:WI) (H:Hp) (vs:List V) (Q:VK) (E:XK),cI k (A.deeper (envOfC qual (aX st) s.heap.objs.size f bg))->sp vs H Q E ->
   ∃t,dH (nQ bb P w K mg base N qual (aX st) f bg A outer s H E).sJ (lb st) t/\t { nx:=λ_ H'=>Q .aB H',rt:=Q } (start N vs) H):aW P w K mg base bb (k+1) f fd ps sp:=by
 obtain⟨oc,od,kV,doc,pm,an,bg,ct,mK,rfl,lk,jP⟩:=F.ex;refine Ru lk jP S len λA outer s H vs Q E hr mL=>?_;obtain⟨t,h,q⟩:=zr bg A outer s H vs Q E hr mL;exact⟨t,h.sJ,q⟩
theorem ot.binds {x qual:Str} {st:Stmt} {f:Addr} {fd:Xg} {ps:List Str} (F:ot K x qual st f fd)
  (h:∀(kV doc pm:Value) (an:Option Addr) (bg ct:Value) (us:List Value),us.length=ps.length->bindArgs (Zf x qual (nk st) (lb st) (aX st) .none kV doc pm an bg ct) ⟨us,[]⟩=pure (ps.zip us)):Binds K fd ps []:=by
 obtain⟨oc,od,kV,doc,pm,an,bg,ct,mK,rfl,lk,jP⟩:=F.ex;exact .all (h kV doc pm an bg ct)
theorem Gn {x qual:Str} {st:Stmt} {f:Addr} {oc:Value} {od an:Option Addr} {mK:Array (Option Value)} {kV doc pm bg ct:Value} (l:K.lookup f=some ⟨oc,od,.func (Zf x qual (nk st) (lb st) (aX st) .none kV doc pm an bg ct),mK⟩)
  (c:aaB K bg qual=true) (k:Y2 K (.ref f)=true):ot K x qual st f (Zf x qual (nk st) (lb st) (aX st) .none kV doc pm an bg ct):=⟨⟨oc,od,kV,doc,pm,an,bg,ct,mK,rfl,l,c⟩,k⟩
end
section
variable {X:Cx}
end
def jL (H H':Hp):Prop:=∀b o,H b=some o->H' b=some o
theorem jL.refl (H:Hp):jL H H:=λ_ _ h=>h
end L2
namespace L2
open PySem PySem.Spec PyProof.Rows
theorem KW {P:Xf} {w:World} {A:Xv} {R:Result->WI->Prop} {s:WI} {el tg src:Expr} {tests:List Expr} {sc:Scope} {ps:Pos} {ia av:Value} {ce:Env} (J:Nat->WI->Prop)
  (turn:∀n s,J n s->wpAny (model P w) A (Zy ia) (λr s1=>match r with
   |none=>R (.ok .next) s1
   |some v=>wpAny (model P w) A (Y8 tg ia v) (λ_ s2=>wpAny (model P w) A (aaT tg ce v) (λ_ s3 =>
     wpAny (model P w) A (forIn tests true λc r=>if r=true then do let ok <- isTrue c ce (eval c ce);pure (ZE ok) else pure (ZE r)) (λok s4 =>
      if ok=true then wpAny (model P w) A (eval el ce) (λy s5=>wpAny (model P w) A (call (.builtin "list.append") [av,y]) (λ_ s6=>∃m,m<n/\J m s6) (λ_ _=>False) s5) (λ_ _=>False) s4
      else ∃m,m<n/\J m s4) (λ_ _=>False) s3) (λ_ _=>False) s2) (λ_ _=>False) s1) (λ_ _=>False) s)
  (n:Nat) (h:J n s):aaV (model P w) A (.compLoop (.ListComp el [⟨tg,src,tests,0⟩] sc ps) 0 ia av ce) R s:=by
 refine codeAny_loop rfl J (λn s hJ=>?_) n h
 show wpAny _ A ((compTurn (.ListComp el [⟨tg,src,tests,0⟩] sc ps) 0 ia av ce).onRaise (λx=>do noteFrame x ce;theTreesLotGoes x)) _ _ s
 refine wpAny_noted ?_;rw[compTurn_list];refine WD (Zg (WD (Yy (turn n s hJ) (λr s1 h1=>?_) λ_ _ z=>z.elim)))
 cases r with
 |none=>exact WG h1
 |some v =>
  refine WD (Yy h1 (λ_ s2 h2=>?_) λ_ _ z=>z.elim);refine WD (Yy h2 (λ_ s3 h3=>WD (Yy h3 (λok s4 h4=>?_) λ_ _ z=>z.elim)) λ_ _ z=>z.elim)
  cases ok with
  |false=>exact WG ⟨rfl,h4⟩
  |true =>
   exact WD (WD (Yy h4 (λy s5 h5=>WD (Yy h5 (λ_ s6 h6=>WG (WG ⟨rfl,h6⟩)) λ_ _ z=>z.elim)) λ_ _ z=>z.elim))
theorem xT (env:Env):∀(l:List (Str×ZJ)) (acc:List (Str×Addr)),(∀n,(n,Xu)∈l->∃c,env.cells.lookup n=some c) ->
  ∃cl,(forIn l acc (λ(p:Str×ZJ) (cs:List (Str×Addr))=>(do
   if (p.2==Xu)=true then do let c <- cellOf env p.1;pure (ZE ((p.1,c)::cs)) else pure (ZE cs):Sem (ForInStep (List (Str×Addr))))))=pure cl /\
   ∀n c,cl.lookup n=some c↔(((n,Xu)∈l/\env.cells.lookup n=some c)\/((n,Xu)∉l/\acc.lookup n=some c))
 | [],acc,_=>⟨acc,rfl,λn c=>by simp⟩
 |(x,k)::r,acc,h=>by
  rw[List.forIn_cons]
  cases hk:(k==Xu) with
  |false =>
   have ib:k≠.free:=by intro e;rw[e] at hk;cases hk
   obtain⟨cl,e,q⟩:=xT env r acc λn hn=>h n (WT _ hn);refine⟨cl,?_,λn c=>?_⟩
   ·simp only[WH,if_false]
    exact e
   ·rw[q n c]
    have:(n,Xu)∈(x,k)::r↔(n,Xu)∈r:=by
     constructor
     ·intro hm
      rcases W3.mp hm with z|z
      ·injection z with _ z2
       exact absurd z2.symm ib
      ·exact z
     ·exact WT _
    rw[this]
  |true =>
   have he:k=.free:=by cases k<;>first|rfl|cases hk
   subst he;obtain⟨c0,AH⟩:=h x WR;obtain⟨cl,e,q⟩:=xT env r ((x,c0)::acc) λn hn=>h n (WT _ hn);refine⟨cl,?_,λn c=>?_⟩
   ·simp only[if_true,cellOf,AH]
    exact e
   ·rw[q n c]
    by_cases hx:n=x
    ·subst hx
     constructor
     ·rintro (⟨_,z⟩ | ⟨_,z⟩)
      ·exact .inl ⟨WR,z⟩
      ·rw[Yx,beq_self_eq_true] at z
       exact .inl ⟨WR,AH.trans z⟩
     ·rintro (⟨_,z⟩ | ⟨z,_⟩)
      ·by_cases hm:(n,Xu)∈r
       ·exact .inl ⟨hm,z⟩
       ·refine .inr ⟨hm,?_⟩
        rw[Yx,beq_self_eq_true];exact AH.symm.trans z
      ·exact absurd WR z
    ·have:(n,Xu)∈(x,Xu)::r↔(n,Xu)∈r:=by
      constructor
      ·intro hm
       rcases W3.mp hm with z|z
       ·injection z with z1 _
        exact absurd z1 hx
       ·exact z
      ·exact WT _
     rw[this,Yx,beq_false_of_ne hx]
theorem Gp {env:Env} {sc:Scope} (h:∀n,(n,Xu)∈sc.names->∃c,env.cells.lookup n=some c) :
  ∃cl,closureFor sc env=pure cl/\∀n c,cl.lookup n=some c↔((n,Xu)∈sc.names/\env.cells.lookup n=some c):=by
 obtain⟨cl,e,q⟩:=xT env sc.names [] h;refine⟨cl,?_,λn c=>?_⟩
 ·unfold closureFor
  exact(congrArg (λz:Sem (List (Str×Addr))=>z >>= λr=>pure r) e)
 ·rw[q n c]
  simp
theorem Es (f:Str->ZJ->ZJ) (x:Str):∀l:List (Str×ZJ),(l.map λp=>(p.1,f p.1 p.2)).lookup x=(l.lookup x).map (f x)
 | []=>rfl
 |(n,k)::r=>by
  rw[W4,Yx,Yx]
  cases h:x==n with
  |true =>
   have e:x=n:=by simpa using h
   subst e;rfl
  |false=>exact Es f x r
theorem uk (sc:Scope) (env:Env) (x:Str):(relabel sc env).names.lookup x=(sc.names.lookup x).map λk=>if (k==Xu&&env.scope.kind==.function&&env.kindOf x==some .cell)=true then NameKind.cell else k:=by
 rw[<- Es (λx k=>if (k==Xu&&env.scope.kind==.function&&env.kindOf x==some .cell)=true then NameKind.cell else k)]
 show List.lookup x (sc.names.map _)=_;congr 1;apply Z1;rintro ⟨n,k⟩ _;dsimp only
 split<;>rfl
noncomputable abbrev cM (X:Cx) (N:List Str) (sc:Scope) (cl:List (Str×Addr)) (C:Addr) (s:WI) (H:Hp) (ex:List Addr) (pn:List (Addr×Obj)):Cx where
 prog:=X.prog
 w:=X.w
 K:=X.K
 mg:=X.mg
 base:=X.base
 A:=X.A
 N:=N
 dg:=s
 rZ:=H
 env:=compEnvC sc cl C X.env
 outer:=X.stack
 stack:=X.stack
 ex:=ex
 fn:=λ_=>false
 calm:=X.calm
 pn:=pn
 xe:=λ_ _=>False
structure pQ (X:Cx) (sc:Scope) (N:List Str) (nt:Nat) (cap:List Nat):Prop where
 kind:sc.kind=.function
 Gq:∀x∈sc.names,x.2≠.cell
 names:∀x∈sc.names,x.2=.local->sc.names.lookup x.1=some .local
 frees:∀x∈sc.names,x.2=.free->sc.names.lookup x.1=some .free/\(X.env.scope.names.lookup x.1=some .cell\/X.env.scope.names.lookup x.1=some .free)
 len:N.length=nt+cap.length
 z9:∀(k:Nat) j,cap[k]?=some j->∃x,X.N[j]?=some x/\N[nt+k]?=some x/\(x,Xu)∈sc.names
noncomputable def ka (nt:Nat) (cap:List Nat) (σ:St):St:=WM nt none++cap.map λj=>(σ[j]?).getD none
def PF (X:Cx) (tests:List Expr) (t:TT):Prop :=
 ∀(pins:List (Addr×Obj)) (s:WI) (σ:St) (H:Hp) (Q:Bool->Hp->Prop),Inv X pins σ H s->t σ H Q ->
  wpAny (model X.prog X.w) X.A (forIn tests true λc r=>if r=true then do let ok <- isTrue c X.env (eval c X.env);pure (ZE ok) else pure (ZE r)) (TP X pins σ Q) X.xe s
noncomputable def Tc:TT:=λ_ H Q=>Q true H
theorem P8 {X:Cx}:PF X [] Tc:=λ_ _ _ H _ I h=>wpAny_tests_nil ⟨H,I,h⟩
theorem P9 {X:Cx} {c:Expr} {t:TT} (h:PT X c t):PF X [c] t:=λpins s σ H Q I hw=>wpAny_tests_one (h pins s σ H Q I hw)
def lS (g:TG) (nt:Nat):Prop:=∀(x:V) (o caps:St) (H:Hp) (R:St->Hp->Prop),o.length=nt->g x (o++caps) H R->g x (o++caps) H fun τ H2=>(∃o2:St,o2.length=nt/\τ=o2++caps)/\R τ H2
noncomputable def mm (cap:List Nat) (σ:St):St:=cap.map λj=>(σ[j]?).getD none
def CW (J:It) (nt:Nat) (caps:St) (g:TG) (tf:TT) (te:TE) (H:Hp) (Q:VK):Prop:=∃W:Nat->Nat->List V->Hp->Prop,(∃m,W 0 m [] H) /\
 ∀i m acc H2,W i m acc H2->(J.stop i H2/\acc.length<=WX/\∀D,H2 D=none->Q (.ref D) (upd H2 D (.lst acc))) \/
  (J.go i H2/\acc.length<=WX/\∃N:List V->Hp->Prop,(∀fJ H',N fJ H'->∃m',m' < m/\W (i+1) m' fJ H') /\
   ∀o x H3,o.length=nt->J.qA i H2 x H3->g x (o++caps) H3 fun ou H4=>tf ou H4 λb H5=>if b=true then te ou H5 λv H6=>N (acc++[v]) H6 else N acc H5)
noncomputable def kc (wi:TI) (nt:Nat) (cap:List Nat) (g:TG) (tf:TT) (te:TE):TE:=fun σ H Q=>wi σ H λJ H1=>CW J nt (mm cap σ) g tf te H1 Q
section
variable {fs ex:List Addr} {H H':Hp} {h h1 h2:Heap} {P:Xf} {w:World}
theorem Un.adopt {D:Addr} {o:HO} (u:Un fs ex H H' h h1) (hp:h.objs.size<=D) (hn:H' D=none):Un fs ex H (upd H' D o) h h1 where
 keep:=u.keep
 slot:=u.slot
 free:=λb ob q n hx=>by rw[bF (Xe (WL (WS q) hp))];exact u.free b ob q n hx
 there:=u.there
 jm:=λb xs q=>by rw[bF (eO (u.jm b xs q) hn)];exact u.jm b xs q
 iT:=λb ob xs q=>by rw[bF (eO (u.iT b ob xs q) hn)];exact u.iT b ob xs q
 jG:=λb ps q=>by
  obtain⟨more,e⟩:=u.jG b ps q;exact⟨more,by rw[bF (eO e hn)];exact e⟩
theorem Un.but {C:Addr} (u:Un fs ex H H' h h1) (hp:h.objs.size<=C) (sb:Yp C h1 h2):Un fs ex H H' h h2:=by
 have ne:∀b ob,h.get? b=some ob->b≠C:=λb ob q=>Xe (WL (WS q) hp);refine⟨λb ob q n hb hx=>(sb.2 b (ne b ob q)).trans (u.keep b ob q n hb hx),λb ob q n hb hx=>?_,u.free,λb ob q hx=>?_,u.jm,u.iT,u.jG⟩
 ·obtain⟨sl,e⟩:=u.slot b ob q n hb hx
  exact⟨sl,(sb.2 b (ne b ob q)).trans e⟩
 ·obtain⟨o',e⟩:=u.there b ob q hx
  exact⟨o',(sb.2 b (ne b ob q)).trans e⟩
theorem cA.but {C:Addr} (x:cA P w H h1) (hn:H C=none) (sb:Yp C h1 h2):cA P w H h2:=λa o e =>
 (x a o e).gM (λb u hb q=>(sb.2 b (by
  rintro rfl
  rcases hb with z|z
  ·subst z;rw[hn] at e;cases e
  ·rw[hn] at z;cases z)).trans q) (λ_ q=>q) λ_ _ q=>q
theorem cA.adopt {D:Addr} {o:HO} (x:cA P w H h) (hn:H D=none) (new:dD P w (upd H D o) h D o):cA P w (upd H D o) h:=λb u e=>by
 by_cases hb:b=D
 ·subst hb;rw[dP] at e;cases e;exact new
 ·rw[bF hb] at e
  exact(x b u e).gM (λc v _ q=>q) (λc q=>by rw[bF (eO q hn)];exact q) λc xs q=>by rw[bF (eO q hn)];exact q
end
section
variable {X:Cx} {sc:Scope} {N:List Str} {nt:Nat} {cap:List Nat} {cl:List (Str×Addr)} {s:WI} {h1:Heap} {H:Hp} {σ:St} {pins:List (Addr×Obj)} {fp:List Addr} {C:Addr} {t':Nat}
theorem Inv.block (I:Inv X pins σ H s) (S:pQ X sc N nt cap) (dM:∀n c,cl.lookup n=some c↔((n,Xu)∈sc.names/\X.env.cells.lookup n=some c)) (hf:∀b∈fp,fT X pins H b) (i6:∀b∈fp,b<s.heap.objs.size)
  (hk:∀b o,s.heap.get? b=some o->h1.get? b=some o) (hC:s.heap.objs.size<=C) (mP:∃m,h1.Ns C m):Inv (cM X N sc cl C s H fp (X.pn++pins)) [] (ka nt cap σ) H { s with heap:=h1,toks:=t' }:=by
 have rM:∀b∈gR X.stack,b∈X.env.locals::X.fs:=I.lh;have IL:C∉gR X.stack:=λz=>by
  rcases W3.mp (I.lh C z) with e|e
  ·exact absurd (WL I.lt hC) (by rw[e];exact Xk _)
  ·exact I.r6 hC e
 have zv:∀x,(relabel sc X.env).names.lookup x=some .cell\/(relabel sc X.env).names.lookup x=some .free->(x,Xu)∈sc.names:=λx hx=>by
  rw[uk] at hx
  cases e:sc.names.lookup x with
  |none=>rw[e] at hx;rcases hx with z|z<;>cases z
  |some k =>
   have hm:(x,k)∈sc.names:=by
    obtain⟨l1,l2,e1,_⟩:=List.lookup_eq_some_iff.mp e;rw[e1];simp
   rw[e] at hx
   cases k with
   |free=>exact hm
   |cell=>exact absurd rfl (S.Gq _ hm)
   |_=>exfalso;revert hx;simp
 have yr:∀x,(x,Xu)∈sc.names->∃c,X.env.cells.lookup x=some c:=λx hx=>I.ok.has x (S.frees _ hx rfl).2;have ok:Cx.Ok (cM X N sc cl C s H fp (X.pn++pins)):=by
  refine⟨I.ok.mod,?_,I.ok.glob,I.ok.blt,hC,?_,?_,?_,I.ok.hd,I.ok.frames,.inl rfl,?_,I.bs,W7 I.ok.jr I.sz,?_,?_,I.stack,I.ym⟩
  ·exact S.kind
  ·intro x y c hx hy
   exact I.ok.inj x y c ((dM x c).mp hx).2 ((dM y c).mp hy).2
  ·intro x hx
   have hm:=zv x hx;obtain⟨c,e⟩:=yr x hm;exact⟨c,(dM x c).mpr ⟨hm,e⟩⟩
  ·intro x c hx
   cases hx
  ·intro b hb
   refine⟨Xe (WL (i6 b hb) hC),λx c e=>?_⟩;exact(hf b hb).2.2.2.2.1 x c ((dM x c).mp e).2
  ·intro b o e hb
   rcases(hf b hb).2.2.2.1 with z|z
   ·exact I.ok.mz b o e z
   ·exact absurd (WL (WS e) (W7 I.ok.jr z)) (Xk _)
  ·intro b hb z
   rcases W3.mp (rM b z) with e|e
   ·exact(hf b hb).2.1 e
   ·exact(hf b hb).2.2.1 e
 obtain⟨m,hm⟩:=mP;obtain⟨mX,Ua,AI⟩:=I.loc;refine⟨ok,rfl,I.bare,Un.kept hk,⟨m,hm,λi x v e1 e2 e3=>?_⟩,λx c e=>?_,I.aM.fresh hC,λx c e=>I.fy x c ((dM x c).mp e).2,λp hp=>?_,I.aM.kept hk,?_⟩
 ·
  have hi:nt<=i:=by
   apply Zp;intro bp;have:(ka nt cap σ)[i]?=some none:=by
    unfold ka;rw[W0 (by simpa using bp),X5,if_pos bp]
   rw[this] at e2;cases e2
  have jT:(cap.map λj=>(σ[j]?).getD none)[i-nt]?=some (some v):=by
   have e:=e2;unfold ka at e;rw[Xr (by simpa using hi)] at e;simpa using e
  rw[W6] at jT
  cases ej:cap[i-nt]? with
  |none=>rw[ej] at jT;cases jT
  |some j =>
   rw[ej] at jT;have ev:(σ[j]?).getD none=some v:=Option.some.inj jT;have sY:σ[j]?=some (some v):=by
    cases q:σ[j]? with
    |none=>rw[q] at ev;cases ev
    |some z=>rw[q] at ev;exact congrArg some ev
   obtain⟨y,f1,f2,f3⟩:=S.z9 _ _ ej;rw[Nat.add_sub_cancel' hi] at f2;have AJ:y=x:=Option.some.inj (f2.symm.trans e1);subst AJ;obtain⟨g1,g2⟩:=S.frees _ f3 rfl;have AK:sE X.env.scope y:=.inr g2;obtain⟨u,r,l⟩:=AI j y v f1 sY AK;refine⟨u,r,.inr ⟨?_,?_⟩⟩
   ·show (relabel sc X.env).names.lookup y=some .cell\/(relabel sc X.env).names.lookup y=some .free
    rw[uk,g1];simp only[YC];split
    ·exact .inl rfl
    ·exact .inr rfl
   ·rcases l with ⟨k,_⟩ | ⟨_,c,hc,ml⟩
    ·exfalso
     have k':X.env.scope.names.lookup y=some .local:=k;dsimp only at g2;rw[k'] at g2
     rcases g2 with z|z<;>cases z
    ·obtain⟨oc,ho,hd⟩:=ml
     exact⟨c,(dM y c).mpr ⟨f3,hc⟩,oc,hk _ _ ho,hd⟩
 ·obtain⟨v,oc,ho,hd⟩:=I.cell x c ((dM x c).mp e).2
  exact⟨v,oc,hk _ _ ho,hd⟩
 ·have AL:p∈X.pn++pins:=by simpa using hp
  obtain⟨e,n,ne,nf,d⟩:=I.pin p AL;refine⟨hk _ _ e,n,Xe (WL (WS e) hC),λz=>?_,d⟩
  rcases W3.mp (rM p.1 z) with q|q
  ·exact ne q
  ·exact nf q
 ·unfold ka
  rw[Xw,ZC,WJ];exact S.len.symm
end
section
variable {X:Cx}
end
end L2
namespace L2
open PySem PySem.Spec PyProof.Rows
inductive Kn where
 |aB|bl|int|str|tup|lst|bH
 deriving DecidableEq
noncomputable def mQ (K:Frag) (H:Hp):V->Kn->Prop
 | .aB,.aB=>True
 | .bl _,.bl=>True
 | .int _,.int=>True
 | .str _,.str=>True
 | .ref a,.tup=>∃xs,aZ K H a xs
 | .ref a,.lst=>∃xs,ba K H a xs
 | .ref a,.bH=>∃aq,H a=some (.dK aq)
 |_,_=>False
noncomputable def qk:Kn->String->Bool
 | .int,"int"=>true
 | .bl,"int"=>true
 | .bl,"bool"=>true
 | .str,"str"=>true
 | .tup,"tuple"=>true
 | .lst,"list"=>true
 |_,_=>false
section
variable {X:Cx}
theorem Inv.pR {pins:List (Addr×Obj)} {σ:St} {H:Hp} {s:WI} {a:Addr} {xs:List V} (I:Inv X pins σ H s) (h:aZ X.K H a xs):∃o,s.heap.get? a=some o/\o.cls=.type "tuple":=by
 obtain⟨its,r,⟨o,e,c,_⟩,_⟩:=I.tuple h;exact⟨o,e,c⟩
theorem Inv.pS {pins:List (Addr×Obj)} {σ:St} {H:Hp} {s:WI} {a:Addr} {xs:List V} (I:Inv X pins σ H s) (h:ba X.K H a xs):∃o,s.heap.get? a=some o/\o.cls=.type "list":=by
 obtain⟨its,r,⟨o,n,e,c,_⟩,_⟩:=I.list h;exact⟨o,e,c⟩
theorem Inv.pT {pins:List (Addr×Obj)} {σ:St} {H:Hp} {s:WI} {a:Addr} {aq:List (Key×V)} (I:Inv X pins σ H s) (h:H a=some (.dK aq)):∃o,s.heap.get? a=some o/\o.cls=.type "dict":=by
 obtain⟨_,_,vs,_,p⟩:=(show dD X.prog X.w H s.heap a (.dK aq) from I.aM a _ h);obtain⟨o,es,ep,h1,h2,_⟩:=p;exact⟨o,h1,h2.1⟩
theorem J1:cz X (.builtin "isinstance") (λxs H Q=>∃x k,xs=[x,.ty "int"]/\mQ X.K H x k/\Q (.bl (qk k "int")) H):=by
 intro pins s σ H xs us Q I r h;obtain⟨x,k,rfl,hk,q⟩:=h;obtain⟨u,c,rfl,ru,rc⟩:=vals2 r;cases rc
 cases k with
 |aB =>
  cases x with
  |aB =>
   cases ru;exact IsiPair.NoneType_int ⟨.bl false,H,I.tok _,rfl,q⟩
  |_=>exact hk.elim
 |bl =>
  cases x with
  |bl b =>
   cases ru;exact IsiPair.bool_int ⟨.bl true,H,I,rfl,q⟩
  |_=>exact hk.elim
 |int =>
  cases x with
  |int i =>
   obtain⟨t,rfl⟩:=ru;exact IsiPair.int_int ⟨.bl true,H,I,rfl,q⟩
  |_=>exact hk.elim
 |str =>
  cases x with
  |str y =>
   obtain⟨t,rfl⟩:=ru;exact IsiPair.str_int ⟨.bl false,H,I.tok _,rfl,q⟩
  |_=>exact hk.elim
 |tup =>
  cases x with
  |ref a =>
   cases ru;obtain⟨z,hz⟩:=hk;obtain⟨o,ho,hc⟩:=I.pR hz;exact IsiPair.tuple_int ho hc ⟨.bl false,H,I.tok _,rfl,q⟩
  |_=>exact hk.elim
 |lst =>
  cases x with
  |ref a =>
   cases ru;obtain⟨z,hz⟩:=hk;obtain⟨o,ho,hc⟩:=I.pS hz;exact IsiPair.list_int ho hc ⟨.bl false,H,I.tok _,rfl,q⟩
  |_=>exact hk.elim
 |bH =>
  cases x with
  |ref a =>
   cases ru;obtain⟨z,hz⟩:=hk;obtain⟨o,ho,hc⟩:=I.pT hz;exact IsiPair.dict_int ho hc ⟨.bl false,H,I.tok _,rfl,q⟩
  |_=>exact hk.elim
theorem JO:cz X (.builtin "isinstance") (λxs H Q=>∃x k,xs=[x,.ty "bool"]/\mQ X.K H x k/\Q (.bl (qk k "bool")) H):=by
 intro pins s σ H xs us Q I r h;obtain⟨x,k,rfl,hk,q⟩:=h;obtain⟨u,c,rfl,ru,rc⟩:=vals2 r;cases rc
 cases k with
 |aB =>
  cases x with
  |aB =>
   cases ru;exact IsiPair.NoneType_bool ⟨.bl false,H,I.tok _,rfl,q⟩
  |_=>exact hk.elim
 |bl =>
  cases x with
  |bl b =>
   cases ru;exact IsiPair.bool_bool ⟨.bl true,H,I,rfl,q⟩
  |_=>exact hk.elim
 |int =>
  cases x with
  |int i =>
   obtain⟨t,rfl⟩:=ru;exact IsiPair.int_bool ⟨.bl false,H,I.tok _,rfl,q⟩
  |_=>exact hk.elim
 |str =>
  cases x with
  |str y =>
   obtain⟨t,rfl⟩:=ru;exact IsiPair.str_bool ⟨.bl false,H,I.tok _,rfl,q⟩
  |_=>exact hk.elim
 |tup =>
  cases x with
  |ref a =>
   cases ru;obtain⟨z,hz⟩:=hk;obtain⟨o,ho,hc⟩:=I.pR hz;exact IsiPair.tuple_bool ho hc ⟨.bl false,H,I.tok _,rfl,q⟩
  |_=>exact hk.elim
 |lst =>
  cases x with
  |ref a =>
   cases ru;obtain⟨z,hz⟩:=hk;obtain⟨o,ho,hc⟩:=I.pS hz;exact IsiPair.list_bool ho hc ⟨.bl false,H,I.tok _,rfl,q⟩
  |_=>exact hk.elim
 |bH =>
  cases x with
  |ref a =>
   cases ru;obtain⟨z,hz⟩:=hk;obtain⟨o,ho,hc⟩:=I.pT hz;exact IsiPair.dict_bool ho hc ⟨.bl false,H,I.tok _,rfl,q⟩
  |_=>exact hk.elim
theorem J2:cz X (.builtin "isinstance") (λxs H Q=>∃x k,xs=[x,.ty "str"]/\mQ X.K H x k/\Q (.bl (qk k "str")) H):=by
 intro pins s σ H xs us Q I r h;obtain⟨x,k,rfl,hk,q⟩:=h;obtain⟨u,c,rfl,ru,rc⟩:=vals2 r;cases rc
 cases k with
 |aB =>
  cases x with
  |aB =>
   cases ru;exact IsiPair.NoneType_str ⟨.bl false,H,I.tok _,rfl,q⟩
  |_=>exact hk.elim
 |bl =>
  cases x with
  |bl b =>
   cases ru;exact IsiPair.bool_str ⟨.bl false,H,I.tok _,rfl,q⟩
  |_=>exact hk.elim
 |int =>
  cases x with
  |int i =>
   obtain⟨t,rfl⟩:=ru;exact IsiPair.int_str ⟨.bl false,H,I.tok _,rfl,q⟩
  |_=>exact hk.elim
 |str =>
  cases x with
  |str y =>
   obtain⟨t,rfl⟩:=ru;exact IsiPair.str_str ⟨.bl true,H,I,rfl,q⟩
  |_=>exact hk.elim
 |tup =>
  cases x with
  |ref a =>
   cases ru;obtain⟨z,hz⟩:=hk;obtain⟨o,ho,hc⟩:=I.pR hz;exact IsiPair.tuple_str ho hc ⟨.bl false,H,I.tok _,rfl,q⟩
  |_=>exact hk.elim
 |lst =>
  cases x with
  |ref a =>
   cases ru;obtain⟨z,hz⟩:=hk;obtain⟨o,ho,hc⟩:=I.pS hz;exact IsiPair.list_str ho hc ⟨.bl false,H,I.tok _,rfl,q⟩
  |_=>exact hk.elim
 |bH =>
  cases x with
  |ref a =>
   cases ru;obtain⟨z,hz⟩:=hk;obtain⟨o,ho,hc⟩:=I.pT hz;exact IsiPair.dict_str ho hc ⟨.bl false,H,I.tok _,rfl,q⟩
  |_=>exact hk.elim
theorem JE:cz X (.builtin "isinstance") (λxs H Q=>∃x k,xs=[x,.ty "tuple"]/\mQ X.K H x k/\Q (.bl (qk k "tuple")) H):=by
 intro pins s σ H xs us Q I r h;obtain⟨x,k,rfl,hk,q⟩:=h;obtain⟨u,c,rfl,ru,rc⟩:=vals2 r;cases rc
 cases k with
 |aB =>
  cases x with
  |aB =>
   cases ru;exact IsiPair.NoneType_tuple ⟨.bl false,H,I.tok _,rfl,q⟩
  |_=>exact hk.elim
 |bl =>
  cases x with
  |bl b =>
   cases ru;exact IsiPair.bool_tuple ⟨.bl false,H,I.tok _,rfl,q⟩
  |_=>exact hk.elim
 |int =>
  cases x with
  |int i =>
   obtain⟨t,rfl⟩:=ru;exact IsiPair.int_tuple ⟨.bl false,H,I.tok _,rfl,q⟩
  |_=>exact hk.elim
 |str =>
  cases x with
  |str y =>
   obtain⟨t,rfl⟩:=ru;exact IsiPair.str_tuple ⟨.bl false,H,I.tok _,rfl,q⟩
  |_=>exact hk.elim
 |tup =>
  cases x with
  |ref a =>
   cases ru;obtain⟨z,hz⟩:=hk;obtain⟨o,ho,hc⟩:=I.pR hz;exact IsiPair.tuple_tuple ho hc ⟨.bl true,H,I,rfl,q⟩
  |_=>exact hk.elim
 |lst =>
  cases x with
  |ref a =>
   cases ru;obtain⟨z,hz⟩:=hk;obtain⟨o,ho,hc⟩:=I.pS hz;exact IsiPair.list_tuple ho hc ⟨.bl false,H,I.tok _,rfl,q⟩
  |_=>exact hk.elim
 |bH =>
  cases x with
  |ref a =>
   cases ru;obtain⟨z,hz⟩:=hk;obtain⟨o,ho,hc⟩:=I.pT hz;exact IsiPair.dict_tuple ho hc ⟨.bl false,H,I.tok _,rfl,q⟩
  |_=>exact hk.elim
theorem JP:cz X (.builtin "isinstance") (λxs H Q=>∃x k,xs=[x,.ty "list"]/\mQ X.K H x k/\Q (.bl (qk k "list")) H):=by
 intro pins s σ H xs us Q I r h;obtain⟨x,k,rfl,hk,q⟩:=h;obtain⟨u,c,rfl,ru,rc⟩:=vals2 r;cases rc
 cases k with
 |aB =>
  cases x with
  |aB =>
   cases ru;exact IsiPair.NoneType_list ⟨.bl false,H,I.tok _,rfl,q⟩
  |_=>exact hk.elim
 |bl =>
  cases x with
  |bl b =>
   cases ru;exact IsiPair.bool_list ⟨.bl false,H,I.tok _,rfl,q⟩
  |_=>exact hk.elim
 |int =>
  cases x with
  |int i =>
   obtain⟨t,rfl⟩:=ru;exact IsiPair.int_list ⟨.bl false,H,I.tok _,rfl,q⟩
  |_=>exact hk.elim
 |str =>
  cases x with
  |str y =>
   obtain⟨t,rfl⟩:=ru;exact IsiPair.str_list ⟨.bl false,H,I.tok _,rfl,q⟩
  |_=>exact hk.elim
 |tup =>
  cases x with
  |ref a =>
   cases ru;obtain⟨z,hz⟩:=hk;obtain⟨o,ho,hc⟩:=I.pR hz;exact IsiPair.tuple_list ho hc ⟨.bl false,H,I.tok _,rfl,q⟩
  |_=>exact hk.elim
 |lst =>
  cases x with
  |ref a =>
   cases ru;obtain⟨z,hz⟩:=hk;obtain⟨o,ho,hc⟩:=I.pS hz;exact IsiPair.list_list ho hc ⟨.bl true,H,I,rfl,q⟩
  |_=>exact hk.elim
 |bH =>
  cases x with
  |ref a =>
   cases ru;obtain⟨z,hz⟩:=hk;obtain⟨o,ho,hc⟩:=I.pT hz;exact IsiPair.dict_list ho hc ⟨.bl false,H,I.tok _,rfl,q⟩
  |_=>exact hk.elim
end
end L2
namespace L2
open PySem PySem.Spec PyProof.Rows
noncomputable def qb (p:Addr) (Ts:List String):Heap->Prop:=λh=>h.get? p=some { cls:=.type "tuple",data:=.seq (Ts.map Y6).toArray }
theorem Fn:∀{Ts:List String} {us:List Value},Vals (Ts.map V.ty) us->us=Ts.map Y6
 | [],_,.nil=>rfl
 |_::r,_,.cons h t=>by
  cases h;rw[Fn t];rfl
noncomputable def Qa (t:TA):TE:=fun σ H Q=>t σ H λxs H1=>∃Ts:List String,xs=Ts.map V.ty/\xs.length<=WX/\∀p,H1 p=none->Q (.ref p) (upd H1 p (.ext (qb p Ts)))
section
variable {X:Cx} {es:List Expr} {t:TA} {pos:Pos}
theorem MR {x1} (h:PA X es t):PE X (.Tuple es x1 pos) (Qa t):=by
 intro pins s σ H Q I hq;refine wpAny_Tuple_spliced (aK (h pos pins s σ H _ I hq) λus s1 ⟨xs,H1,I1,r,Ts,e,z,q⟩=>⟨by rw[<- r.length];exact z,?_⟩);subst e;have eu:=Fn r;subst eu;have hf:H1 s1.heap.objs.size=none:=I1.aM.fresh (Nat.le_refl _);refine⟨.ref s1.heap.objs.size,upd H1 s1.heap.objs.size (.ext (qb s1.heap.objs.size Ts)),I1.laid (t':=s1.toks) (λb u e=>WE _ e) (Nat.le_refl _) ?_,rfl,q _ hf⟩;refine⟨WN _ rfl,⟨_,WN _ rfl⟩,λh1 h2 e k=>k _ e⟩
theorem Qb {K:Frag} {pins:List (Addr×Obj)} {σ:St} {H:Hp} {s:WI} {x:V} {u:Value} {k:Kn} (I:Inv X pins σ H s) (hk:mQ X.K H x k) (r:RelV x u) :
  ∃Tx vs,AnswersAll (λs=>s.TypeIs u Tx) u [.type "tuple",.type "list"] vs/\s.TypeIs u Tx/\vs.any id=(decide (k=.tup)||decide (k=.lst)):=by
 cases k with
 |aB =>
  cases x with
  |aB=>cases r;exact⟨"NoneType",[false,false],.cons (.of_false_none (by decide +kernel) YW F.sub_NoneType_tuple) (.cons (.of_false_none (by decide +kernel) Za F.sub_NoneType_list) .nil),rfl,rfl⟩
  |_=>exact hk.elim
 |bl =>
  cases x with
  |bl b=>cases r;exact⟨"bool",[false,false],.cons (.of_false_bool (by decide +kernel) YW F.sub_bool_tuple) (.cons (.of_false_bool (by decide +kernel) Za F.sub_bool_list) .nil),rfl,rfl⟩
  |_=>exact hk.elim
 |int =>
  cases x with
  |int b=>obtain⟨t,rfl⟩:=r;exact⟨"int",[false,false],.cons (.of_false_int (by decide +kernel) YW F.sub_int_tuple) (.cons (.of_false_int (by decide +kernel) Za F.sub_int_list) .nil),rfl,rfl⟩
  |_=>exact hk.elim
 |str =>
  cases x with
  |str b=>obtain⟨t,rfl⟩:=r;exact⟨"str",[false,false],.cons (.of_false_str (by decide +kernel) YW F.sub_str_tuple) (.cons (.of_false_str (by decide +kernel) Za F.sub_str_list) .nil),rfl,rfl⟩
  |_=>exact hk.elim
 |tup =>
  cases x with
  |ref a =>
   cases r;obtain⟨z,hz⟩:=hk;exact⟨"tuple",[true,false],.cons (.of_true YW F.sub_tuple_tuple) (.cons (.of_false_tuple (by decide +kernel) Za F.sub_tuple_list) .nil),I.pR hz,rfl⟩
  |_=>exact hk.elim
 |lst =>
  cases x with
  |ref a =>
   cases r;obtain⟨z,hz⟩:=hk;exact⟨"list",[false,true],.cons (.of_false_list (by decide +kernel) YW F.sub_list_tuple) (.cons (.of_true Za F.sub_list_list) .nil),I.pS hz,rfl⟩
  |_=>exact hk.elim
 |bH =>
  cases x with
  |ref a =>
   cases r;obtain⟨z,hz⟩:=hk;exact⟨"dict",[false,false],.cons (.of_false_dict (by decide +kernel) YW F.sub_dict_tuple) (.cons (.of_false_dict (by decide +kernel) Za F.sub_dict_list) .nil),I.pT hz,rfl⟩
  |_=>exact hk.elim
theorem Km:cz X (.builtin "isinstance") (λxs H Q=>∃x k p,xs=[x,.ref p]/\mQ X.K H x k/\H p=some (.ext (qb p ["tuple","list"]))/\Q (.bl (decide (k=.tup)||decide (k=.lst))) H):=by
 intro pins s σ H xs us Q I r h;obtain⟨x,k,p,rfl,hk,hp,q⟩:=h;obtain⟨u,c,rfl,ru,rc⟩:=vals2 r;cases rc;obtain⟨Tx,vs,ha,ht,hv⟩:=Qb (K:=X.K) I hk ru;have ho:dD X.prog X.w H s.heap p (.ext (qb p ["tuple","list"])):=I.aM p _ hp;exact IsiPair.tupleOfB ha ht ho.1 hv λtk=>⟨.bl _,H,I.tok _,rfl,q⟩
theorem Et {A:Xv} {bs:List Bool} {its:List Value} (r:Vals (bs.map V.bl) its):TruthOf X.prog X.w A (λi v=>its.toArray[i]?=some v) (λi=>bs.getD i false):=by
 intro i v s Q E hv hQ;have IM:its[i]?=some v:=by simpa using hv
 have hi:i<its.length:=(WO.mp IM).1;have hb:i<bs.length:=by
  have e:=r.length;rw[WJ] at e;omega
 have hx:(bs.map V.bl)[i]?=some (.bl (bs[i])):=by rw[W6,WQ hb];rfl
 obtain⟨u,hu,ru⟩:=Vals.get r hx;rw[IM] at hu;cases hu;cases ru;have e:bs.getD i false=bs[i]:=by simp[Zb,WQ hb]
 have mR:Q (bs.getD i false) s:=hQ;rw[e] at mR;exact YJ mR
theorem range_all (bs:List Bool):(WW bs.length).all (λi=>bs.getD i false)=bs.all id:=by
 rw[Yw,XO,XO];constructor
 ·intro h b hb
  obtain⟨i,hi,e⟩:=Z2 hb;have:=h i (Xy.mpr hi);simpa [Zb,WQ hi,e] using this
 ·intro h i hi
  have hi:=Xy.mp hi;have:=h _ (aaH hi);simpa [Zb,WQ hi] using this
theorem range_any (bs:List Bool):(WW bs.length).any (λi=>bs.getD i false)=bs.any id:=by
 rw[Yw,Zq,Zq];constructor
 ·rintro ⟨i,hi,h⟩
  have hi:=Xy.mp hi;exact⟨bs[i],aaH hi,by simpa [Zb,WQ hi] using h⟩
 ·rintro ⟨b,hb,h⟩
  obtain⟨i,hi,e⟩:=Z2 hb;exact⟨i,Xy.mpr hi,by simpa [Zb,WQ hi,e] using h⟩
theorem MS (hc:X.calm=true):cz X (.builtin "all") (λxs H Q=>∃(p:Addr) (bs:List Bool),xs=[.ref p]/\ba X.K H p (bs.map V.bl)/\Q (.bl (bs.all id)) H):=by
 intro pins s σ H xs us Q I r h;obtain⟨p,bs,rfl,hp,q⟩:=h;obtain⟨u,rfl,ru⟩:=vals1 r;cases ru;obtain⟨its,rv,pl,hz⟩:=I.list hp;have hn:its.toArray.size=bs.length:=by
  have e:=rv.length;rw[WJ] at e;simpa using e.symm
 have hh:X.A.in1.handled=none:=I.ok.hd hc;refine call_all_walk (aaj pl.isList ?_);have old:p≠s.heap.objs.size:=Xe (by obtain⟨o,n,e,_⟩:=pl;exact WS e);refine⟨s.heap.objs.size,[s.heap.objs.size,p],[s.heap.objs.size],its.toArray.size,_,_,λi=>bs.getD i false,rfl,Walks.list hh s.heap.objs.size p old its.toArray,⟨⟨_,WN _ rfl,rfl,rfl⟩,pl.isList.at λo e=>WE _ e⟩,Et rv,λh' tk hk=>?_⟩;rw[hn,range_all];exact⟨.bl _,H,I.kept (t':=tk) λb o e=>hk b o (by simpa using Xe (WS e)) (WE _ e),rfl,q⟩
theorem MT (hc:X.calm=true):cz X (.builtin "any") (λxs H Q=>∃(p:Addr) (bs:List Bool),xs=[.ref p]/\ba X.K H p (bs.map V.bl)/\Q (.bl (bs.any id)) H):=by
 intro pins s σ H xs us Q I r h;obtain⟨p,bs,rfl,hp,q⟩:=h;obtain⟨u,rfl,ru⟩:=vals1 r;cases ru;obtain⟨its,rv,pl,hz⟩:=I.list hp;have hn:its.toArray.size=bs.length:=by
  have e:=rv.length;rw[WJ] at e;simpa using e.symm
 have hh:X.A.in1.handled=none:=I.ok.hd hc;refine call_any_walk (aaj pl.isList ?_);have old:p≠s.heap.objs.size:=Xe (by obtain⟨o,n,e,_⟩:=pl;exact WS e);refine⟨s.heap.objs.size,[s.heap.objs.size,p],[s.heap.objs.size],its.toArray.size,_,_,λi=>bs.getD i false,rfl,Walks.list hh s.heap.objs.size p old its.toArray,⟨⟨_,WN _ rfl,rfl,rfl⟩,pl.isList.at λo e=>WE _ e⟩,Et rv,λh' tk hk=>?_⟩;rw[hn,range_any];exact⟨.bl _,H,I.kept (t':=tk) λb o e=>hk b o (by simpa using Xe (WS e)) (WE _ e),rfl,q⟩
end
end L2
namespace L2
open PySem PySem.Spec PyProof.Rows
noncomputable def ql:Key->ZR
 | .inl i=>.int i
 | .inr x=>.str x
mutual
noncomputable def DV (K:Frag) (Z:Addr->Prop) (H:Hp):ZR->V->Prop
 | .none,v=>v=.aB
 | .bool b,v=>v=.bl b
 | .int i,v=>v=.int i
 | .str x,v=>v=.str x
 | .tuple ds,v=>∃a xs,v=.ref a/\aZ K H a xs/\au K Z H ds xs
 | .list ds,v=>∃a xs,v=.ref a/\¬ Z a/\H a=some (.lst xs)/\au K Z H ds xs
 | .dict aq,v=>∃a es,v=.ref a/\¬ Z a/\H a=some (.dK es)/\∃l:List (Key×Int),es=l.map (λp=>(p.1,V.int p.2))/\aq=l.map λp=>(ql p.1,PyData.int p.2)
noncomputable def au (K:Frag) (Z:Addr->Prop) (H:Hp):List ZR->List V->Prop
 | [],vs=>vs=[]
 |d::ds,vs=>∃v r,vs=v::r/\DV K Z H d v/\au K Z H ds r
end
structure HU (K:Frag) (Z:Addr->Prop) (H H':Hp):Prop where
 tup:∀b xs,aZ K H b xs->aZ K H' b xs
 lst:∀b xs,¬ Z b->H b=some (.lst xs)->H' b=some (.lst xs)
 bH:∀b es,¬ Z b->H b=some (.dK es)->H' b=some (.dK es)
mutual
theorem DV.gM {K:Frag} {Z:Addr->Prop} {H H':Hp} (S:HU K Z H H'):∀{d:ZR} {v:V},DV K Z H d v->DV K Z H' d v
 | .none,_,h=>h
 | .bool _,_,h=>h
 | .int _,_,h=>h
 | .str _,_,h=>h
 | .tuple ds,v,h=>by
  simp only[DV] at h |-;obtain⟨a,xs,e,hq,r⟩:=h;exact⟨a,xs,e,S.tup a xs hq,au.gM S r⟩
 | .list ds,v,h=>by
  simp only[DV] at h |-;obtain⟨a,xs,e,hz,hq,r⟩:=h;exact⟨a,xs,e,hz,S.lst a xs hz hq,au.gM S r⟩
 | .dict aq,v,h=>by
  simp only[DV] at h |-;obtain⟨a,es,e,hz,hq,r⟩:=h;exact⟨a,es,e,hz,S.bH a es hz hq,r⟩
theorem au.gM {K:Frag} {Z:Addr->Prop} {H H':Hp} (S:HU K Z H H'):∀{ds:List ZR} {vs:List V},au K Z H ds vs->au K Z H' ds vs
 | [],_,h=>h
 |d::ds,vs,h=>by
  simp only[au] at h |-;obtain⟨v,r,e,h1,h2⟩:=h;exact⟨v,r,e,DV.gM S h1,au.gM S h2⟩
end
mutual
theorem DV.more {K:Frag} {Z:Addr->Prop} {H:Hp} {p:Addr} (hp:H p=none):∀{d:ZR} {v:V},DV K Z H d v->DV K (λa=>Z a\/a=p) H d v
 | .none,_,h=>h
 | .bool _,_,h=>h
 | .int _,_,h=>h
 | .str _,_,h=>h
 | .tuple ds,v,h=>by
  simp only[DV] at h |-;obtain⟨a,xs,e,hq,r⟩:=h;exact⟨a,xs,e,hq,au.more hp r⟩
 | .list ds,v,h=>by
  simp only[DV] at h |-;obtain⟨a,xs,e,hz,hq,r⟩:=h;exact⟨a,xs,e,(λz=>z.elim hz λe=>by subst e;rw[hp] at hq;cases hq),hq,au.more hp r⟩
 | .dict aq,v,h=>by
  simp only[DV] at h |-;obtain⟨a,es,e,hz,hq,r⟩:=h;exact⟨a,es,e,(λz=>z.elim hz λe=>by subst e;rw[hp] at hq;cases hq),hq,r⟩
theorem au.more {K:Frag} {Z:Addr->Prop} {H:Hp} {p:Addr} (hp:H p=none):∀{ds:List ZR} {vs:List V},au K Z H ds vs->au K (λa=>Z a\/a=p) H ds vs
 | [],_,h=>h
 |d::ds,vs,h=>by
  simp only[au] at h |-;obtain⟨v,r,e,h1,h2⟩:=h;exact⟨v,r,e,DV.more hp h1,au.more hp h2⟩
end
mutual
theorem DV.less {K:Frag} {Z Z':Addr->Prop} {H:Hp} (kB:∀a,Z' a->Z a):∀{d:ZR} {v:V},DV K Z H d v->DV K Z' H d v
 | .none,_,h=>h
 | .bool _,_,h=>h
 | .int _,_,h=>h
 | .str _,_,h=>h
 | .tuple ds,v,h=>by
  simp only[DV] at h |-;obtain⟨a,xs,e,hq,r⟩:=h;exact⟨a,xs,e,hq,au.less kB r⟩
 | .list ds,v,h=>by
  simp only[DV] at h |-;obtain⟨a,xs,e,hz,hq,r⟩:=h;exact⟨a,xs,e,λz=>hz (kB _ z),hq,au.less kB r⟩
 | .dict aq,v,h=>by
  simp only[DV] at h |-;obtain⟨a,es,e,hz,hq,r⟩:=h;exact⟨a,es,e,λz=>hz (kB _ z),hq,r⟩
theorem au.less {K:Frag} {Z Z':Addr->Prop} {H:Hp} (kB:∀a,Z' a->Z a):∀{ds:List ZR} {vs:List V},au K Z H ds vs->au K Z' H ds vs
 | [],_,h=>h
 |d::ds,vs,h=>by
  simp only[au] at h |-;obtain⟨v,r,e,h1,h2⟩:=h;exact⟨v,r,e,DV.less kB h1,au.less kB h2⟩
end
noncomputable def Ub:ZR->Kn
 | .none=>.aB
 | .bool _=>.bl
 | .int _=>.int
 | .str _=>.str
 | .tuple _=>.tup
 | .list _=>.lst
 | .dict _=>.bH
section
variable {X:Cx} {pins:List (Addr×Obj)} {σ:St} {H:Hp} {s:WI} {Z:Addr->Prop}
theorem uz {h:Heap} {P:Xf} {w:World}:∀{l:List (Key×Int)} {vs:List (Key×Value)} {es:List aaX},KV (l.map λp=>(p.1,V.int p.2)) vs->Pairs (vd P w) es vs ->
  ReadsAll h (es.map (·.key)) ((l.map λp=>(ql p.1,PyData.int p.2)).map (·.1)) []/\ReadsAll h (es.map (·.val)) ((l.map λp=>(ql p.1,PyData.int p.2)).map (·.2)) []
 | [],_,_,.nil,.nil=>⟨.nil,.nil⟩
 |(k,i)::l,_,_,.cons (b:=q) r t,.cons (e:=e) h1 h2 h3=>by
  obtain⟨a1,a2⟩:=uz (h:=h) t h3;obtain⟨r1,t',r2⟩:=r;have r1:k=q.1:=r1;have r2:q.2=aa9 i t':=r2;refine⟨?_,?_⟩
  ·have hk:zo q.1 e.key=true:=h1
   rw[<- r1] at hk;have:Reads h e.key (ql k) []:=by
    rcases j5 hk with ⟨j,u,e1,e2⟩ | ⟨x,u,e1,e2⟩
    ·rw[e1,e2];exact .int j u
    ·rw[e1,e2];exact .str x u
   exact ReadsAll.cons (as:=[]) (bs:=[]) this a1
  ·have:Reads h e.val (.int i) []:=by rw[h2,r2];exact .int i t'
   exact ReadsAll.cons (as:=[]) (bs:=[]) this a2
mutual
theorem DV.reads (I:Inv X pins σ H s):∀{d:ZR} {v:V} {u:Value},DV X.K Z H d v->RelV v u->∃as,Reads s.heap u d as
 | .none,v,u,h,r=>by
  have e:v=.aB:=h;subst e;cases r;exact⟨[],.none⟩
 | .bool b,v,u,h,r=>by
  have e:v=.bl b:=h;subst e;cases r;exact⟨[],.bool b⟩
 | .int i,v,u,h,r=>by
  have e:v=.int i:=h;subst e;obtain⟨t,rfl⟩:=r;exact⟨[],.int i t⟩
 | .str x,v,u,h,r=>by
  have e:v=.str x:=h;subst e;obtain⟨t,rfl⟩:=r;exact⟨[],.str x t⟩
 | .tuple ds,v,u,h,r=>by
  simp only[DV] at h;obtain⟨a,xs,e,hq,hr⟩:=h;subst e;cases r;obtain⟨its,rv,⟨o,e,c,n,hd⟩,_⟩:=I.tuple hq;obtain⟨as,rs⟩:=au.reads I hr rv;exact⟨as,.tuple e c hd (by simpa using rs)⟩
 | .list ds,v,u,h,r=>by
  simp only[DV] at h;obtain⟨a,xs,e,_,hq,hr⟩:=h;subst e;cases r;obtain⟨its,rv,⟨o,n,e,c,_,hd⟩,_⟩:=I.list (ba.of hq);obtain⟨as,rs⟩:=au.reads I hr rv;exact⟨a::as,.list e c hd (by simpa using rs)⟩
 | .dict aq,v,u,h,r=>by
  simp only[DV] at h;obtain⟨a,es,e,_,hq,l,e1,e2⟩:=h;subst e e1 e2;cases r;obtain⟨_,_,vs,kv,o,fZ,ep,g1,g2,g3,_,g5,_⟩:=(show dD X.prog X.w H s.heap a (.dK _) from I.aM a _ hq);obtain⟨r1,r2⟩:=uz (h:=s.heap) kv g5;exact⟨a::[]++[],.dict g1 g2.1 g3 r1 r2⟩
theorem au.reads (I:Inv X pins σ H s):∀{ds:List ZR} {vs:List V} {us:List Value},au X.K Z H ds vs->Vals vs us->∃as,ReadsAll s.heap us ds as
 | [],vs,us,h,r=>by
  have e:vs=[]:=h;subst e;cases r;exact⟨[],.nil⟩
 |d::ds,vs,us,h,r=>by
  obtain⟨v,rr,e,h1,h2⟩:=h;subst e
  cases r with
  |cons ru rt =>
   obtain⟨as,a1⟩:=DV.reads I h1 ru;obtain⟨bs,a2⟩:=au.reads I h2 rt;exact⟨as++bs,.cons a1 a2⟩
end
theorem DL {k:Nat} (hr:cI k X.A):cz X (.builtin "repr") (λxs H Q=>∃(x:V) (d:ZR) (Z:Addr->Prop),xs=[x]/\DV X.K Z H d x/\d.showable=true/\(d.hasDict=false\/Ub d=.bH)/\d.depth<=100/\d.shown.length<=WX/\Q (.str d.shown) H):=by
 intro pins s σ H xs us Q I r h;obtain⟨x,d,Z,rfl,hd,hs,qB,sZ,hz,q⟩:=h;obtain⟨u,rfl,ru⟩:=vals1 r;have wU:X.A.units+(d.depth+1)<cLine:=by have:=hr.un;omega
 obtain⟨as,rd⟩:=hd.reads I ru;have go:∀a,u=.ref a->(d.hasDict=true->YT∉as)->wpAny (model X.prog X.w) X.A (call (.builtin "repr") [u]) (EP X pins σ Q) X.xe s:=λa e AM=>by
  subst e;exact repr_of_reads' rd hs AM hr.gd wU (λ_ _ e=>e) (λh' t tk hk=>⟨.str d.shown,H,I.kept (t':=tk) hk,⟨t,rfl⟩,q⟩) hz
 cases d with
 |none =>
  cases rd;exact P.repr_of_none ⟨.str _,H,I.tok _,⟨_,rfl⟩,q⟩
 |bool b =>
  cases rd;exact P.repr_of_bool ⟨.str _,H,I.tok _,⟨_,rfl⟩,q⟩
 |int i =>
  cases rd;exact P.repr_of_int (by simpa [PyData.showable] using hs) ⟨.str _,H,I.tok _,⟨_,rfl⟩,q⟩
 |str y =>
  cases rd;exact P.repr_of_str ⟨.str _,H,I.tok _,⟨_,rfl⟩,q⟩ hz
 |list ds =>
  cases rd with
  |list h1 h2 h3 h4 =>
   refine go _ rfl λz=>?_
   rcases qB with e|e
   ·rw[e] at z;cases z
   ·cases e
 |tuple ds =>
  cases rd with
  |tuple h1 h2 h3 h4 =>
   refine go _ rfl λz=>?_
   rcases qB with e|e
   ·rw[e] at z;cases z
   ·cases e
 |dict aq =>
  simp only[DV] at hd;obtain⟨a,es,e,_,hq,l,e1,e2⟩:=hd;subst e e1 e2;cases ru;obtain⟨_,Aa,vs,kv,o,fZ,ep,g1,g2,g3,_,g5,_⟩:=(show dD X.prog X.w H s.heap a (.dK _) from I.aM a _ hq);obtain⟨r1,r2⟩:=uz (h:=s.heap) kv g5;have Uc:Reads s.heap (.ref a) (.dict (l.map λp=>(ql p.1,PyData.int p.2))) (a::[]++[]):=.dict g1 g2.1 g3 r1 r2;refine repr_of_reads' Uc hs (λ_ hm=>?_) hr.gd wU (λ_ _ e=>e) (λh' t tk hk=>⟨.str _,H,I.kept (t':=tk) hk,⟨t,rfl⟩,q⟩) hz;have e:YT=a:=by simpa using hm
  subst e;simp at Aa
noncomputable def HV (K:Frag) (neg:Bool):R2:=λx y H Q=>∃(d e:ZR) (Z:Addr->Prop),DV K Z H d x/\DV K Z H e y/\d.canLay0=true/\e.canLay0=true/\min d.depth e.depth<=100/\Q (.bl (if neg then !PyData.eqv d e else Yh d e)) H
theorem Qc {k:Nat} (hr:cI k X.A):bE X (Yg .Eq) (HV X.K false):=by
 intro pins s σ H x y v u Q I rx ry h;obtain⟨d,e,Z,h1,h2,l1,l2,hd,q⟩:=h;obtain⟨as,r1⟩:=h1.reads I rx;obtain⟨bs,r2⟩:=h2.reads I ry;exact SeqAt.eqOverData _ _ _ _ _ _ _ _ _ _ _ _ r1 r2 l1 l2 (by have:=hr.un;omega) ⟨.bl _,H,I,rfl,q⟩
theorem Qd {k:Nat} (hr:cI k X.A):bE X (Yg .NotEq) (HV X.K true):=by
 intro pins s σ H x y v u Q I rx ry h;obtain⟨d,e,Z,h1,h2,l1,l2,hd,q⟩:=h;obtain⟨as,r1⟩:=h1.reads I rx;obtain⟨bs,r2⟩:=h2.reads I ry;exact SeqAt.neOverData _ _ _ _ _ _ _ _ _ _ _ _ r1 r2 l1 l2 (by have:=hr.un;omega) ⟨.bl _,H,I,rfl,q⟩
end
end L2
namespace HT
open PySem PySem.Spec PyProof.Rows
section
variable {prog:Xf} {w:World} {A:Xv} {E:Value->WI->Prop} {s:WI}
theorem DM {t:Addr} {items:Array Value} {Q:Bool->WI->Prop} (ht:IsTup s.heap t items) (h:Q true s):wpAny (model prog w) A (ZN (.ref t)) Q E s:=by
 unfold ZN;exact WD (ZD ht.typeIs (WG h))
theorem JF {t sl:Addr} {items:Array Value} {vl vu:Value} {lo hi:Option Int} {Q:Value->WI->Prop} (ht:IsTup s.heap t items) (hs:s.heap.IsSliceOf sl vl vu .none) (pl:IsPart vl lo) (pu:IsPart vu hi)
  (hw:aR items.size 0 lo=0/\aR items.size items.size hi=items.size) (h:Q (.ref t) s):wpAny (model prog w) A (aa6 (.ref t) (.ref sl)) Q E s:=by
 obtain⟨os,gE,gF,i5⟩:=id hs;have oq:s.TypeIs (.ref sl) "slice":=⟨os,gE,gF⟩;unfold aa6
 try with_reducible refine Yf ?_
 first|refine WD (WG ?_)|skip
 refine WD (aak ht.typeIs (by decide) ?_);refine WD (Xp (name:=XC "__getitem__") ht.typeIs Xd
  (Xs Xd ht.typeIs Z0 ?_ (Z8 _ _)))
 show wpAny _ _ (Yo (.ref t) >>= _) _ _ s;refine WD (tupleItemsOf_ ht ?_);refine WD (ZD oq ?_);rw[if_pos (by decide)];refine WD (Cj hs pl pu ?_);obtain⟨w1,w2⟩:=hw
 show wpAny _ _ (if (((aR items.size 0 lo:Nat):Int)==0&&(1:Int)==1&&(aR items.size items.size hi-aR items.size 0 lo)==items.size)=true then _ else _) _ _ s
 rw[w1,w2,if_pos (by simp)]
 first
  |exact WD (DM ht (by simp only[if_true];exact WD (YV (WG ⟨_,rfl,WG h⟩))))
  |exact WD (DM ht (by simp only[if_true];exact WD (YV (WD (WG (WG ⟨_,rfl,WG h⟩))))))
theorem Ko (n:Nat):XR none none (-1) (n:Int)=((n:Int)-1,-1):=by
 unfold XR;simp
theorem Kp (n:Nat):Xh ((n:Int)-1) (-1) (-1)=n:=by
 unfold Xh;have h1:¬ ((-1:Int) > 0):=by omega
 simp only[h1,if_false];split
 ·simp
 ·simp;omega
theorem Gr {α β:Type} {f:α->Option β} {g:α->β}:∀{l:List α},(∀x∈l,f x=some (g x))->l.filterMap f=l.map g
 | [],_=>rfl
 |x::r,h=>by
  rw[Ys,h x WR,W4];exact congrArg _ (Gr λy hy=>h y (WT _ hy))
theorem LD (xs:Array Value):((WW xs.size).filterMap λ(m:Nat)=>xs[(((xs.size:Int)-1)+(m:Int)*(-1)).toNat]?).toArray=xs.toList.reverse.toArray:=by
 congr 1;apply YL;intro i;have e:((WW xs.size).filterMap λ(m:Nat)=>xs[(((xs.size:Int)-1)+(m:Int)*(-1)).toNat]?)=(WW xs.size).map λ(m:Nat)=>xs.getD (xs.size-1-m) .none:=by
  apply Gr;intro m hm;have hm:=Xy.mp hm;have:(((xs.size:Int)-1)+(m:Int)*(-1)).toNat=xs.size-1-m:=by omega
  rw[this,Array.getElem?_eq_getElem (by omega)];simp[aan,show xs.size-1-m<xs.size by omega]
 rw[e,W6];by_cases hi:i<xs.size
 ·rw[XJ hi,List.getElem?_reverse (by simpa using hi)]
  simp[aan,show xs.size-1-i<xs.size by omega]
 ·rw[Xt (by simpa using hi),Xt (by simpa using hi)]
  rfl
theorem JB {t sl:Addr} {items:Array Value} {tk:Tok} {Q:Value->WI->Prop} (ht:IsTup s.heap t items) (hs:s.heap.IsSliceOf sl .none .none (.int (-1) tk))
  (h:Q (.ref s.heap.objs.size) { s with heap:=s.heap.push { cls:=.type "tuple",data:=.seq items.toList.reverse.toArray } })
  (hsz:items.size<=WX):wpAny (model prog w) A (aa6 (.ref t) (.ref sl)) Q E s:=by
 have hz:sizeOk (.seq items.toList.reverse.toArray):=by
  show items.toList.reverse.toArray.size<=WX;rw[W2,List.length_reverse,Xj];exact hsz
 obtain⟨os,gE,gF,i5⟩:=id hs;have oq:s.TypeIs (.ref sl) "slice":=⟨os,gE,gF⟩;unfold aa6
 try with_reducible refine Yf ?_
 first|refine WD (WG ?_)|skip
 refine WD (aak ht.typeIs (by decide) ?_);refine WD (Xp (name:=XC "__getitem__") ht.typeIs Xd
  (Xs Xd ht.typeIs Z0 ?_ (Z8 _ _)))
 show wpAny _ _ (Yo (.ref t) >>= _) _ _ s;refine WD (tupleItemsOf_ ht ?_);refine WD (ZD oq ?_);rw[if_pos (by decide)];refine WD ?_;unfold YQ ZQ;refine WD (WD (XY gE i5 (x:=.none) rfl (WD (XY gE i5 (x:=.none) rfl (WD (XY gE i5 (x:=.int (-1) tk) rfl (WG ?_)))))));refine WD (slicePart_int ?_)
 show wpAny _ _ (if ((-1:Int)==0)=true then _ else _) _ _ s
 rw[if_neg (by decide)];refine WD (ZP (WD (ZP (WD (WG ?_)))))
 show wpAny _ _ (match XR none none (-1) (items.size:Int) with | (lo,hi)=>pure (lo,(-1:Int),Xh lo hi (-1))) _ _ s
 rw[Ko];show wpAny _ _ (pure (((items.size:Int)-1),(-1:Int),Xh ((items.size:Int)-1) (-1) (-1))) _ _ s;rw[Kp];refine WG ?_
 show wpAny _ _ (if (((items.size:Int)-1)==0&&(-1:Int)==1&&items.size==items.size)=true then _ else _) _ _ s
 rw[if_neg (by simp),LD]
 first
  |exact WD (m:=XE _) (W8 (WG ⟨_,rfl,WG h⟩) hz)
  |exact WD (m:=XE _) (W8 (WD (WG (WG ⟨_,rfl,WG h⟩))) hz)
  |exact WD (WD (m:=XE _) (W8 (WG (WG ⟨_,rfl,WG h⟩)) hz))
end
end HT
namespace L2
open PySem PySem.Spec PyProof.Rows
theorem jL.Ud {K:Frag} {H H':Hp} {a:Addr} {xs:List V} (e:jL H H') (h:aZ K H a xs):aZ K H' a xs:=by
 rcases h with (h | ⟨o,h⟩)|h
 ·exact .inl (.inl (e _ _ h))
 ·exact .inl (.inr ⟨o,e _ _ h⟩)
 ·exact .inr h
theorem jL.upd {H:Hp} {p:Addr} {o:HO} (hn:H p=none):jL H (upd H p o):=λb u e=>by rw[bF (eO e hn)];exact e
def kj (K:Frag) (H:Hp) (ys:List V) (Q:VK):Prop:=∀a H',jL H H'->aZ K H' a ys->Q (.ref a) H'
theorem kj.here {K:Frag} {H:Hp} {ys:List V} {Q:VK} {a:Addr} (h:kj K H ys Q) (hs:aZ K H a ys):Q (.ref a) H:=h a H (jL.refl H) hs
theorem kj.new {K:Frag} {H:Hp} {ys:List V} {Q:VK} {p:Addr} (h:kj K H ys Q) (hn:H p=none):Q (.ref p) (L2.upd H p (.tup ys)):=h p _ (jL.upd hn) (aZ.of dP)
section
variable {X:Cx} {e:Expr} {te:TE} {pos p2 p3 p4:Pos}
theorem MU {xs:List V} {lo hi:Option Int} (h:HT.aR xs.length 0 lo=0/\HT.aR xs.length xs.length hi=xs.length):jK xs lo hi=xs:=by
 unfold jK;rw[h.1,h.2];simp
noncomputable def Td (K:Frag):V->Option Int->Option Int->Hp->VK->Prop:=λx lo hi H Q=>∃a xs,x=.ref a/\aZ K H a xs/\kj K H (jK xs lo hi) Q
theorem Of:sT X (Td X.K):=by
 intro pins s σ H x v vl vu lo hi sl Q I rx hs pl pu h;obtain⟨a,xs,rfl,hx,q⟩:=h;by_cases hw:HT.aR xs.length 0 lo=0/\HT.aR xs.length xs.length hi=xs.length
 ·cases rx
  obtain⟨its,r,ht,hz⟩:=I.tuple hx;have hlen:its.toArray.size=xs.length:=by rw[W2];exact r.length.symm
  rw[MU hw] at q;exact⟨"tuple",_,Xd.lookup,ht.typeIs,HT.JF ht hs pl pu (by rw[hlen];exact hw) ⟨.ref a,H,I,rfl,q.here hx⟩⟩
 ·exact vE pins s σ H _ v vl vu lo hi sl Q I rx hs pl pu ⟨a,xs,rfl,hx,hw,λp hp=>q.new hp⟩
noncomputable def Te (K:Frag) (te:TE):TE:=fun σ H Q=>te σ H λx H1=>∃a xs,x=.ref a/\aZ K H1 a xs/\kj K H1 xs.reverse Q
theorem Qe (he:PE X e te):PE X (.Subscript e (.Slice none none (some (.UnaryOp .USub (.Constant (.int 1) 0 p4) p3)) p2) pos) (Te X.K te):=by
 intro pins s σ H Q I h;refine Subscript_ (aK (he pins s σ H _ I h) λv s1 ⟨x,H1,I1,r1,q1⟩=>?_);obtain⟨a,xs,rfl,hx,q⟩:=q1;cases r1;refine wpAny_Slice ?_;rw[evalPart_none];refine WG (WG ?_);have step:PE X (.UnaryOp .USub (.Constant (.int 1) 0 p4) p3) (ID (rU λi=>.int (-i)) (tC (.int 1))):=Hf Gh yP;rw[evalPart_some];refine aK (step pins s1 σ H1 (λy H2=>y=.int (-1)/\H2=H1) I1 ⟨1,rfl,rfl,rfl⟩) λu s2 ⟨y,H2,I2,r2,e1,e2⟩=>?_;subst e1 e2;obtain⟨tk,rfl⟩:=r2
 have I4:Inv X pins σ H2 { s2 with heap:=s2.heap.push { cls:=.type "slice",data:=.fields #[.none,.none,.int (-1) tk] } }:=I2.kept (t':=s2.toks) λb ob q=>WE _ q
 obtain⟨its,r,ht,hz⟩:=I4.tuple hx;have hlen:its.toArray.size=xs.length:=by rw[W2];exact r.length.symm
 have i7:Heap.IsSliceOf (s2.heap.push { cls:=.type "slice",data:=.fields #[.none,.none,.int (-1) tk] }) s2.heap.objs.size .none .none (.int (-1) tk):=Heap.IsSliceOf.new ..;refine tail_any (ops:=[.ref a,.ref s2.heap.objs.size]) ht.typeIs Xd.lookup (HT.JB ht i7 ?_ (by rw[hlen];exact hz)) (by with_unfolding_all rfl);refine⟨.ref _,_,I4.laid (t':=s2.toks) (o:=.tup xs.reverse) (λb ob q=>WE _ q) (Nat.le_refl _) ?_,rfl,q.new (I4.aM.fresh (Nat.le_refl _))⟩;refine⟨by rw[List.length_reverse];exact hz,its.reverse,?_,IsTup.new _ _⟩;clear q ht hlen hx i7 hz
 induction r with
 |nil=>exact .nil
 |cons h t ih =>
  rw[aao,aao];exact Vals.append ih (.cons h .nil)
noncomputable def RF (K:Frag):R2:=λx y H Q=>∃a b xs ys,x=.ref a/\y=.ref b/\aZ K H a xs/\aZ K H b ys/\xs.length+ys.length<=WX/\kj K H (xs++ys) Q
theorem Og:bE X (YB .Add) (RF X.K):=by
 intro pins s σ H x y v u Q I rx ry h;obtain⟨a,b,xs,ys,rfl,rfl,ha,hb,hz,q⟩:=h;by_cases hx:xs=[]
 ·subst hx
  cases rx;cases ry;obtain⟨its,r1,p1,_⟩:=I.tuple ha;obtain⟨nR,r2,p2,_⟩:=I.tuple hb;cases r1;obtain⟨⟨cls,dd,data,sl⟩,ho,hc,n,hd⟩:=id p1;obtain⟨⟨HR,mM,data2,cC⟩,ju,mO,n2,hd2⟩:=id p2;simp only at hc hd mO hd2;subst hc hd mO hd2;exact concat_meets ⟨_,ho,rfl⟩ ⟨_,ju,rfl⟩ noFill_tuple_add seq_tuple_add aah Z7 (Z3 _ _)
   (tuple_addW0 a b _ nR.toArray n n2 dd mM sl cC (by simp)) ⟨ho,ju,⟨.ref b,H,I,rfl,q.here hb⟩⟩
 ·refine Ob pins s σ H _ _ v u Q I rx ry ⟨a,b,xs,ys,rfl,rfl,ha,hb,hx,hz,λe=>?_,λ_ p hp=>q.new hp⟩
  subst e;rw[Yb] at q;exact q.here ha
end
end L2
namespace HZ
open PySem PySem.Spec PyProof.Rows
structure kC (P:Xf) (w:World) (A:Xv) (i l:Addr) (tn:Nat->Heap->Prop) (val:Nat->Option Value):Prop where
 keep:∀k h h',tn k h->(∀o,h.get? i=some o->h'.get? i=some o)->(∀o,h.get? l=some o->h'.get? l=some o)->tn k h'
 item:∀k (s:WI) (Q:Value->WI->Prop) (E:Value->WI->Prop) x,tn k s.heap->val k=some x->(∀h',tn (k+1) h'->Yp i s.heap h'->Q x { s with heap:=h' })->wpAny (model P w) A (XM (.ref i)) Q E s
 stop:∀k (s:WI) (Q:Value->WI->Prop) (E:Value->WI->Prop),tn k s.heap->val k=none->(∀h' e,aap i s.heap h'->(∃o,h'.get? e=some o/\o.cls=.type "StopIteration")->E (.ref e) { s with heap:=h' })->wpAny (model P w) A (XM (.ref i)) Q E s
 obj:∀k h,tn k h->∃o,h.get? i=some o/\∀v,o.data≠.cell v
section
variable {P:Xf} {w:World} {A:Xv} {E:Value->WI->Prop} {s:WI}
theorem KY {it t:Addr} {k:Nat} {its:Array Value} {x:Value} {Q:Value->WI->Prop} (g:s.heap.IsTupleIter it t k) (gt:s.heap.IsTuple t its) (gx:its[k]?=some x)
  (q:∀h',h'.IsTupleIter it t (k+1)->Yp it s.heap h'->Q x { s with heap:=h' }):wpAny (model P w) A (XM (.ref it)) Q E s:=by
 obtain⟨o,go,gc,gd⟩:=id g;obtain⟨ol,AN,_,nl,AO⟩:=gt;unfold XM;refine WD (Xp (name:=XC "__next__") g.typeIs YR
  (Xs YR g.typeIs F.entry_tuple_iterator_next ?_ (F.args_tuple_iterator_next_1 _)))
 show wpAny _ _ (field (.ref it) 0 >>= _) _ _ _;refine WD (XY go gd (x:=.ref t) rfl ?_)
 show wpAny _ _ (if (Zn t==Value.none)=true then _ else _) _ _ _
 rw[if_neg (λz:(Zn t==Value.none)=true=>WV z)];show wpAny _ _ (field (.ref it) 1 >>= _) _ _ _;refine WD (XY go gd (x:=.int k 0) rfl ?_);show wpAny _ _ (seqItems? (.ref t) >>= _) _ _ _;refine WD (Yr AN AO ?_);simp only[Xm,gx];refine WD (YI go gd (by simp) (WG ⟨x,rfl,WG (q _ ?_ (X0 ..))⟩));exact⟨_,X6 _ go (Yu (XI gd _)),(ZK ..).trans gc,by rw[XI gd];simp[YA]⟩
theorem JG {it t:Addr} {k:Nat} {its:Array Value} {Q:Value->WI->Prop} (gh:A.handled=none) (g:s.heap.IsTupleIter it t k) (gt:s.heap.IsTuple t its) (gx:its[k]?=none)
  (q:∀h' e,aap it s.heap h'->(∃o,h'.get? e=some o/\o.cls=.type "StopIteration")->E (.ref e) { s with heap:=h' }):wpAny (model P w) A (XM (.ref it)) Q E s:=by
 obtain⟨o,go,gc,gd⟩:=id g;obtain⟨ol,AN,_,nl,AO⟩:=gt;unfold XM;refine WD (Xp (name:=XC "__next__") g.typeIs YR
  (Xs YR g.typeIs F.entry_tuple_iterator_next ?_ (F.args_tuple_iterator_next_1 _)))
 show wpAny _ _ (field (.ref it) 0 >>= _) _ _ _;refine WD (XY go gd (x:=.ref t) rfl ?_)
 show wpAny _ _ (if (Zn t==Value.none)=true then _ else _) _ _ _
 rw[if_neg (λz:(Zn t==Value.none)=true=>WV z)];show wpAny _ _ (field (.ref it) 1 >>= _) _ _ _;refine WD (XY go gd (x:=.int k 0) rfl ?_);show wpAny _ _ (seqItems? (.ref t) >>= _) _ _ _;refine WD (Yr AN AO ?_);simp only[Xm,gx];refine WD (YV (WD (YI go gd (by simp) ?_)));show wpAny _ _ (newExc (.type "StopIteration") [] >>= _) _ _ (_:WI);refine WD ?_;simp only[newExc,newTuple];refine WD (W8 ?_ (by size_fits))
 refine WD (m:=ZS _ _) (Zk (a:=Value.none) (by first|rfl | (unfold ZS;rfl)) ?_)
 refine W8 ?_ (by size_fits);simp only[raiseNew];refine WD (wpAny_handled ?_)
 first|rw[gh]|rw[show A.in1.handled=none from gh]
 refine WD (WG (wpAny_throw ?_));exact q _ _ (((X0 ..).extBut.push _).push _) ⟨_,WN _ rfl,rfl⟩
theorem ve (gh:A.handled=none) (i l:Addr) (its:Array Value):kC P w A i l (λk h=>h.IsTupleIter i l k/\h.IsTuple l its) (λk=>its[k]?) where
 keep:=λk h h' st k1 k2=>⟨st.1.at k1,by obtain⟨o,e,r⟩:=st.2;exact⟨o,k2 o e,r⟩⟩
 item:=λk s Q E x st e q=>KY st.1 st.2 e λh' g sb=>by
  by_cases hl:l=i
  ·exfalso
   subst hl;obtain⟨o,e1,c1,_⟩:=st.1;obtain⟨o',e2,c2,_⟩:=st.2;rw[e1] at e2;cases e2;rw[c1] at c2;simp at c2
  ·obtain⟨o,e2,r⟩:=st.2
   exact q h' ⟨g,o,(sb.2 l hl).trans e2,r⟩ sb
 stop:=λk s Q E st e q=>JG gh st.1 st.2 e q
 obj:=λk h st=>by
  obtain⟨o,e,_,d⟩:=st.1;exact⟨o,e,λv z=>by rw[d] at z;cases z⟩
theorem vf (gh:A.handled=none) (i l:Addr) (its:Array Value):kC P w A i l (λk h=>h.IsListIter i l k/\h.IsList l its) (λk=>its[k]?) where
 keep:=λk h h' st k1 k2=>⟨st.1.at k1,st.2.at k2⟩
 item:=λk s Q E x st e q=>wpAny_nextOf_list_item st.1 st.2 e λh' g sb=>by
  by_cases hl:l=i
  ·exfalso
   subst hl;obtain⟨o,e1,c1,_⟩:=st.1;obtain⟨o',e2,c2,_⟩:=st.2;rw[e1] at e2;cases e2;rw[c1] at c2;simp at c2
  ·exact q h' ⟨g,st.2.at λo e2=>(sb.2 l hl).trans e2⟩ sb
 stop:=λk s Q E st e q=>wpAny_nextOf_list_end gh st.1 st.2 e q
 obj:=λk h st=>by
  obtain⟨o,e,_,d⟩:=st.1;exact⟨o,e,λv z=>by rw[d] at z;cases z⟩
structure Apart (z ti to j1 j2 m1 m2:Addr):Prop where
 a1:ti≠z
 a2:to≠z
 a3:j1≠z
 a4:j2≠z
 a5:ti≠to
 a6:ti≠j1
 a7:ti≠j2
 a8:to≠j1
 a9:to≠j2
 b0:j1≠j2
 b1:m1≠z
 b2:m1≠to
 b3:m1≠j1
 b4:m1≠j2
 b5:m2≠z
 b6:m2≠to
 b7:m2≠j1
 b8:m2≠j2
theorem MV {z ti to j1 j2 m1 m2:Addr} {t1 t2:Nat->Heap->Prop} {v1 v2:Nat->Option Value} {k:Nat} {x y a b:Value} {Q:Value->WI->Prop} (D:Apart z ti to j1 j2 m1 m2) (S1:kC P w A j1 m1 t1 v1) (S2:kC P w A j2 m2 t2 v2)
  (gz:IsZip s.heap z ti to .none) (gi:ZT s.heap ti (.ref j1) (.ref j2)) (go:ZT s.heap to a b) (h1:t1 k s.heap) (h2:t2 k s.heap) (hx:v1 k=some x) (hy:v2 k=some y)
  (q:∀h',IsZip h' z ti to (YA s.heap.objs.size)->ZT h' to x y->t1 (k+1) h'->t2 (k+1) h'->ZT h' s.heap.objs.size x y->h'.objs.size=s.heap.objs.size+1 ->
   (∀c o,c≠z->c≠to->c≠j1->c≠j2->s.heap.get? c=some o->h'.get? c=some o)->Q (.ref s.heap.objs.size) { s with heap:=h' }) :
  wpAny (model P w) A (YS.«zip.__next__» ⟨[.ref z],[]⟩) (λfin s'=>∃v,fin=.done (.ret v)/\Q v s') E s:=by
 show wpAny _ _ (field (.ref z) 2 >>= _) _ _ (_:WI);refine WD (XY gz rfl (x:=.bool false) rfl ?_);show wpAny _ _ (field (.ref z) 3 >>= _) _ _ (_:WI);refine WD (XY gz rfl (x:=.ref ti) rfl ?_);refine WD (Yr gi rfl ?_);show wpAny _ _ (Yt (.ref z) >>= _) _ _ (_:WI);refine WD ?_;unfold Yt;refine WD (XY gz rfl (x:=.none) rfl (WG ?_));simp only[if_true];refine WD (YV ?_);refine WD (XY gz rfl (x:=.ref to) rfl ?_);refine WD (Y0 gz (by simp) λp1 z1 s1=>?_)
 replace z1:IsZip p1 z ti to .ellipsis:=z1
 refine WD ?_;simp only[List.zipIdx_cons,List.zipIdx_nil,List.forIn_cons,List.forIn_nil];refine WD (WD (wpAny_onRaise ?_));show wpAny _ _ (XM (.ref j1) >>= _) _ _ (_:WI);refine WD (S1.item k _ _ _ x (S1.keep k _ _ h1 (λo e=>s1.extBut _ _ D.a3 e) (λo e=>s1.extBut _ _ D.b1 e)) hx λp2 mS s2=>WG ?_);have o2:ZT p2 to a b:=s2.extBut _ _ D.a8 (s1.extBut _ _ D.a2 go);refine WD (Yr o2 rfl ?_);refine WD (wpAny_updateSeq_pair o2 λp3 o3 s3=>?_)
 replace o3:ZT p3 to x b:=o3
 refine WD (wpAny_letGo (WG ?_));refine WD (WD (wpAny_onRaise ?_));show wpAny _ _ (XM (.ref j2) >>= _) _ _ (_:WI);refine WD (S2.item k _ _ _ y (S2.keep k _ _ h2 (λo e=>s3.extBut _ _ D.a9.symm (s2.extBut _ _ D.b0.symm (s1.extBut _ _ D.a4 e))) (λo e=>s3.extBut _ _ D.b6 (s2.extBut _ _ D.b7 (s1.extBut _ _ D.b5 e)))) hy λp4 Ue s4=>WG ?_);have o4:ZT p4 to x b:=s4.extBut _ _ D.a9 o3;refine WD (Yr o4 rfl ?_);refine WD (wpAny_updateSeq_pair o4 λp5 o5 s5=>?_)
 replace o5:ZT p5 to x y:=o5
 refine WD (wpAny_letGo (WG (WG ?_)));refine WD (Yr o5 rfl ?_);refine WD (wpAny_newTuple ?_);have gs:p5.objs.size=s.heap.objs.size:=by rw[s5.1,s4.1,s3.1,s2.1,s1.1]
 have z5:IsZip p5 z ti to .ellipsis:=s5.extBut _ _ D.a2.symm (s4.extBut _ _ D.a4.symm (s3.extBut _ _ D.a2.symm (s2.extBut _ _ D.a3.symm z1)));have k5:∀c o,c≠z->c≠to->c≠j1->c≠j2->s.heap.get? c=some o->p5.get? c=some o:=λc o c1 c2 c3 c4 e=>s5.extBut _ _ c2 (s4.extBut _ _ c4 (s3.extBut _ _ c2 (s2.extBut _ _ c3 (s1.extBut _ _ c1 e))));have Ug:t1 (k+1) p5:=S1.keep _ _ _ mS (λo e=>s5.extBut _ _ D.a8.symm (s4.extBut _ _ D.b0 (s3.extBut _ _ D.a8.symm e))) (λo e=>s5.extBut _ _ D.b2 (s4.extBut _ _ D.b4 (s3.extBut _ _ D.b2 e)));have Uh:t2 (k+1) p5:=S2.keep _ _ _ Ue (λo e=>s5.extBut _ _ D.a9.symm e) (λo e=>s5.extBut _ _ D.b6 e);have lz:z<p5.objs.size:=WS z5;show wpAny _ _ (ZU (.ref z) (.ref p5.objs.size) >>= _) _ _ (_:WI);refine WD ?_;unfold ZU;have z6:IsZip (p5.push { cls:=.type "tuple",data:=.seq #[x,y] }) z ti to .ellipsis:=WE _ z5;refine WD (Y0 z6 (by simp) λp7 z7 s7=>?_)
 replace z7:IsZip p7 z ti to (YA p5.objs.size):=z7
 refine Y0 z7 (by simp) λp8 z8 s8=>?_
 replace z8:IsZip p8 z ti to (YA p5.objs.size):=z8
 have up:∀c o,c≠z->p5.get? c=some o->p8.get? c=some o:=λc o c1 e=>s8.extBut _ _ c1 (s7.extBut _ _ c1 (WE _ e));have w8:ZT p8 p5.objs.size x y:=s8.extBut _ _ (YH lz) (s7.extBut _ _ (YH lz) (WN _ rfl));have n8:p8.objs.size=p5.objs.size+1:=by rw[s8.1,s7.1,XU]
 rw[gs] at z8 w8 n8;refine WG ⟨_,rfl,?_⟩;show Q (.ref p5.objs.size) _;rw[gs];exact q p8 z8 (up _ _ D.a2 o5) (S1.keep _ _ _ Ug (λo e=>up _ o D.a3 e) (λo e=>up _ o D.b1 e)) (S2.keep _ _ _ Uh (λo e=>up _ o D.a4 e) (λo e=>up _ o D.b5 e)) w8 n8 λc o c1 c2 c3 c4 e=>up c o c1 (k5 c o c1 c2 c3 c4 e)
theorem Oh {z ti to j1 j2 m1 m2:Addr} {t1 t2:Nat->Heap->Prop} {v1 v2:Nat->Option Value} {k:Nat} {a b:Value} {Q:Fin->WI->Prop} (D:Apart z ti to j1 j2 m1 m2) (S1:kC P w A j1 m1 t1 v1) (S2:kC P w A j2 m2 t2 v2)
  (gz:IsZip s.heap z ti to .none) (gi:ZT s.heap ti (.ref j1) (.ref j2)) (go:ZT s.heap to a b) (h1:t1 k s.heap) (h2:t2 k s.heap) (Ab:v1 k=none\/v2 k=none)
  (q:∀h' e,(∀c o,c≠z->c≠to->c≠j1->c≠j2->s.heap.get? c=some o->h'.get? c=some o)->(∃o,h'.get? e=some o/\o.cls=.type "StopIteration")->E (.ref e) { s with heap:=h' }) :
  wpAny (model P w) A (YS.«zip.__next__» ⟨[.ref z],[]⟩) Q E s:=by
 show wpAny _ _ (field (.ref z) 2 >>= _) _ _ (_:WI);refine WD (XY gz rfl (x:=.bool false) rfl ?_);show wpAny _ _ (field (.ref z) 3 >>= _) _ _ (_:WI);refine WD (XY gz rfl (x:=.ref ti) rfl ?_);refine WD (Yr gi rfl ?_);show wpAny _ _ (Yt (.ref z) >>= _) _ _ (_:WI);refine WD ?_;unfold Yt;refine WD (XY gz rfl (x:=.none) rfl (WG ?_));simp only[if_true];refine WD (YV ?_);refine WD (XY gz rfl (x:=.ref to) rfl ?_);refine WD (Y0 gz (by simp) λp1 z1 s1=>?_)
 replace z1:IsZip p1 z ti to .ellipsis:=z1
 refine WD ?_;simp only[List.zipIdx_cons,List.zipIdx_nil,List.forIn_cons,List.forIn_nil];refine WD (WD (wpAny_onRaise ?_));show wpAny _ _ (XM (.ref j1) >>= _) _ _ (_:WI);have mT:t1 k p1:=S1.keep k _ _ h1 (λo e=>s1.extBut _ _ D.a3 e) (λo e=>s1.extBut _ _ D.b1 e)
 cases hx:v1 k with
 |none =>
  refine WD (S1.stop k _ _ _ mT hx λp2 e s2 he=>?_);obtain⟨oe,g1,g2⟩:=he;have z2:IsZip p2 z ti to .ellipsis:=s2 _ _ D.a3.symm z1;have ne:e≠z:=λu=>by subst u;rw[z2] at g1;cases g1;simp at g2
  refine Y0 z2 (by simp) λp3 _ s3=>q p3 e (λc o c1 _ c3 _ u=>s3.extBut _ _ c1 (s2 _ _ c3 (s1.extBut _ _ c1 u))) ⟨oe,s3.extBut _ _ ne g1,g2⟩
 |some x =>
  have hy:v2 k=none:=by
   rcases Ab with h|h
   ·rw[hx] at h;cases h
   ·exact h
  refine WD (S1.item k _ _ _ x mT hx λp2 mS s2=>WG ?_);have o2:ZT p2 to a b:=s2.extBut _ _ D.a8 (s1.extBut _ _ D.a2 go);refine WD (Yr o2 rfl ?_);refine WD (wpAny_updateSeq_pair o2 λp3 o3 s3=>?_);refine WD (wpAny_letGo (WG ?_));refine WD (WD (wpAny_onRaise ?_));show wpAny _ _ (XM (.ref j2) >>= _) _ _ (_:WI);refine WD (S2.stop k _ _ _ (S2.keep k _ _ h2 (λo e=>s3.extBut _ _ D.a9.symm (s2.extBut _ _ D.b0.symm (s1.extBut _ _ D.a4 e))) (λo e=>s3.extBut _ _ D.b6 (s2.extBut _ _ D.b7 (s1.extBut _ _ D.b5 e)))) hy λp4 e s4 he=>?_);obtain⟨oe,g1,g2⟩:=he;have z4:IsZip p4 z ti to .ellipsis:=s4 _ _ D.a4.symm (s3.extBut _ _ D.a2.symm (s2.extBut _ _ D.a3.symm z1));have ne:e≠z:=λu=>by subst u;rw[z4] at g1;cases g1;simp at g2
  refine Y0 z4 (by simp) λp5 _ s5=>q p5 e (λc o c1 c2 c3 c4 u=>s5.extBut _ _ c1 (s4 _ _ c4 (s3.extBut _ _ c2 (s2.extBut _ _ c3 (s1.extBut _ _ c1 u))))) ⟨oe,s5.extBut _ _ ne g1,g2⟩
theorem next_item {z ti to j1 j2 m1 m2:Addr} {t1 t2:Nat->Heap->Prop} {v1 v2:Nat->Option Value} {k:Nat} {x y a b:Value} {Q:Option Value->WI->Prop} (D:Apart z ti to j1 j2 m1 m2) (S1:kC P w A.in1 j1 m1 t1 v1) (S2:kC P w A.in1 j2 m2 t2 v2)
  (gz:IsZip s.heap z ti to .none) (gi:ZT s.heap ti (.ref j1) (.ref j2)) (go:ZT s.heap to a b) (h1:t1 k s.heap) (h2:t2 k s.heap) (hx:v1 k=some x) (hy:v2 k=some y)
  (q:∀h',IsZip h' z ti to (YA s.heap.objs.size)->ZT h' to x y->t1 (k+1) h'->t2 (k+1) h'->ZT h' s.heap.objs.size x y->h'.objs.size=s.heap.objs.size+1 ->
   (∀c o,c≠z->c≠to->c≠j1->c≠j2->s.heap.get? c=some o->h'.get? c=some o)->Q (some (.ref s.heap.objs.size)) { s with heap:=h' }):wpAny (model P w) A (Zy (.ref z)) Q E s:=by
 have hT:s.TypeIs (.ref z) "zip":=⟨_,gz,rfl⟩;unfold Zy;exact WD (Zl (Xp (name:=XC "__next__") hT aaY
  (Xs aaY hT F.entry_zip_next (MV D S1 S2 gz gi go h1 h2 hx hy λh' a1 a2 a3 a4 a5 a6 a7=>WG (q h' a1 a2 a3 a4 a5 a6 a7)) (F.args_zip_next_1 _))))
theorem next_end {z ti to j1 j2 m1 m2:Addr} {t1 t2:Nat->Heap->Prop} {v1 v2:Nat->Option Value} {k:Nat} {a b:Value} {Q:Option Value->WI->Prop} (D:Apart z ti to j1 j2 m1 m2) (S1:kC P w A.in1 j1 m1 t1 v1) (S2:kC P w A.in1 j2 m2 t2 v2)
  (gz:IsZip s.heap z ti to .none) (gi:ZT s.heap ti (.ref j1) (.ref j2)) (go:ZT s.heap to a b) (h1:t1 k s.heap) (h2:t2 k s.heap) (Ab:v1 k=none\/v2 k=none)
  (q:∀h',(∀c o,c≠z->c≠to->c≠j1->c≠j2->s.heap.get? c=some o->h'.get? c=some o)->Q none { s with heap:=h' }):wpAny (model P w) A (Zy (.ref z)) Q E s:=by
 have hT:s.TypeIs (.ref z) "zip":=⟨_,gz,rfl⟩;unfold Zy;refine WD (Zl (Xp (name:=XC "__next__") hT aaY
  (Xs aaY hT F.entry_zip_next (Oh D S1 S2 gz gi go h1 h2 Ab λh' e hk he=>?_) (F.args_zip_next_1 _))))
 obtain⟨o,ho,hc⟩:=he;exact WD (ZY (T:="StopIteration") (b:=true) ⟨o,ho,hc⟩ isSubtype_stop (WG (q _ hk)))
end
end HZ
namespace L2
open PySem PySem.Spec PyProof.Rows
theorem vF {X:Cx} {pins:List (Addr×Obj)} {σ:St} {H:Hp} {s:WI} {a b:Addr} {xs:List V} (I:Inv X pins σ H s) (h:aZ X.K H a xs) (f:fT X pins H b):a≠b:=by
 rintro rfl;obtain⟨f0,_,_,f3,_⟩:=f
 rcases h with (h | ⟨o,h⟩) | ⟨o,its,n,hk,_⟩
 ·rw[f0] at h;cases h
 ·rw[f0] at h;cases h
 ·have hb:=I.mod.sD a o hk
  rcases f3 with z|z
  ·exact I.ok.mz a o hb z
  ·exact absurd (WL (WS hb) (W7 I.ok.jr z)) (Xk _)
theorem vG {X:Cx} {pins:List (Addr×Obj)} {σ:St} {H:Hp} {s:WI} {a b:Addr} {xs:List V} (I:Inv X pins σ H s) (h:ba X.K H a xs) (f:fT X pins H b):a≠b:=by
 rintro rfl;obtain⟨f0,_,_,f3,_⟩:=f
 rcases h with (h | ⟨o,h⟩) | ⟨o,its,n,hk,_⟩
 ·rw[f0] at h;cases h
 ·rw[f0] at h;cases h
 ·have hb:=I.mod.sD a o hk
  rcases f3 with z|z
  ·exact I.ok.mz a o hb z
  ·exact absurd (WL (WS hb) (W7 I.ok.jr z)) (Xk _)
theorem Inv.xG {X:Cx} {pins:List (Addr×Obj)} {σ:St} {H:Hp} {s:WI} {h':Heap} {t':Nat} {ch:List Addr} (I:Inv X pins σ H s) (k:∀b o,b∉ch->s.heap.get? b=some o->h'.get? b=some o) (hf:∀b∈ch,fT X pins H b) :
  Inv X pins σ H { s with heap:=h',toks:=t' }:=by
 have IQ:∀b u,H b=some u->b∉ch:=λb u e z=>by rw[(hf b z).1] at e;cases e
 refine I.step (g':=s.gens) (d':=s.drawn) (ch:=ch) (λb hb=>?_) (λb o _ _ hc e _=>k b o hc e) (λb o _ _ hc e _=>⟨o.slots,k b o hc e⟩) (λ_ _ _ _ n=>n) (λb o hc e=>⟨o,k b o hc e⟩) (λ_ _ e=>e) (λ_ _ _ e=>e)
  (λb ps e=>⟨#[],by rw[e];simp⟩) (λm hm=>?_) (λb u e=>?_) I.bare
 ·obtain⟨_,f1,_,f3,f4,f5⟩:=hf b hb
  exact⟨f3,f1,f4,f5⟩
 ·obtain⟨o,es,ep,ho,r⟩:=hm
  exact⟨o,es,ep,k _ o (λz=>(hf _ z).2.1 rfl) ho,r⟩
 ·refine(I.aM b u e).gM (λc v hc q=>k c v ?_ q) (λ_ q=>q) λ_ _ q=>q
  rcases hc with z|z
  ·rw[z];exact IQ b u e
  ·exact IQ c _ z
theorem Inv.DN {X:Cx} {pins:List (Addr×Obj)} {σ:St} {H:Hp} {s:WI} {h':Heap} {t':Nat} {ch:List Addr} {p:Addr} {u:HO} (I:Inv X pins σ H s) (k:∀b o,b∉ch->s.heap.get? b=some o->h'.get? b=some o) (hf:∀b∈ch,fT X pins H b)
  (hp:s.heap.objs.size<=p) (new:dD X.prog X.w (upd H p u) h' p u):Inv X pins σ (upd H p u) { s with heap:=h',toks:=t' }:=by
 have hn:H p=none:=I.aM.fresh hp;have aM:cA X.prog X.w (upd H p u) h':=(I.xG (t':=t') k hf).aM.adopt hn new;refine I.step (g':=s.gens) (d':=s.drawn) (ch:=ch) (λb hb=>?_) (λb o _ _ hc e _=>k b o hc e) (λb o _ _ hc e _=>⟨o.slots,k b o hc e⟩) (λb o _ e n=>?_) (λb o hc e=>⟨o,k b o hc e⟩) (λc xs e=>by rw[bF (eO e hn)];exact e) (λc o v e=>by rw[bF (eO e hn)];exact e)
  (λc ps e=>⟨#[],by rw[bF (eO e hn),e];simp⟩) (λm hm=>?_) aM I.bare
 ·obtain⟨_,f1,_,f3,f4,f5⟩:=hf b hb
  exact⟨f3,f1,f4,f5⟩
 ·rw[bF (Xe (WL (WS e) hp))]
  exact n
 ·obtain⟨o,es,ep,ho,r⟩:=hm
  exact⟨o,es,ep,k _ o (λz=>(hf _ z).2.1 rfl) ho,r⟩
noncomputable def Ac (K:Frag) (a b:Addr):It :=
 ⟨λi H=>∃xs ys x y,aZ K H a xs/\aZ K H b ys/\xs[i]?=some x/\ys[i]?=some y,λi H v H'=>∃p x y,H p=none/\v=.ref p/\H'=upd H p (.tup [x,y])/\∀xs ys,aZ K H a xs->aZ K H b ys->xs[i]?=some x/\ys[i]?=some y,
  λi H=>∃xs ys,aZ K H a xs/\aZ K H b ys/\(xs.length<=i\/ys.length<=i)⟩
noncomputable def Ad (K:Frag) (a b:Addr):It :=
 ⟨λi H=>∃xs ys x y,ba K H a xs/\ba K H b ys/\xs[i]?=some x/\ys[i]?=some y,λi H v H'=>∃p x y,H p=none/\v=.ref p/\H'=upd H p (.tup [x,y])/\∀xs ys,ba K H a xs->ba K H b ys->xs[i]?=some x/\ys[i]?=some y,
  λi H=>∃xs ys,ba K H a xs/\ba K H b ys/\(xs.length<=i\/ys.length<=i)⟩
structure Hg (it:Nat->Heap->Prop) (f9:Nat->Heap->Prop) (z ti to j1 j2:Addr) (i:Nat) (h:Heap):Prop where
 z:IsZip h z ti to .none
 ti:ZT h ti (.ref j1) (.ref j2)
 to:∃u v,ZT h to u v
 h1:it i h
 h2:f9 i h
structure Ae (z ti to j1 j2:Addr):Prop where
 a1:ti≠z
 a2:to≠z
 a3:j1≠z
 a4:j2≠z
 a5:ti≠to
 a6:ti≠j1
 a7:ti≠j2
 a8:to≠j1
 a9:to≠j2
 b0:j1≠j2
theorem LF {P:Xf} {w:World} {K:Frag} {elts:List Expr} {kk:Nat} {pos:Pos} (a b z ti to j1 j2:Addr) (F:Ae z ti to j1 j2) :
  Turn P w K (.Tuple elts kk pos) (Ac K a b) [z,ti,to,j1,j2] z (Hg (λi h=>h.IsTupleIter j1 a i) (λi h=>h.IsTupleIter j2 b i) z ti to j1 j2) where
 mem:=by simp
 obj:=λi h st c hc=>by
  have iC:c=z\/c=ti\/c=to\/c=j1\/c=j2:=by simpa using hc
  rcases iC with rfl|rfl|rfl|rfl|rfl
  ·exact⟨_,st.z,λv q=>nomatch q⟩
  ·exact⟨_,st.ti,λv q=>nomatch q⟩
  ·obtain⟨u,v,q⟩:=st.to;exact⟨_,q,λv q=>nomatch q⟩
  ·obtain⟨o,e,_,d⟩:=st.h1;exact⟨o,e,λv q=>by rw[d] at q;cases q⟩
  ·obtain⟨o,e,_,d⟩:=st.h2;exact⟨o,e,λv q=>by rw[d] at q;cases q⟩
 keep:=λi h h' st k=>⟨k z (by simp) _ st.z,k ti (by simp) _ st.ti,by obtain⟨u,v,q⟩:=st.to;exact⟨u,v,k to (by simp) _ q⟩,st.h1.at λo e=>k j1 (by simp) o e,st.h2.at λo e=>k j2 (by simp) o e⟩
 item:=by
  intro X hP hw hK hc i pins s σ H E I hf st hg;subst hP hw hK;obtain⟨xs,ys,x,y,hx,hy,ex,ey⟩:=hg;obtain⟨i1,r1,p1,z1⟩:=I.tuple hx;obtain⟨i2,r2,p2,z2⟩:=I.tuple hy;obtain⟨u,eu,ru⟩:=r1.get ex;obtain⟨v,ev,rv⟩:=r2.get ey;have ne:∀c∈[z,ti,to,j1,j2],a≠c/\b≠c:=λc gG=>⟨vF I hx (hf c gG),vF I hy (hf c gG)⟩;have D:HZ.Apart z ti to j1 j2 a b:=⟨F.a1,F.a2,F.a3,F.a4,F.a5,F.a6,F.a7,F.a8,F.a9,F.b0,(ne z (by simp)).1,(ne to (by simp)).1,(ne j1 (by simp)).1,(ne j2 (by simp)).1,(ne z (by simp)).2,(ne to (by simp)).2,(ne j1 (by simp)).2,(ne j2 (by simp)).2⟩;obtain⟨w1,w2,lT⟩:=st.to;have hh:X.A.in1.handled=none:=I.ok.hd hc;refine HZ.next_item D (HZ.ve hh j1 a i1.toArray) (HZ.ve hh j2 b i2.toArray) st.z st.ti lT ⟨st.h1,p1⟩ ⟨st.h2,p2⟩ (by simpa using eu) (by simpa using ev) λh' c1 c2 c3 c4 c5 c6 c7=>⟨_,rfl,?_⟩;refine wpAny_letOwnedTupleGo_zip c1 λh2 d1 d2=>?_;have hn:H s.heap.objs.size=none:=I.aM.fresh (Nat.le_refl _);have AQ:z<s.heap.objs.size:=WS st.z;have lQ:IsTup h2 s.heap.objs.size #[u,v]:=⟨_,d2.extBut _ _ (YH AQ) c5,rfl,_,rfl⟩
  have I2:Inv X pins σ (upd H s.heap.objs.size (.tup [x,y])) { s with heap:=h2,toks:=s.toks }:=I.DN (ch:=[z,ti,to,j1,j2]) (λc o ow e=>by
   have q:c≠z/\c≠ti/\c≠to/\c≠j1/\c≠j2:=by simpa using ow
   exact d2.extBut c o q.1 (c7 c o q.1 q.2.2.1 q.2.2.2.1 q.2.2.2.2 e)) hf (Nat.le_refl _) ⟨by show 2<=WX;decide,[u,v],.cons ru (.cons rv .nil),lQ⟩
  refine⟨.ref s.heap.objs.size,_,I2,rfl,⟨_,x,y,hn,rfl,rfl,λs9 tj q1 q2=>?_⟩,?_,λc gG=>?_⟩
  ·rw[I.xE q1 hx,I.xE q2 hy];exact⟨ex,ey⟩
  ·refine⟨d1,d2.extBut _ _ F.a1 (c7 _ _ F.a1 F.a5 F.a6 F.a7 st.ti),⟨_,_,d2.extBut _ _ F.a2 c2⟩,c3.1.extBut d2.extBut F.a3,c4.1.extBut d2.extBut F.a4⟩
  ·rw[bF]
   ·exact(hf c gG).1
   ·intro e
    obtain⟨o,eo⟩:∃o,s.heap.get? c=some o:=by
     have iC:c=z\/c=ti\/c=to\/c=j1\/c=j2:=by simpa using gG
     rcases iC with q|q|q|q|q
     ·rw[q];exact⟨_,st.z⟩
     ·rw[q];exact⟨_,st.ti⟩
     ·rw[q];exact⟨_,lT⟩
     ·rw[q];obtain⟨o,e,_⟩:=st.h1;exact⟨o,e⟩
     ·rw[q];obtain⟨o,e,_⟩:=st.h2;exact⟨o,e⟩
    exact absurd (WS eo) (by rw[e];exact Xk _)
 done:=by
  intro X hP hw hK hc i pins s σ H E I hf st hg;subst hP hw hK;obtain⟨xs,ys,hx,hy,hle⟩:=hg;obtain⟨i1,r1,p1,z1⟩:=I.tuple hx;obtain⟨i2,r2,p2,z2⟩:=I.tuple hy;have ne:∀c∈[z,ti,to,j1,j2],a≠c/\b≠c:=λc gG=>⟨vF I hx (hf c gG),vF I hy (hf c gG)⟩;have D:HZ.Apart z ti to j1 j2 a b:=⟨F.a1,F.a2,F.a3,F.a4,F.a5,F.a6,F.a7,F.a8,F.a9,F.b0,(ne z (by simp)).1,(ne to (by simp)).1,(ne j1 (by simp)).1,(ne j2 (by simp)).1,(ne z (by simp)).2,(ne to (by simp)).2,(ne j1 (by simp)).2,(ne j2 (by simp)).2⟩;obtain⟨w1,w2,lT⟩:=st.to;have hh:X.A.in1.handled=none:=I.ok.hd hc;have l1:=r1.length;have l2:=r2.length;refine HZ.next_end D (HZ.ve hh j1 a i1.toArray) (HZ.ve hh j2 b i2.toArray) st.z st.ti lT ⟨st.h1,p1⟩ ⟨st.h2,p2⟩ ?_ λh' c7=>⟨rfl,I.xG (t':=s.toks) (ch:=[z,ti,to,j1,j2]) (λc o ow e=>by
   have q:c≠z/\c≠ti/\c≠to/\c≠j1/\c≠j2:=by simpa using ow
   exact c7 c o q.1 q.2.2.1 q.2.2.2.1 q.2.2.2.2 e) hf⟩
  rcases hle with q|q
  ·left;simp;omega
  ·right;simp;omega
 self:=λA i s Q E st h=>aaI st.z h
theorem LG {P:Xf} {w:World} {K:Frag} {elts:List Expr} {kk:Nat} {pos:Pos} (a b z ti to j1 j2:Addr) (F:Ae z ti to j1 j2) :
  Turn P w K (.Tuple elts kk pos) (Ad K a b) [z,ti,to,j1,j2] z (Hg (λi h=>h.IsListIter j1 a i) (λi h=>h.IsListIter j2 b i) z ti to j1 j2) where
 mem:=by simp
 obj:=λi h st c hc=>by
  have iC:c=z\/c=ti\/c=to\/c=j1\/c=j2:=by simpa using hc
  rcases iC with rfl|rfl|rfl|rfl|rfl
  ·exact⟨_,st.z,λv q=>nomatch q⟩
  ·exact⟨_,st.ti,λv q=>nomatch q⟩
  ·obtain⟨u,v,q⟩:=st.to;exact⟨_,q,λv q=>nomatch q⟩
  ·obtain⟨o,e,_,d⟩:=st.h1;exact⟨o,e,λv q=>by rw[d] at q;cases q⟩
  ·obtain⟨o,e,_,d⟩:=st.h2;exact⟨o,e,λv q=>by rw[d] at q;cases q⟩
 keep:=λi h h' st k=>⟨k z (by simp) _ st.z,k ti (by simp) _ st.ti,by obtain⟨u,v,q⟩:=st.to;exact⟨u,v,k to (by simp) _ q⟩,st.h1.at λo e=>k j1 (by simp) o e,st.h2.at λo e=>k j2 (by simp) o e⟩
 item:=by
  intro X hP hw hK hc i pins s σ H E I hf st hg;subst hP hw hK;obtain⟨xs,ys,x,y,hx,hy,ex,ey⟩:=hg;obtain⟨i1,r1,p1,z1⟩:=I.list hx;obtain⟨i2,r2,p2,z2⟩:=I.list hy;obtain⟨u,eu,ru⟩:=r1.get ex;obtain⟨v,ev,rv⟩:=r2.get ey;have ne:∀c∈[z,ti,to,j1,j2],a≠c/\b≠c:=λc gG=>⟨vG I hx (hf c gG),vG I hy (hf c gG)⟩;have D:HZ.Apart z ti to j1 j2 a b:=⟨F.a1,F.a2,F.a3,F.a4,F.a5,F.a6,F.a7,F.a8,F.a9,F.b0,(ne z (by simp)).1,(ne to (by simp)).1,(ne j1 (by simp)).1,(ne j2 (by simp)).1,(ne z (by simp)).2,(ne to (by simp)).2,(ne j1 (by simp)).2,(ne j2 (by simp)).2⟩;obtain⟨w1,w2,lT⟩:=st.to;have hh:X.A.in1.handled=none:=I.ok.hd hc;refine HZ.next_item D (HZ.vf hh j1 a i1.toArray) (HZ.vf hh j2 b i2.toArray) st.z st.ti lT ⟨st.h1,p1.isList⟩ ⟨st.h2,p2.isList⟩ (by simpa using eu) (by simpa using ev) λh' c1 c2 c3 c4 c5 c6 c7=>⟨_,rfl,?_⟩;refine wpAny_letOwnedTupleGo_zip c1 λh2 d1 d2=>?_;have hn:H s.heap.objs.size=none:=I.aM.fresh (Nat.le_refl _);have AQ:z<s.heap.objs.size:=WS st.z;have lQ:IsTup h2 s.heap.objs.size #[u,v]:=⟨_,d2.extBut _ _ (YH AQ) c5,rfl,_,rfl⟩
  have I2:Inv X pins σ (upd H s.heap.objs.size (.tup [x,y])) { s with heap:=h2,toks:=s.toks }:=I.DN (ch:=[z,ti,to,j1,j2]) (λc o ow e=>by
   have q:c≠z/\c≠ti/\c≠to/\c≠j1/\c≠j2:=by simpa using ow
   exact d2.extBut c o q.1 (c7 c o q.1 q.2.2.1 q.2.2.2.1 q.2.2.2.2 e)) hf (Nat.le_refl _) ⟨by show 2<=WX;decide,[u,v],.cons ru (.cons rv .nil),lQ⟩
  refine⟨.ref s.heap.objs.size,_,I2,rfl,⟨_,x,y,hn,rfl,rfl,λs9 tj q1 q2=>?_⟩,?_,λc gG=>?_⟩
  ·rw[I.xR q1 hx,I.xR q2 hy];exact⟨ex,ey⟩
  ·refine⟨d1,d2.extBut _ _ F.a1 (c7 _ _ F.a1 F.a5 F.a6 F.a7 st.ti),⟨_,_,d2.extBut _ _ F.a2 c2⟩,c3.1.extBut d2.extBut F.a3,c4.1.extBut d2.extBut F.a4⟩
  ·rw[bF]
   ·exact(hf c gG).1
   ·intro e
    obtain⟨o,eo⟩:∃o,s.heap.get? c=some o:=by
     have iC:c=z\/c=ti\/c=to\/c=j1\/c=j2:=by simpa using gG
     rcases iC with q|q|q|q|q
     ·rw[q];exact⟨_,st.z⟩
     ·rw[q];exact⟨_,st.ti⟩
     ·rw[q];exact⟨_,lT⟩
     ·rw[q];obtain⟨o,e,_⟩:=st.h1;exact⟨o,e⟩
     ·rw[q];obtain⟨o,e,_⟩:=st.h2;exact⟨o,e⟩
    exact absurd (WS eo) (by rw[e];exact Xk _)
 done:=by
  intro X hP hw hK hc i pins s σ H E I hf st hg;subst hP hw hK;obtain⟨xs,ys,hx,hy,hle⟩:=hg;obtain⟨i1,r1,p1,z1⟩:=I.list hx;obtain⟨i2,r2,p2,z2⟩:=I.list hy;have ne:∀c∈[z,ti,to,j1,j2],a≠c/\b≠c:=λc gG=>⟨vG I hx (hf c gG),vG I hy (hf c gG)⟩;have D:HZ.Apart z ti to j1 j2 a b:=⟨F.a1,F.a2,F.a3,F.a4,F.a5,F.a6,F.a7,F.a8,F.a9,F.b0,(ne z (by simp)).1,(ne to (by simp)).1,(ne j1 (by simp)).1,(ne j2 (by simp)).1,(ne z (by simp)).2,(ne to (by simp)).2,(ne j1 (by simp)).2,(ne j2 (by simp)).2⟩;obtain⟨w1,w2,lT⟩:=st.to;have hh:X.A.in1.handled=none:=I.ok.hd hc;have l1:=r1.length;have l2:=r2.length;refine HZ.next_end D (HZ.vf hh j1 a i1.toArray) (HZ.vf hh j2 b i2.toArray) st.z st.ti lT ⟨st.h1,p1.isList⟩ ⟨st.h2,p2.isList⟩ ?_ λh' c7=>⟨rfl,I.xG (t':=s.toks) (ch:=[z,ti,to,j1,j2]) (λc o ow e=>by
   have q:c≠z/\c≠ti/\c≠to/\c≠j1/\c≠j2:=by simpa using ow
   exact c7 c o q.1 q.2.2.1 q.2.2.2.1 q.2.2.2.2 e) hf⟩
  rcases hle with q|q
  ·left;simp;omega
  ·right;simp;omega
 self:=λA i s Q E st h=>aaI st.z h
end L2
namespace HZ
open PySem PySem.Spec PyProof.Rows
noncomputable abbrev y1 (h:Heap) (m1:Addr):Heap:=h.push { cls:=.type "tuple_iterator",data:=.fields #[.ref m1,.int 0 0] }
noncomputable abbrev y2 (h:Heap) (m1 m2:Addr):Heap:=(y1 h m1).push { cls:=.type "tuple_iterator",data:=.fields #[.ref m2,.int 0 0] }
noncomputable abbrev y3 (h:Heap) (m1 m2:Addr):Heap:=(y2 h m1 m2).push { cls:=.type "tuple",data:=.seq #[.ref h.objs.size,.ref (y1 h m1).objs.size] }
noncomputable abbrev y4 (h:Heap) (m1 m2:Addr):Heap:=(y3 h m1 m2).push { cls:=.type "tuple",data:=.seq #[.none,.none] }
noncomputable abbrev y5 (h:Heap) (m1 m2:Addr):Heap:=(y4 h m1 m2).push { cls:=.type "zip",data:=.fields #[.none,.bool false,.bool false,.ref (y2 h m1 m2).objs.size,.ref (y3 h m1 m2).objs.size] }
theorem KZ (m1 m2:Addr) (xs ys:Array Value) :
  Meets (YS.«zip.__new__» ⟨[.type "zip",.ref m1,.ref m2],[]⟩) (λ_ R s=>s.heap.IsTuple m1 xs/\s.heap.IsTuple m2 ys/\R (.ok (.ret (.ref (y4 s.heap m1 m2).objs.size))) { s with heap:=y5 s.heap m1 m2 }) :=
 .of_wp λprog w A R s h=>by
  obtain⟨hp,g,d,tk,os⟩:=s;obtain⟨h1,h2,h⟩:=h;have Wc:=sub_zip;have L1:Heap.IsTuple (Shared.heap ⟨hp,g,d,tk,os⟩) m1 xs:=h1;have L2:Heap.IsTuple (Shared.heap ⟨hp.push { cls:=.type "tuple_iterator",data:=.fields #[.ref m1,.int 0 0] },g,d,tk,os⟩) m2 ys:=Heap.IsTuple.push h2 _
  wp_walk using wpAny_pyIter_tuple L1,wpAny_pyIter_tuple L2
  exact⟨_,rfl,h⟩
section
variable {P:Xf} {w:World} {A:Xv} {E:Value->WI->Prop} {s:WI}
theorem JQ {m1 m2:Addr} {xs ys:Array Value} {Q:Value->WI->Prop} (h1:s.heap.IsTuple m1 xs) (h2:s.heap.IsTuple m2 ys)
  (h:∀h',IsZip h' (s.heap.objs.size+4) (s.heap.objs.size+2) (s.heap.objs.size+3) .none->ZT h' (s.heap.objs.size+2) (.ref s.heap.objs.size) (.ref (s.heap.objs.size+1)) ->
   ZT h' (s.heap.objs.size+3) .none .none->h'.IsTupleIter s.heap.objs.size m1 0->h'.IsTupleIter (s.heap.objs.size+1) m2 0->h'.objs.size=s.heap.objs.size+5 ->
   (∀c o,s.heap.get? c=some o->h'.get? c=some o)->Q (.ref (s.heap.objs.size+4)) { s with heap:=h' }):wpAny (model P w) A (call (.type "zip") [.ref m1,.ref m2]) Q E s:=by
 refine callType_new F.called_zip (by decide) (F.typeCall_zip_2 _ _) (F.newCall_zip_2 _ _) (λobj=>F.args_object_init_3 obj _ _) F.entry_zip_new (KZ m1 m2 xs ys) ⟨h1,h2,?_⟩;have e1:(y1 s.heap m1).objs.size=s.heap.objs.size+1:=XU ..;have e2:(y2 s.heap m1 m2).objs.size=s.heap.objs.size+2:=by rw[XU,e1]
 have e3:(y3 s.heap m1 m2).objs.size=s.heap.objs.size+3:=by rw[XU,e2]
 have e4:(y4 s.heap m1 m2).objs.size=s.heap.objs.size+4:=by rw[XU,e3]
 have e5:(y5 s.heap m1 m2).objs.size=s.heap.objs.size+5:=by rw[XU,e4]
 have g5:(y5 s.heap m1 m2).get? (y4 s.heap m1 m2).objs.size=some _:=WN _ rfl;have g4:(y5 s.heap m1 m2).get? (y3 s.heap m1 m2).objs.size=some _:=WE _ (WN _ rfl);have g3:(y5 s.heap m1 m2).get? (y2 s.heap m1 m2).objs.size=some _:=WE _ (WE _ (WN _ rfl));have g2:(y5 s.heap m1 m2).get? (y1 s.heap m1).objs.size=some _:=WE _ (WE _ (WE _ (WN _ rfl)));have g1:(y5 s.heap m1 m2).get? s.heap.objs.size=some _:=WE _ (WE _ (WE _ (WE _ (WN _ rfl))));show _/\_;rw[e2,e3,e4] at g5;rw[e1,e2] at g3;rw[e3] at g4;rw[e1] at g2;rw[e4];exact⟨⟨_,g5,rfl⟩,h _ g5 g3 g4 ⟨_,g1,rfl,rfl⟩ ⟨_,g2,rfl,rfl⟩ e5 λc o q=>WE _ (WE _ (WE _ (WE _ (WE _ q))))⟩
end
end HZ
namespace L2
open PySem PySem.Spec PyProof.Rows
theorem Eu (n:Nat):Ae (n+4) (n+2) (n+3) n (n+1):=by constructor<;>(show (_:Nat)≠_)<;>omega
section
variable {X:Cx} {elts:List Expr} {kk:Nat} {tp:Pos}
noncomputable def RG (K:Frag) (ta:TA):TI:=fun σ H R=>ta σ H λvs H1=>∃a b xs ys,vs=[.ref a,.ref b]/\aZ K H1 a xs/\aZ K H1 b ys/\R (Ac K a b) H1
noncomputable def RH (K:Frag) (ta:TA):TI:=fun σ H R=>ta σ H λvs H1=>∃a b xs ys,vs=[.ref a,.ref b]/\ba K H1 a xs/\ba K H1 b ys/\R (Ad K a b) H1
theorem DO:XA "zip"=some (.type "zip"):=by decide +kernel
theorem Gs {pins:List (Addr×Obj)} {σ:St} {H:Hp} {s:WI} (I:Inv X pins σ H s):∀b∈[s.heap.objs.size+4,s.heap.objs.size+2,s.heap.objs.size+3,s.heap.objs.size,s.heap.objs.size+1],fT X pins H b:=λb hb=>by
 have fq:s.heap.objs.size<=b:=by
  have q:b=s.heap.objs.size+4\/b=s.heap.objs.size+2\/b=s.heap.objs.size+3\/b=s.heap.objs.size\/b=s.heap.objs.size+1:=by simpa using hb
  omega
 exact I.qj fq (I.aM.fresh fq)
theorem yt {a b:Expr} {ta:TA} {p pos:Pos} (hg:Gl X "zip") (hm:X.mg "zip"=none) (ha:PA X [a,b] ta) (hs:Xb [a,b] X.env=[(false,eval a X.env),(false,eval b X.env)]:=by rfl) (cB:Xb [b] X.env=[(false,eval b X.env)]:=by rfl) :
  PI X (.Tuple elts kk tp) (.Call (.Name "zip" p) [a,b] [] pos) (RG X.K ta):=by
 intro pins s σ H R I h;refine Call_ (lj I hg hm DO (Ya (aK (ha pos pins s σ H _ I h) λus s1 ⟨vs,H1,I1,r1,q1⟩=>?_) (by rw[hs,cB]) (by rw[cB];rfl)));obtain⟨a,b,xs,ys,e,hx,hy,q⟩:=q1;subst e;obtain⟨u,v,rfl,ru,rv⟩:=vals2 r1;cases ru;cases rv;obtain⟨i1,_,p1,_⟩:=I1.tuple hx;obtain⟨i2,_,p2,_⟩:=I1.tuple hy;refine HZ.JQ (xs:=i1.toArray) (ys:=i2.toArray) p1 p2 λh' c1 c2 c3 c4 c5 c6 c7=>?_
 refine aaI (s:={ s1 with heap:=h' }) c1 ?_
 exact⟨_,[s1.heap.objs.size+4,s1.heap.objs.size+2,s1.heap.objs.size+3,s1.heap.objs.size,s1.heap.objs.size+1],_,_,H1,rfl,I1.kept (t':=s1.toks) c7,LF a b _ _ _ _ _ (Eu _),⟨c1,c2,⟨_,_,c3⟩,c4,c5⟩,Gs I1,q⟩
theorem Oi {a b:Expr} {ta:TA} {p pos:Pos} (hg:Gl X "zip") (hm:X.mg "zip"=none) (ha:PA X [a,b] ta) (hs:Xb [a,b] X.env=[(false,eval a X.env),(false,eval b X.env)]:=by rfl) (cB:Xb [b] X.env=[(false,eval b X.env)]:=by rfl) :
  PI X (.Tuple elts kk tp) (.Call (.Name "zip" p) [a,b] [] pos) (RH X.K ta):=by
 intro pins s σ H R I h;refine Call_ (lj I hg hm DO (Ya (aK (ha pos pins s σ H _ I h) λus s1 ⟨vs,H1,I1,r1,q1⟩=>?_) (by rw[hs,cB]) (by rw[cB];rfl)));obtain⟨a,b,xs,ys,e,hx,hy,q⟩:=q1;subst e;obtain⟨u,v,rfl,ru,rv⟩:=vals2 r1;cases ru;cases rv;obtain⟨i1,_,p1,_⟩:=I1.list hx;obtain⟨i2,_,p2,_⟩:=I1.list hy;refine call_zip_2 (xs:=i1.toArray) (ys:=i2.toArray) p1.isList p2.isList λh' c1 c2 c3 c4 c5 c6 c7=>?_
 refine aaI (s:={ s1 with heap:=h' }) c1 ?_
 exact⟨_,[s1.heap.objs.size+4,s1.heap.objs.size+2,s1.heap.objs.size+3,s1.heap.objs.size,s1.heap.objs.size+1],_,_,H1,rfl,I1.kept (t':=s1.toks) c7,LG a b _ _ _ _ _ (Eu _),⟨c1,c2,⟨_,_,c3⟩,c4,c5⟩,Gs I1,q⟩
end
end L2
namespace PySem
section
variable {P:Xf} {w:World} {A:Xv} {E:Value->WI->Prop} {s:WI}
end
end PySem
namespace L2
open PySem PySem.Spec PyProof.Rows
theorem map_getD (ns:List Int):(WW ns.length).map (λi=>ns.getD i 0)=ns:=by
 apply YL;intro i;rw[W6];by_cases h:i<ns.length
 ·rw[XJ h,WQ h]
  simp[Zb,WQ h]
 ·rw[Xt (by simpa using h),Xt (by omega)]
  rfl
section
variable {X:Cx}
end
end L2
namespace L2
open PySem PySem.Spec PyProof.Rows
section
variable {κ:Type} [DecidableEq κ]
end
section
variable {P:Xf} {w:World} {H:Hp} {h:Heap} {a:Addr}
end
section
variable {X:Cx} {pins:List (Addr×Obj)} {σ:St} {H:Hp} {s:WI} {a:Addr} {y v:V} {u r:Value} {o:Option V} {A:Xv} {E:Value->WI->Prop}
theorem Inv.big (I:Inv X pins σ H s):YT<s.heap.objs.size:=by
 have h:Xi<s.heap.objs.size:=(I.mod.glob.keeps I.bk).lt;exact Nat.lt_trans (by decide) h
theorem Oj {h':Heap} {t':Nat} {ob:HO} (I:Inv X pins σ H s) (mu:sC (H a)) (hs:Yp a s.heap h') (he:∃q,h'.get? a=some q) (new:dD X.prog X.w (upd H a ob) h' a ob) :
  Inv X pins σ (upd H a ob) { s with heap:=h',toks:=t' } :=
 I.write (x:=a) (e:=a) mu (.inl rfl) (λb q hb z=>(hs.2 b hb).trans z) he new
end
section
variable {X:Cx} {pins:List (Addr×Obj)} {σ:St} {H:Hp} {s:WI} {a:Addr} {aq:List (Key×V)} {k:Key} {u:Value} {A:Xv} {E:Value->WI->Prop}
end
section
variable {X:Cx} {o i e value:Expr} {pos pos' r9:Pos} {td ty tv:TE}
end
section
variable {X:Cx} {pos:Pos}
end
structure M1 (X:Cx) (o:Expr) (m:Str) (apos:Pos) (e:Expr) (dU:Pos):Prop where
 base:attributeBase o m X.env (eval o X.env)=eval o X.env
 kD:((Z5 dU (Xb [e] X.env)).all (λx=>!x.1)&&(backToKw dU (keywordEach [] X.env)).all (λx=>x.1.isSome)
  && decide (([e]:List Expr).length+([]:List Keyword).length+(if ([]:List Keyword).isEmpty then 0 else 1)<30))=true
 line:(apos.endLine==dU.line)=true
 trees:Z5 dU (Xb [e] X.env)=[(false,eval e X.env)]
structure M2 (X:Cx) (o:Expr) (m:Str) (apos:Pos) (e f:Expr) (dU:Pos):Prop where
 base:attributeBase o m X.env (eval o X.env)=eval o X.env
 kD:((Z5 dU (Xb [e,f] X.env)).all (λx=>!x.1)&&(backToKw dU (keywordEach [] X.env)).all (λx=>x.1.isSome)
  && decide (([e,f]:List Expr).length+([]:List Keyword).length+(if ([]:List Keyword).isEmpty then 0 else 1)<30))=true
 line:(apos.endLine==dU.line)=true
 trees:Z5 dU (Xb [e,f] X.env)=[(false,eval e X.env),(false,eval f X.env)]
section
variable {X:Cx} {pins:List (Addr×Obj)} {σ:St} {H:Hp} {s:WI} {a:Addr} {y d:V} {u r:Value} {o:Option V} {A:Xv} {E:Value->WI->Prop}
end
section
variable {X:Cx} {o e f:Expr} {apos dU:Pos} {td ty tx:TE}
end
section
variable {X:Cx} {pins:List (Addr×Obj)} {σ:St} {H:Hp} {s:WI} {a:Addr} {aq:List (Key×V)} {A:Xv} {E:Value->WI->Prop}
end
section
variable {X:Cx} {pins:List (Addr×Obj)} {σ:St} {H:Hp} {s:WI} {a:Addr} {y:V} {u:Value} {A:Xv} {E:Value->WI->Prop}
end
end L2
namespace L2
open PySem PySem.Spec PyProof.Rows
section
variable {K:Frag} {caps:St} {H:Hp} {tf:TT} {te:TE} {Q:VK}
end
noncomputable def Gu (sc:Scope) (on:List (Str×ZJ)) (oN N:List Str) (nt:Nat) (cap:List Nat):Bool :=
 decide (sc.kind=.function)&&sc.names.all (λx=>decide (x.2≠.cell))&&sc.names.all (λx=>decide (x.2=.local->sc.names.lookup x.1=some .local)) &&
 sc.names.all (λx=>decide (x.2=.free->sc.names.lookup x.1=some .free/\(on.lookup x.1=some .cell\/on.lookup x.1=some .free)))&&decide (N.length=nt+cap.length) &&
 (WW cap.length).all (λk=>match cap[k]? with
  |some j=>match oN[j]? with
   |some x=>decide (N[nt+k]?=some x)&&decide ((x,Xu)∈sc.names)
   |none=>false
  |none=>true)
theorem zw {X:Cx} {sc:Scope} {N:List Str} {nt:Nat} {cap:List Nat} (h:Gu sc X.env.scope.names X.N N nt cap=true):pQ X sc N nt cap:=by
 unfold Gu at h;simp only[WK,XO,decide_eq_true_eq] at h;obtain⟨⟨⟨⟨⟨h1,h2⟩,h3⟩,h4⟩,h5⟩,h6⟩:=h;refine⟨h1,h2,h3,λx hx e=>h4 x hx e,h5,λk j e=>?_⟩;have hk:k<cap.length:=(WO.mp e).1;have:=h6 k (Xy.mpr hk);rw[e] at this;dsimp only at this
 cases ex:X.N[j]? with
 |none=>rw[ex] at this;cases this
 |some x =>
  rw[ex] at this;simp only[WK,decide_eq_true_eq] at this;exact⟨x,rfl,this.1,this.2⟩
end L2
namespace TS
open PySem
abbrev jM (l:List Nat):Prop:=l.Pairwise (· < ·)
theorem MW (xs:Array Nat) (k d:Nat):xs.getD k d=xs.toList.getD k d:=by
 cases xs with
 |mk l =>
  by_cases h:k<l.length
  ·simp[aan,Zb,h]
  ·simp[aan,Zb,h]
theorem vh {l:List Nat} (h:jM l) {a b:Nat} (tm:a<b) (hb:b<l.length):l.getD a 0<l.getD b 0:=by
 have:=List.pairwise_iff_getElem.mp h a b (by omega) hb tm;simpa [Zb,WQ hb,WQ (show a<l.length by omega)] using this
theorem MX (l:List Nat) {k:Nat} (hk:k<l.length) (d e:Nat):l.getD k d=l.getD k e:=by
 simp[Zb,WQ hk]
theorem yu (xs:Array Nat) (j:Nat) (hr:jM xs.toList):∀(fuel lo hi:Nat),hi-lo<=fuel->lo<=hi->hi<=xs.toList.length->(∀k,k<lo->xs.toList.getD k 0<j)->(∀k,hi<=k->k<xs.toList.length->j<=xs.toList.getD k 0) ->
  aaq xs j fuel lo hi<=xs.toList.length/\(∀k,k<aaq xs j fuel lo hi->xs.toList.getD k 0<j)/\(∀k,aaq xs j fuel lo hi<=k->k<xs.toList.length->j<=xs.toList.getD k 0)
 |0,lo,hi,hf,hl,hh,h1,h2=>by
  have e:lo=hi:=by omega
  subst e;exact⟨hh,h1,h2⟩
 |fuel+1,lo,hi,hf,hl,hh,h1,h2=>by
  unfold aaq;by_cases bp:lo<hi
  ·rw[if_pos bp]
   dsimp only;have hm:(lo+hi) / 2<xs.toList.length:=by omega
   rw[MW,MX _ hm j 0];by_cases hc:xs.toList.getD ((lo+hi) / 2) 0<j
   ·rw[if_pos hc]
    refine yu xs j hr fuel _ _ (by omega) (by omega) hh (λk hk=>?_) h2;by_cases mU:k=(lo+hi) / 2
    ·rw[mU];exact hc
    ·exact Nat.lt_trans (vh hr (by omega) hm) hc
   ·rw[if_neg hc]
    refine yu xs j hr fuel _ _ (by omega) (by omega) (by omega) h1 (λk hk mU=>?_);by_cases mV:k=(lo+hi) / 2
    ·rw[mV];omega
    ·have:=vh hr (show (lo+hi) / 2<k by omega) mU
     omega
  ·rw[if_neg bp]
   have e:lo=hi:=by omega
   subst e;exact⟨hh,h1,h2⟩
theorem Dp (xs:Array Nat) (j:Nat) (hr:jM xs.toList):XW xs j<=xs.toList.length/\(∀k,k<XW xs j->xs.toList.getD k 0<j)/\(∀k,XW xs j<=k->k<xs.toList.length->j<=xs.toList.getD k 0):=by
 unfold XW;exact yu xs j hr xs.size 0 xs.size (by omega) (X1 _) (by simp) (λk hk=>by omega) (λk hk mU=>by simp at mU;omega)
theorem Kq {l:List Nat} {p j:Nat} (h:∀k,k<p->l.getD k 0<j):∀x∈l.take p,x<j:=by
 intro x hx;obtain⟨k,hk,e⟩:=Z2 hx;have tu:k<p/\k<l.length:=by rw[Zo] at hk;omega
 have:=h k tu.1;rw[List.getElem_take] at e;rw[<- e];simpa [Zb,WQ tu.2] using this
theorem Kr {l:List Nat} {p j:Nat} (h:∀k,p<=k->k<l.length->j<=l.getD k 0):∀x∈l.drop p,j<=x:=by
 intro x hx;obtain⟨k,hk,e⟩:=Z2 hx;have tu:p+k<l.length:=by rw[List.length_drop] at hk;omega
 have:=h (p+k) (by omega) tu;rw[List.getElem_drop] at e;rw[<- e];simpa [Zb,WQ tu] using this
theorem MY {xs:Array Nat} {j:Nat} (hr:jM xs.toList) (hn:xs[XW xs j]?≠some j):jM (SetTable.insertAt xs (XW xs j) j).toList:=by
 obtain⟨h0,h1,h2⟩:=Dp xs j hr;rw[SetTable.toList_insertAt];have a1:=Kq h1;have a2:∀x∈xs.toList.drop (XW xs j),j<x:=by
  intro x hx;have wV:=Kr h2;have hd:jM (xs.toList.drop (XW xs j)):=aaE (List.drop_sublist _ _) hr
  cases hc:xs.toList.drop (XW xs j) with
  |nil=>rw[hc] at hx;cases hx
  |cons y r =>
   rw[hc] at hd hx wV;have hy:j≠y:=by
    intro e;apply hn;have:(xs.toList.drop (XW xs j))[0]?=some y:=by rw[hc];rfl
    rw[List.getElem?_drop] at this;have e2:xs.toList[XW xs j]?=some y:=by simpa using this
    rw[<- Yd,e2,e]
   have IS:j<y:=Nat.lt_of_le_of_ne (wV y WR) hy
   rcases W3.mp hx with e|hx
   ·rw[e];exact IS
   ·exact Nat.lt_trans IS ((Xx.mp hd).1 x hx)
 first
  |(refine aaN.mpr ⟨aaE (List.take_sublist _ _) hr,Xx.mpr ⟨a2,aaE (List.drop_sublist _ _) hr⟩,λx hx y hy=>?_⟩
    rcases W3.mp hy with e|hy
    ·rw[e];exact a1 x hx
    ·exact Nat.lt_trans (a1 x hx) (a2 y hy))
  |trace_state
theorem yv (t:YD) (h:Int):∀(fuel:Nat) (p:SetTable.Probe) (j:Nat) (dm:Option Nat),(∀d,p.dummy=some d->t.slot d=.dummy)->abb t (λ_=>h+1) h fuel p=some (.empty j dm)->t.slot j=.empty/\∀d,dm=some d->t.slot d=.dummy
 |0,p,j,dm,hp,e=>by simp[abb] at e
 |fuel+1,p,j,dm,hp,e=>by
  unfold abb at e
  cases hs:t.slot p.j with
  |empty =>
   rw[hs] at e;simp at e;rw[<- e.1,<- e.2];exact⟨hs,hp⟩
  |dummy =>
   rw[hs] at e;refine yv t h fuel _ j dm (λd hd=>?_) e;unfold SetTable.advance at hd;split at hd
   ·simp at hd;rw[<- hd];exact hs
   ·simp at hd;rw[<- hd];exact hs
  |live i =>
   rw[hs] at e;have ib:(h+1==h)=false:=by simp;omega
   simp only[ib,WH,if_false] at e;refine yv t h fuel _ j dm (λd hd=>?_) e;unfold SetTable.advance at hd;split at hd
   ·exact hp d hd
   ·exact hp d hd
theorem DP {t:YD} {j:Nat} (h:t.slot j=.empty\/t.slot j=.dummy):t.place[XW t.place j]?≠some j:=by
 intro e;have:t.slot j=.live (XW t.place j):=by
  unfold SetTable.slot;simp[e]
 rw[this] at h
 rcases h with h|h<;>cases h
theorem LH {t:YD} {h:Int} {j:Nat} {b:Bool} (e:t.freeSlot h=some (j,b)):t.place[XW t.place j]?≠some j:=by
 unfold SetTable.freeSlot SetTable.probe at e;split at e
 ·rename_i j' dm hg
  have k:=yv t h _ _ j' dm (λd hd=>by simp[SetTable.probeStart] at hd) hg;simp at e;rw[<- e.1]
  cases dm with
  |none=>exact DP (.inl k.1)
  |some d=>exact DP (.inr (k.2 d rfl))
 ·cases e
structure ix (led:Bool) (t:YD):Prop where
 led:t.led=led
 rise:t.plain=true->jM t.place.toList
theorem uA {led:Bool} {t:YD} (h:ix led t) (n:Nat):ix led (t.standIn n):=⟨h.led,λz=>by simp[SetTable.standIn] at z⟩
theorem K0 {led:Bool} {t:YD} (h:ix led t) (es:Array (Int×Value)) (hs:Int) (x:Value):ix led (layNew t es hs x).2.1:=by
 unfold layNew;split
 ·rename_i slot wd e
  dsimp only;unfold SetTable.orStandIn;have hp:ix led (t.put slot).1:=⟨h.led,λz=>MY (h.rise z) (LH e)⟩;split
  ·exact hp
  ·exact uA hp _
 ·exact uA h _
theorem MZ {mask finger moves:Nat} {led plain:Bool} {hs:Array Int} {t:YD} {o:Array Nat} (e:SetTable.laid mask finger moves led plain hs=some (t,o)):ix led t/\t.plain=plain:=by
 unfold SetTable.laid at e
 cases hl:SetTable.layClean mask hs with
 |none=>rw[hl] at e;simp at e
 |some owner =>
  rw[hl] at e;simp at e;obtain⟨e1,e2⟩:=e;subst e1;refine⟨⟨rfl,λ_=>?_⟩,rfl⟩;show jM (aaF _).toList;simp only[List.map_filterMap];refine List.pairwise_filterMap.mpr ?_;refine List.Pairwise.imp (R:=(· < ·)) ?_ (List.pairwise_lt_range);intro a b tm x hx y hy
  cases ha:(owner[a]?.getD none) with
  |none=>rw[ha] at hx;simp at hx
  |some q =>
   cases hb:(owner[b]?.getD none) with
   |none=>rw[hb] at hy;simp at hy
   |some r =>
    rw[ha] at hx;rw[hb] at hy;simp at hx hy;omega
theorem LI {led:Bool} {t:YD} (h:ix led t) (es:Array (Int×Value)) (n:Nat):ix led (relayAll t es n).2.1:=by
 unfold relayAll;split
 ·rename_i t' o e
  dsimp only;split
  ·unfold SetTable.relaid at e
   have k:=MZ e;exact⟨k.1.led.trans h.led,k.1.rise⟩
  ·exact uA h _
 ·exact uA h _
theorem LJ (led:Bool):ix led (.fresh 0 0 led):=⟨rfl,λ_=>List.Pairwise.nil⟩
end TS
namespace TS
open PySem PySem.Spec PyProof.Rows
section
variable {P:Xf} {w:World} {A:Xv} {E:Value->WI->Prop} {s:WI} {led:Bool}
def gu (P:Xf) (w:World) (led:Bool) (h:Heap) (a:Addr) (S:Int->Bool) (n:Nat):Prop :=
 ∃o es ep t,h.get? a=some o/\o.ExactSet/\o.data=.set es ep t/\ElemsOf (YO P w) es.toList/\(∀k,S k=true↔∃e∈es.toList,(YO P w).is k e.2=true)/\es.size<ZV/\t.fits es.size=true/\es.size=n/\ix led t
theorem gu.at {h h':Heap} {a:Addr} {S:Int->Bool} {n:Nat} (x:gu P w led h a S n) (k:∀o,h.get? a=some o->h'.get? a=some o):gu P w led h' a S n:=by
 obtain⟨o,es,ep,t,ho,r⟩:=x;exact⟨o,es,ep,t,k o ho,r⟩
theorem gu.congr {h:Heap} {a:Addr} {S S':Int->Bool} {n n':Nat} (x:gu P w led h a S n) (e:∀k,S k=S' k) (en:n=n'):gu P w led h a S' n':=by
 obtain rfl:S=S':=funext e;subst en;exact x
theorem yw {a:Addr} {u:Obj} {es fZ:Array (Int×Value)} {ep:Nat} {t t':YD} {h:Heap} (hu:h.get? a=some u) (hx:u.ExactSet) (hd:u.data=.set es ep t) {S:Int->Bool}
  (c1:ElemsOf (YO P w) fZ.toList) (c2:∀k,S k=true↔∃e∈fZ.toList,(YO P w).is k e.2=true) (c3:fZ.size<ZV) (c4:t'.fits fZ.size=true) (c5:ix led t') :
  (h.update a (Obj.putSet fZ t')).get? a=some { u with data:=.set fZ (ep+1) t' }/\gu P w led (h.update a (Obj.putSet fZ t')) a S fZ.size:=by
 have g:=(SetOf_store (knd:=YO P w) hu hx hd c1 c2 c3 c4).1;exact⟨g,_,fZ,ep+1,t',g,hx,rfl,c1,c2,c3,c4,rfl,c5⟩
theorem Ol {a:Addr} {S:Int->Bool} {n:Nat} {k:Int} {tk:Tok} {Q:Bool->WI->Prop} (hS:gu P w led s.heap a S n) (RJ:n+1<ZV)
  (h:∀h',Yp a s.heap h'->gu P w led h' a (λj=>S j||decide (j=k)) (if S k then n else n+1)->Q (!S k) { s with heap:=h' }) :
  wpAny (model P w) A (setAddHashed a (.int k tk) ((YO P w).hash k)) Q E s:=by
 obtain⟨u,es,ep,t,hu,hx,hd,c1,c2,c3,c4,hn,c5⟩:=hS;have ky:(YO P w).is k (.int k tk)=true:=intKind_is _ _ _ _;have sc:(aa9 k tk).scannable=true:=rfl;have AR:es.size+1<ZV:=by rw[hn];exact RJ
 unfold setAddHashed setAddHashedIn;refine Yf ?_;refine WD (Zc hu hd c4 ?_);dsimp only;rw[byScan_of sc c3 c1,if_pos rfl];unfold setAddByScan;refine WD (WD (YV ?_));refine WD (wpAny_setScan_of ky hu hd c4 c1 ?_)
 cases IT:es.toList.findIdx? (λe=>(YO P w).is k e.2) with
 |some j =>
  dsimp only;obtain⟨hj,pj,_⟩:=List.findIdx?_eq_some_iff_getElem.mp IT;have Sk:S k=true:=(c2 k).mpr ⟨es.toList[j],aaH hj,pj⟩;have q:=h s.heap (Heap.SameBut.refl a s.heap) ⟨u,es,ep,t,hu,hx,hd,c1,λj'=>by
   rw[Z9,decide_eq_true_eq,<- c2 j'];exact⟨λz=>z.elim id λe=>by rw[e];exact Sk,Yj⟩,c3,c4,by rw[Sk];exact hn,c5⟩
  rw[Sk] at q;exact WG (WG q)
 |none =>
  dsimp only;have Sk:S k=false:=by
   rw[<- Zr,c2 k];rintro ⟨e,he,pe⟩;have z:=List.findIdx?_eq_none_iff.mp IT e he;rw[pe] at z;cases z
  have way:∀(b:Bool) {s1:WI} {Q1:Unit->WI->Prop},Q1 () s1->wpAny (model P w) A (match b with|true=>rule "set.scan.the-table-gave-way"|false=>pure ()) Q1 E s1 :=
   λb s1 Q1 q=>by cases b<;>first|exact WG q|exact YV q
  have pm:=layNew_perm t es ((YO P w).hash k) (.int k tk);have ft:=layNew_fits t es ((YO P w).hash k) (.int k tk);have tb:=K0 c5 es ((YO P w).hash k) (.int k tk);generalize layNew t es ((YO P w).hash k) (.int k tk)=L at pm ft tb |-;obtain⟨gb,t1,V8,We⟩:=L;dsimp only at pm ft tb |-;rw[aar] at pm;have d1:ElemsOf (YO P w) gb.toList:=(c1.push ky sc).perm pm;have d2:∀j,(S j||decide (j=k))=true↔∃e∈gb.toList,(YO P w).is j e.2=true:=mem_push_iff ky c2 pm;have z1:gb.size=n+1:=by
   have l:=pm.length_eq;rw[Xw,Xj,Xj,hn] at l;exact l
  have d3:gb.size<ZV:=by omega
  refine WD (way _ ?_);obtain⟨g1,T1⟩:=yw (S:=λj=>S j||decide (j=k)) hu hx hd d1 d2 d3 ft tb;have wW:=X0 s.heap a (Obj.putSet gb t1)
  have fin:∀h',Yp a s.heap h'->gu P w led h' a (λj=>S j||decide (j=k)) gb.size->Q true { s with heap:=h' }:=λh' sb T=>by
   have q:=h h' sb;rw[Sk] at q;rw[z1] at T;exact q T
  have jv:=relayAll_perm t1 gb (aaC gb.size);have iD:=relayAll_fits t1 gb (aaC gb.size);have qC:=LI tb gb (aaC gb.size);have hv:hashByValue 8 (aa9 k tk)=pure true:=rfl;split
  ·refine WD ?_
   rw[hv];refine WG ?_;simp only[if_true];refine WD (aas hu hd ?_ (ZL d3));split
   ·generalize relayAll t1 gb (aaC gb.size)=L2 at jv iD qC |-
    obtain⟨tw,t2,RK⟩:=L2;dsimp only at jv iD qC |-;have z2:tw.size=gb.size:=by
     have l:=jv.length_eq;rwa [Xj,Xj] at l
    have f2:∀j,(S j||decide (j=k))=true↔∃e∈tw.toList,(YO P w).is j e.2=true:=λj=>(d2 j).trans ⟨λ⟨e,he,q⟩=>⟨e,jv.mem_iff.mpr he,q⟩,λ⟨e,he,q⟩=>⟨e,jv.mem_iff.mp he,q⟩⟩;refine WD (way _ ?_);refine WD (aas g1 rfl ?_ (ZL (by rw[z2];exact d3)));obtain⟨g2,T2⟩:=yw (S:=λj=>S j||decide (j=k)) (led:=led) g1 hx rfl (d1.perm jv) f2 (by rw[z2];exact d3) iD qC;rw[z2] at T2;exact WG (WG (fin _ (wW.trans (X0 _ a _)) T2))
   ·exact WG (WG (fin _ wW T1))
  ·refine WD (WG ?_)
   simp only[if_true];refine WD (aas hu hd ?_ (ZL d3));split
   ·generalize relayAll t1 gb (aaC gb.size)=L2 at jv iD qC |-
    obtain⟨tw,t2,RK⟩:=L2;dsimp only at jv iD qC |-;have z2:tw.size=gb.size:=by
     have l:=jv.length_eq;rwa [Xj,Xj] at l
    have f2:∀j,(S j||decide (j=k))=true↔∃e∈tw.toList,(YO P w).is j e.2=true:=λj=>(d2 j).trans ⟨λ⟨e,he,q⟩=>⟨e,jv.mem_iff.mpr he,q⟩,λ⟨e,he,q⟩=>⟨e,jv.mem_iff.mp he,q⟩⟩;refine WD (way _ ?_);refine WD (aas g1 rfl ?_ (ZL (by rw[z2];exact d3)));obtain⟨g2,T2⟩:=yw (S:=λj=>S j||decide (j=k)) (led:=led) g1 hx rfl (d1.perm jv) f2 (by rw[z2];exact d3) iD qC;rw[z2] at T2;exact WG (WG (fin _ (wW.trans (X0 _ a _)) T2))
   ·exact WG (WG (fin _ wW T1))
end
end TS
namespace TS
open PySem PySem.Spec PyProof.Rows
theorem JH:entryFor table "set.__iter__"=some YS.«frozenset.__iter__»:=entryFor_alias (id':="frozenset.__iter__") (by kernel_rfl) rfl (by decide +kernel) (by kernel_rfl)
theorem jx:Slot "set_iterator" "__next__" "set_iterator.__next__" :=
 .of (owner:="set_iterator") (n:="__next__") (by rw[typeLookup_type,aaG];kernel_rfl) (by decide +kernel) (by decide +kernel) (by decide +kernel)
  (by first|exact .inl (by decide +kernel)|exact .inr (by decide +kernel)) (by rw[isSubtype_type];kernel_rfl)
theorem ug:entryFor table "set_iterator.__next__"=some YS.«set_iterator.__next__»:=entryFor_of_tree (by kernel_rfl)
theorem uq (a:Value):argsOk "set_iterator.__next__" ⟨[a],[]⟩:=by unfold argsOk;kernel_rfl
theorem CC:Slot "set_iterator" "__iter__" "set_iterator.__iter__" :=
 .of (owner:="set_iterator") (n:="__iter__") (by rw[typeLookup_type,aaG];kernel_rfl) (by decide +kernel) (by decide +kernel) (by decide +kernel)
  (by first|exact .inl (by decide +kernel)|exact .inr (by decide +kernel)) (by rw[isSubtype_type];kernel_rfl)
def iU (h:Heap) (I a:Addr) (first:Value) (i n ep:Nat):Prop:=∃o,h.get? I=some o/\o.cls=.type "set_iterator"/\o.data=.fields #[first,.int i 0,.ref a,.int n 0,.int ep 0]
section
variable {P:Xf} {w:World} {A:Xv} {E:Value->WI->Prop} {s:WI}
theorem Fo {I a:Addr} {slot i n ep nx:Nat} {u:Obj} {es:Array (Int×Value)} {t:YD} {x:Value} {Q:Option Value->WI->Prop} (hit:iU s.heap I a (.int slot 0) i n ep)
  (hu:s.heap.get? a=some u) (hd:u.data=.set es ep t) (hf:t.fits es.size=true) (hn:es.size=n)
  (hs:∀(A':Xv) (Q':Option (Value×Nat)->WI->Prop) (E':Value->WI->Prop),Q' (some (x,nx)) s->wpAny (model P w) A' (setNext a slot i ep) Q' E' s)
  (hQ:∀h',iU h' I a (.int nx 0) (i+1) n ep->Yp I s.heap h'->Q (some x) { s with heap:=h' }):wpAny (model P w) A (Zy (.ref I)) Q E s:=by
 obtain⟨o,ho,hc,eM⟩:=id hit;have hT:s.TypeIs (.ref I) "set_iterator":=⟨o,ho,hc⟩;unfold Zy;refine WD (Zl (Xp (name:=XC "__next__") hT jx
  (Xs jx hT ug ?_ (uq _))))
 unfold YS.«set_iterator.__next__» slotArgs;simp only[ZZ,Xl,WH,↓reduceIte,bind_assoc,W9,bne_self_eq_false];refine WD (WG ?_);refine WD (ZW ho eM ?_);dsimp only;refine WD (Zm hu hd hf ?_);rw[hn];simp only[bne_self_eq_false,WH,↓reduceIte,Xm];refine WD (hs _ _ _ ?_);dsimp only;refine WD (YI ho eM (by simp) ?_);refine WD (YI (X6 _ ho (Yu (XI eM _))) (XI eM _) (by simp) ?_);refine WG ⟨x,rfl,WG (hQ _ ⟨_,X6 _ (X6 _ ho (Yu (XI eM _))) (Yu (XI (XI eM _) _)),(ZK ..).trans ((ZK ..).trans hc),?_⟩ ((X0 ..).trans (X0 ..)))⟩;rw[XI (XI eM _)];simp[YA]
theorem K1 {src:Source} {m:Nat} {Q:Nat->WI->Prop} (hm:m≠0) (h:Q (w.draws src (s.drawn.get src) % m) { s with drawn:=s.drawn.bump src }):wpAny (model P w) A (choose src m) Q E s:=fun Γ p Wn=>by
 unfold choose;rw[Sem.wp_choose];exact⟨hm,h⟩
theorem DQ {I:Addr} {o:Obj} {vs:Array Value} {Q:Option Value->WI->Prop} (hh:A.handled=none) (ho:s.heap.get? I=some o) (eM:o.data=.fields vs) (h2:2<vs.size)
  (hQ:∀h',aap I s.heap h'->Q none { s with heap:=h' }) :
  wpAny (model P w) A.in1 (setField (.ref I) 2 .none >>= λ_=>newExc (.type "StopIteration") [] >>= λe=>(raiseNew e:Sem Fin)) (λfin s'=>∃v,fin=Fin.done (Flow.ret v)/\wpAny (model P w) A (pure (some v)) Q E s')
   (λe s'=>wpAny (model P w) A (isInstance e (Y6 "StopIteration") >>= λb=>if b=true then pure none else throw e) Q E s') s:=by
 refine WD (YI ho eM h2 ?_);refine WD ?_;simp only[newExc,newTuple];refine WD (W8 ?_ (by size_fits))
 refine WD (m:=ZS _ _) (Zk (a:=Value.none) (by first|rfl | (simp only[ZS];rfl)) ?_)
 refine W8 ?_ (by size_fits);simp only[raiseNew];refine WD (wpAny_handled ?_)
 first|rw[show A.in1.handled=none from hh]|rw[hh]
 refine WD (WG (wpAny_throw ?_));refine WD (ZY (T:="StopIteration") (b:=true) ⟨_,WN _ rfl,rfl⟩ isSubtype_stop ?_);exact WG (hQ _ (((X0 ..).extBut.push _).push _))
theorem Gv {I a:Addr} {slot i n ep:Nat} {u:Obj} {es:Array (Int×Value)} {t:YD} {Q:Option Value->WI->Prop} (hh:A.handled=none) (hit:iU s.heap I a (.int slot 0) i n ep)
  (hu:s.heap.get? a=some u) (hd:u.data=.set es ep t) (hf:t.fits es.size=true) (hn:es.size=n)
  (hs:∀(A':Xv) (Q':Option (Value×Nat)->WI->Prop) (E':Value->WI->Prop),Q' none s->wpAny (model P w) A' (setNext a slot i ep) Q' E' s)
  (hQ:∀h',aap I s.heap h'->Q none { s with heap:=h' }):wpAny (model P w) A (Zy (.ref I)) Q E s:=by
 obtain⟨o,ho,hc,eM⟩:=id hit;have hT:s.TypeIs (.ref I) "set_iterator":=⟨o,ho,hc⟩;unfold Zy;refine WD (Zl (Xp (name:=XC "__next__") hT jx
  (Xs jx hT ug ?_ (uq _))))
 unfold YS.«set_iterator.__next__» slotArgs;simp only[ZZ,Xl,WH,↓reduceIte,bind_assoc,W9,bne_self_eq_false];refine WD (WG ?_);refine WD (ZW ho eM ?_);dsimp only;refine WD (Zm hu hd hf ?_);rw[hn];simp only[bne_self_eq_false,WH,↓reduceIte,Xm];refine WD (hs _ _ _ ?_);dsimp only;exact DQ hh ho eM (by simp) hQ
theorem M0 {I a tp:Addr} {i n ep pl:Nat} {u:Obj} {es:Array (Int×Value)} {t:YD} {x:Int×Value} {places:Array Value} {tk:Tok} {Q:Option Value->WI->Prop} (hit:iU s.heap I a (.ref tp) i n ep)
  (hu:s.heap.get? a=some u) (hd:u.data=.set es ep t) (hf:t.fits es.size=true) (hn:es.size=n) (AS:s.heap.IsTuple tp places) (dj:places[i]?=some (.int pl tk)) (hx:es[pl]?=some x)
  (hQ:∀h',iU h' I a (.ref tp) (i+1) n ep->Yp I s.heap h'->Q (some x.2) { s with heap:=h' }):wpAny (model P w) A (Zy (.ref I)) Q E s:=by
 obtain⟨o,ho,hc,eM⟩:=id hit;obtain⟨op,AU,Ui,np,sZ⟩:=AS;have hT:s.TypeIs (.ref I) "set_iterator":=⟨o,ho,hc⟩;unfold Zy;refine WD (Zl (Xp (name:=XC "__next__") hT jx
  (Xs jx hT ug ?_ (uq _))))
 unfold YS.«set_iterator.__next__» slotArgs;simp only[ZZ,Xl,WH,↓reduceIte,bind_assoc,W9,bne_self_eq_false];refine WD (WG ?_);refine WD (ZW ho eM ?_);dsimp only;refine WD (Zm hu hd hf ?_);rw[hn];simp only[bne_self_eq_false,WH,↓reduceIte,Xm];refine WD (Yr AU sZ ?_);dsimp only;rw[dj];dsimp only;unfold setNextDrawn;refine WD (WD (Zc hu hd hf ?_));dsimp only;simp only[bne_self_eq_false,WH,↓reduceIte,Xm];rw[hx];dsimp only;refine WG ?_;refine WD (YI ho eM (by simp) ?_);refine WG ⟨x.2,rfl,WG (hQ _ ⟨_,X6 _ ho (Yu (XI eM _)),(ZK ..).trans hc,?_⟩ (X0 ..))⟩;rw[XI eM];simp[YA]
theorem Om {I a tp:Addr} {i n ep:Nat} {u:Obj} {es:Array (Int×Value)} {t:YD} {places:Array Value} {Q:Option Value->WI->Prop} (hh:A.handled=none) (hit:iU s.heap I a (.ref tp) i n ep)
  (hu:s.heap.get? a=some u) (hd:u.data=.set es ep t) (hf:t.fits es.size=true) (hn:es.size=n) (AS:s.heap.IsTuple tp places) (dj:places[i]?=none)
  (hQ:∀h',aap I s.heap h'->Q none { s with heap:=h' }):wpAny (model P w) A (Zy (.ref I)) Q E s:=by
 obtain⟨o,ho,hc,eM⟩:=id hit;obtain⟨op,AU,Ui,np,sZ⟩:=AS;have hT:s.TypeIs (.ref I) "set_iterator":=⟨o,ho,hc⟩;unfold Zy;refine WD (Zl (Xp (name:=XC "__next__") hT jx
  (Xs jx hT ug ?_ (uq _))))
 unfold YS.«set_iterator.__next__» slotArgs;simp only[ZZ,Xl,WH,↓reduceIte,bind_assoc,W9,bne_self_eq_false];refine WD (WG ?_);refine WD (ZW ho eM ?_);dsimp only;refine WD (Zm hu hd hf ?_);rw[hn];simp only[bne_self_eq_false,WH,↓reduceIte,Xm];refine WD (Yr AU sZ ?_);dsimp only;rw[dj];dsimp only;refine WD (YI ho eM (by simp) ?_)
 exact DQ (s:={ s with heap:=_ }) hh (X6 _ ho (Yu (XI eM _))) (XI eM _) (by simp) λh' e=>hQ h' (Heap.ExtBut.trans (X0 ..).extBut e)
end
end TS
namespace TS
open PySem PySem.Spec PyProof.Rows
theorem JR:entryFor table "set_iterator.__iter__"=some YS.«dict_keyiterator.__iter__»:=entryFor_alias (id':="dict_keyiterator.__iter__") (by kernel_rfl) rfl (by decide +kernel) (by kernel_rfl)
theorem J3 (a:Value):argsOk "set_iterator.__iter__" ⟨[a],[]⟩:=by unfold argsOk;kernel_rfl
section
variable {P:Xf} {w:World} {A:Xv} {E:Value->WI->Prop} {s:WI}
theorem yx {I a:Addr} {f:Value} {i n ep:Nat} {Q:Value->WI->Prop} (hit:iU s.heap I a f i n ep) (h:Q (.ref I) s):wpAny (model P w) A (pyIter (.ref I)) Q E s:=by
 obtain⟨o,ho,hc,eM⟩:=id hit;have hT:s.TypeIs (.ref I) "set_iterator":=⟨o,ho,hc⟩;refine wpAny_pyIter_slot hT CC (Xs CC hT JR ?_ (J3 _));show wpAny _ _ (ret (.ref I)) _ _ s;exact WG ⟨_,rfl,"set_iterator",_,hT,jx.lookup,h⟩
theorem iU.at {h h':Heap} {I a:Addr} {f:Value} {i n ep:Nat} (x:iU h I a f i n ep) (k:∀o,h.get? I=some o->h'.get? I=some o):iU h' I a f i n ep:=by
 obtain⟨o,ho,r⟩:=x;exact⟨o,k o ho,r⟩
theorem DR {a:Addr} {slot i ep:Nat} {u:Obj} {es:Array (Int×Value)} {t:YD} (ic:w.params.followText "set-order"=true) (hu:s.heap.get? a=some u) (hd:u.data=.set es ep t) (hf:t.fits es.size=true)
  {Q':Option (Value×Nat)->WI->Prop} (h:Q' (((Zs (w.params.setOrder a ep) es)[i]?).map λe=>(e.2,slot)) s):wpAny (model P w) A (setNext a slot i ep) Q' E s:=by
 unfold setNext;refine WD (Zc hu hd hf ?_);dsimp only;unfold setsByText;refine WD (WD (YX (WG ?_)))
 show wpAny _ _ (if w.params.followText "set-order"=true then _ else _) _ _ _
 rw[if_pos ic];simp only[bne_self_eq_false,WH,↓reduceIte];unfold setWalk;refine WD (WD (Zc hu hd hf ?_));dsimp only;unfold setsByText;refine WD (WD (YX (WG ?_)))
 show wpAny _ _ (if w.params.followText "set-order"=true then _ else _) _ _ _
 rw[if_pos ic];refine WD (YX (WG ?_));exact WG h
theorem pE {xs:Array Nat} {slot i:Nat} (hr:jM xs.toList) (hi:i<=xs.toList.length) (h1:∀k,k<i->xs.toList.getD k 0<slot) (h2:∀k,i<=k->k<xs.toList.length->slot<=xs.toList.getD k 0):XW xs slot=i:=by
 obtain⟨a0,a1,a2⟩:=Dp xs slot hr;by_cases bp:XW xs slot<i
 ·have b1:=a2 _ (Nat.le_refl _) (by omega)
  have b2:=h1 _ bp;omega
 ·by_cases Uj:i<XW xs slot
  ·have b1:=a1 i Uj
   have b2:=h2 i (Nat.le_refl _) (by omega);omega
  ·omega
theorem Dq {a:Addr} {slot i ep:Nat} {u:Obj} {es:Array (Int×Value)} {t:YD} (ic:w.params.followText "set-order"=false) (hu:s.heap.get? a=some u) (hd:u.data=.set es ep t) (hf:t.fits es.size=true)
  (hl:t.led=true) (hp:t.plain=true\/es.size<=1) (hb:XW t.place slot=i)
  {Q':Option (Value×Nat)->WI->Prop} (h:Q' (match es[i]?,t.place[i]? with|some (_,x),some j=>some (x,j+1) | _,_=>none) s):wpAny (model P w) A (setNext a slot i ep) Q' E s:=by
 unfold setNext;refine WD (Zc hu hd hf ?_);dsimp only;unfold setsByText;refine WD (WD (YX (WG ?_)))
 show wpAny _ _ (if w.params.followText "set-order"=true then _ else _) _ _ _
 rw[if_neg (by rw[ic];decide)];split
 ·rename_i Uk
  have Af:(!t.plain&&decide (es.size > 1))=true:=Uk
  rcases hp with hp|hp
  ·rw[hp] at Af;cases Af
  ·simp at Af;omega
 ·refine WD ?_
  show wpAny _ _ (if (!t.led&&!es.isEmpty)=true then _ else _) _ _ _
  rw[hl];simp only[Xl,Yq,WH,↓reduceIte];refine WG ?_;rw[hb];exact WG h
theorem xB {I:Addr} {h':Heap} (sb:Yp I s.heap h'):Moved [I] (λa b=>b=a) s { s with heap:=h' }:=⟨λb o hb e=>by rw[sb.2 b (λz=>hb (by simp[z]))];exact e,rfl,rfl,rfl,Nat.le_refl _⟩
theorem xH {I:Addr} {h':Heap} (sb:aap I s.heap h'):Moved [I] (λa b=>b=a) s { s with heap:=h' }:=⟨λb o hb e=>sb b o (λz=>hb (by simp[z])) e,rfl,rfl,rfl,Nat.le_refl _⟩
end
theorem K2 {P:Xf} {w:World} {A:Xv} (hh:A.handled=none) {I a:Addr} (ib:a≠I) {u:Obj} {es:Array (Int×Value)} {ep:Nat} {t:YD} (ic:w.params.followText "set-order"=true) (hd:u.data=.set es ep t) (hf:t.fits es.size=true) (hsz:(Zs (w.params.setOrder a ep) es).size=es.size) :
  WalksS P w A I [I,a] [I] (λa b=>b=a) es.size (λi v=>((Zs (w.params.setOrder a ep) es).map (·.2))[i]?=some v) (λi s=>iU s.heap I a (.int 0 0) i es.size ep/\s.heap.get? a=some u) where
 sub:=λb hb=>by simp at hb;simp[hb]
 grefl:=λ_=>rfl
 gtrans:=λ_ _ _ h1 h2=>h2.trans h1
 frame:=λi s h' tk st _ hk=>⟨st.1.at λo e=>hk I (by simp) o e,hk a (by simp) _ st.2⟩
 item:=λi s Q E hi st hQ=>by
  have hx:i<(Zs (w.params.setOrder a ep) es).size:=by rw[hsz];exact hi
  have ex:(Zs (w.params.setOrder a ep) es)[i]?=some (Zs (w.params.setOrder a ep) es)[i]:=by simp[hx]
  refine Fo (nx:=0) (x:=(Zs (w.params.setOrder a ep) es)[i].2) (slot:=0) st.1 st.2 hd hf rfl (λA' Q' E' q=>DR ic st.2 hd hf (by rw[ex];exact q)) λh' it sb=>?_;exact hQ _ _ (by simp[ex]) ⟨it,by rw[sb.2 a ib];exact st.2⟩ (xB sb)
 done:=λs Q E st hQ=>by
  refine Gv (slot:=0) hh st.1 st.2 hd hf rfl (λA' Q' E' q=>DR ic st.2 hd hf (by
   rw[show (Zs (w.params.setOrder a ep) es)[es.size]?=none by simp[hsz]];exact q)) λh' sb=>hQ _ (xH sb)
 self:=λi s Q E st hQ=>yx st.1 hQ
theorem Ks {P:Xf} {w:World} {A:Xv} (hh:A.handled=none) {I a:Addr} (ib:a≠I) {u:Obj} {es:Array (Int×Value)} {ep:Nat} {t:YD} (ic:w.params.followText "set-order"=false) (hd:u.data=.set es ep t) (hf:t.fits es.size=true) (hl:t.led=true) (hp:t.plain=true\/es.size<=1) (hr:jM t.place.toList) :
  WalksS P w A I [I,a] [I] (λa b=>b=a) es.size (λi v=>(es.map (·.2))[i]?=some v) (λi s=>∃slot:Nat,iU s.heap I a (.int slot 0) i es.size ep/\s.heap.get? a=some u/\i<=es.size/\(∀k,k<i->t.place.toList.getD k 0<slot)/\∀k,i<=k->k<t.place.toList.length->slot<=t.place.toList.getD k 0) where
 sub:=λb hb=>by simp at hb;simp[hb]
 grefl:=λ_=>rfl
 gtrans:=λ_ _ _ h1 h2=>h2.trans h1
 frame:=λi s h' tk st _ hk=>by
  obtain⟨slot,x1,x2,x3⟩:=st;exact⟨slot,x1.at λo e=>hk I (by simp) o e,hk a (by simp) _ x2,x3⟩
 item:=λi s Q E hi st hQ=>by
  obtain⟨slot,x1,x2,x3,x4,x5⟩:=st;have dj:t.place.toList.length=es.size:=by
   simp only[SetTable.fits,WK,beq_iff_eq,decide_eq_true_eq] at hf;simpa using hf.1
  have qD:i<t.place.toList.length:=by omega
  have e1:es[i]?=some es[i]:=by simp[hi]
  have e2:t.place[i]?=some (t.place.toList.getD i 0):=by
   rw[<- Yd,WQ qD];simp[Zb,WQ qD]
  refine Fo (nx:=t.place.toList.getD i 0+1) (x:=es[i].2) (slot:=slot) x1 x2 hd hf rfl (λA' Q' E' q=>Dq ic x2 hd hf hl hp (pE hr (by omega) x4 x5) (by rw[e1,e2];exact q)) λh' it sb=>?_;refine hQ _ _ (by simp[e1]) ⟨_,it,by rw[sb.2 a ib];exact x2,hi,λk hk=>?_,λk hk mU=>?_⟩ (xB sb)
  ·by_cases Ul:k=i
   ·rw[Ul];omega
   ·have:=vh hr (show k<i by omega) qD
    omega
  ·have:=vh hr (show i<k by omega) mU
   omega
 done:=λs Q E st hQ=>by
  obtain⟨slot,x1,x2,x3,x4,x5⟩:=st;have dj:t.place.toList.length=es.size:=by
   simp only[SetTable.fits,WK,beq_iff_eq,decide_eq_true_eq] at hf;simpa using hf.1
  refine Gv (slot:=slot) hh x1 x2 hd hf rfl (λA' Q' E' q=>Dq ic x2 hd hf hl hp (pE hr (by omega) x4 x5) (by
   rw[show es[es.size]?=none by simp];exact q)) λh' sb=>hQ _ (xH sb)
 self:=λi s Q E st hQ=>by
  obtain⟨slot,x1,_⟩:=st;exact yx x1 hQ
theorem Kt {P:Xf} {w:World} {A:Xv} (hh:A.handled=none) {I a tp:Addr} (ib:a≠I) (Um:tp≠I) {u:Obj} {es:Array (Int×Value)} {ep:Nat} {t:YD} (hd:u.data=.set es ep t) (hf:t.fits es.size=true) (pl:List Nat) (dj:pl.length=es.size) (jU:∀x∈pl,x<es.size) :
  WalksS P w A I [I,a,tp] [I] (λa b=>b=a) es.size (λi v=>(pl.map λk=>(es.getD k (0,Value.none)).2)[i]?=some v) (λi s=>iU s.heap I a (.ref tp) i es.size ep/\s.heap.get? a=some u/\s.heap.IsTuple tp (pl.map λ(k:Nat)=>YA k).toArray) where
 sub:=λb hb=>by simp at hb;simp[hb]
 grefl:=λ_=>rfl
 gtrans:=λ_ _ _ h1 h2=>h2.trans h1
 frame:=λi s h' tk st _ hk=>⟨st.1.at λo e=>hk I (by simp) o e,hk a (by simp) _ st.2.1,let ⟨o,ho,r⟩:=st.2.2;⟨o,hk tp (by simp) o ho,r⟩⟩
 item:=λi s Q E hi st hQ=>by
  have qD:i<pl.length:=by omega
  have e1:pl[i]?=some pl[i]:=WQ qD;have hk:=jU _ (aaH qD);refine M0 (pl:=pl[i]) (x:=es.getD pl[i] (0,Value.none)) (tk:=0) st.1 st.2.1 hd hf rfl st.2.2 (by simp[e1,YA]) (by simp[hk,aan]) λh' it sb=>?_
  refine hQ _ _ (by simp[e1]) ⟨it,by rw[sb.2 a ib];exact st.2.1,let ⟨o,ho,r⟩:=st.2.2;⟨o,by rw[sb.2 tp Um];exact ho,r⟩⟩ (xB sb)
 done:=λs Q E st hQ=>Om hh st.1 st.2.1 hd hf rfl st.2.2 (by simp[dj]) λh' sb=>hQ _ (xH sb)
 self:=λi s Q E st hQ=>yx st.1 hQ
end TS
namespace TS
open PySem PySem.Spec PyProof.Rows
noncomputable def fj (w:World):Bool:=!(w.params.followText "set-order")
section
variable {P:Xf} {w:World} {A:Xv} {E:Value->WI->Prop} {s:WI}
theorem M3 (a:Value) {Q₁:Value->WI->Prop}
  (hq:Q₁ (.ref s.heap.objs.size) { s with heap:=s.heap.push { cls:=.type "set",dict:=none,data:=.set #[] 0 (.fresh 0 0 (fj w)) } }) :
  aaV (model P w) A (.call (.builtin "set.__new__") ⟨[.type "set",a],[]⟩) (wants Q₁ E) s:=by
 refine aaZ ?_;show wpAny _ A.in1 (checkBuiltinCall "set.__new__" ⟨[.type "set",a],[]⟩ >>= λ_=>again (.builtin "set.__new__" ⟨[.type "set",a],[]⟩)) _ _ s;refine WD ?_;refine Zk (F.newCall_set_1 a) ?_;refine WG ⟨plainId_quiet F.plain_set_new _,Zd F.entry_set_new ?_⟩;rw[Y5 F.plain_set_new _];unfold YS.«set.__new__» Builtin.Frozenset.newClass;have ss:=sub_set_self;obtain⟨h1,h2,h3,h4,h5⟩:=s;dsimp only
 wp_walk
 refine YX (WG ?_);dsimp only;simp only[newObj];refine WD (wpAny_alloc ?_);exact WG (WG hq)
end
section
variable {P:Xf} {w:World} {A:Xv} {R:Result->WI->Prop} {I:Addr} {fp wr:List Addr} {G:Array GenState->Array GenState->Prop} {n:Nat} {Pv:Nat->Value->Prop} {St:Nat->WI->Prop} {led:Bool}
theorem M4 (W:WalksS P w A.in1 I fp wr G n Pv St) (S:Addr) (tB:S∉fp)
  (val:Nat->Int) (Tf:∀i v,Pv i v->∃t,v=.int (val i) t) (hb:n+1<ZV) :
  ∀(k i:Nat) (s:WI),n-i=k->i<=n->St i s ->
   gu P w led s.heap S (λj=>(Zu val i).any (·==j)) (Zu val i).length ->
   (∀s',Moved (S::wr) G s s'->gu P w led s'.heap S (λj=>(Zu val n).any (·==j)) (Zu val n).length->R (.ok (.ret .none)) s') ->
   aaV (model P w) A (.builtin "set.update.loop" ⟨[.ref S,.ref I],[]⟩) R s:=by
 have nw:S∉wr:=λz=>tB (W.sub _ z);have sw:∀b∈wr,b∈S::wr:=λb z=>WT _ z;intro k
 induction k with
 |zero =>
  intro i s hk hi st T hR;obtain rfl:i=n:=by omega
  refine Zd F.entry_set_update_loop ?_;rw[Y5 aaa _];show wpAny _ A.in1 (Zy (.ref I) >>= _) _ _ s;refine WD (W.done s _ _ st λs' m=>?_);show wpAny _ A.in1 (ret Value.none) _ _ s';exact WG (hR s' (m.mono sw) (T.at λo e=>m.heap S o nw e))
 |succ k ih =>
  intro i s hk hi st T hR;have lt:i<n:=by omega
  refine Zd F.entry_set_update_loop ?_;rw[Y5 aaa _];show wpAny _ A.in1 (Zy (.ref I) >>= _) _ _ s;refine WD (W.item i s _ _ lt st λv s' pv dI m=>?_);obtain⟨t,rfl⟩:=Tf i v pv;have T':=T.at (h':=s'.heap) λo e=>m.heap S o nw e;show wpAny _ A.in1 (aai [aa9 (val i) t] (setAdd S (.int (val i) t)) >>= _) _ _ s';refine WD (Yf ?_);unfold setAdd;refine Yf ?_;refine WD ((YO P w).pyHash (k:=val i) (intKind_is _ _ _ _) ?_);have room:(Zu val i).length+1<ZV:=by have:=firstMet_length_le val i;omega
  refine Ol (s:={ s' with toks:=s'.toks+1 }) T' room λh' sb T2=>?_
  have T3:gu P w led h' S (λj=>(Zu val (i+1)).any (·==j)) (Zu val (i+1)).length:=T2.congr (λj=>by rw[firstMet_succ,step_any]) (by rw[firstMet_succ,step_length]);refine WG ⟨plainId_quiet aaa _,ih (i+1) _ (by omega) lt (W.frame _ s' _ _ dI (aat _) λb fq o e=>?_) T3 λsR Uo Uq=>?_⟩
  ·rw[sb.2 b λz:b=S=>tB (z ▸ fq)];exact e
  ·refine hR sR (Moved.trans W.gtrans ((m.mono sw).then_heap (aat _) λb o fq e=>?_) Uo) Uq
   rw[sb.2 b λz:b=S=>fq (by rw[z];exact WR)];exact e
end
section
variable {P:Xf} {w:World} {A:Xv} {E:Value->WI->Prop} {s:WI}
theorem K3 {l:Addr} {its:Array Value} {ns:List Int} {Q:Value->WI->Prop}
  (hh:A.handled=none) (hl:s.heap.IsList l its) (hi:aal its.toList ns) (hb:its.size+1<ZV)
  (h:∀(h':Heap) (tk:Nat),gu P w (fj w) h' s.heap.objs.size (λk'=>(Zu (λi=>ns.getD i 0) its.size).any (·==k')) (Zu (λi=>ns.getD i 0) its.size).length ->
   (∀b o,b<s.heap.objs.size->s.heap.get? b=some o->h'.get? b=some o)->Q (.ref s.heap.objs.size) { s with heap:=h',toks:=tk }) :
  wpAny (model P w) A (call (.type "set") [.ref l]) Q E s:=by
 obtain⟨c,tl,ur⟩:=ZF.mro;have um:=ZF.made;have ub:=ZF.sub;refine wpAny_call (aaZ ?_);show wpAny _ _ (callAny (.type "set") _) _ _ _;refine WG ⟨Code.quiet_builtin _ (by decide +kernel),Zd F.entry_type_call ?_⟩;rw[Around.under_plain (weight_type_call_type "set" [.ref l] []) rfl];have h1:=ZF.notType;have h2:=ZF.canCreate;have Wo:=F.typeCall_set_1 (.ref l)
 repeat (any_goals (first|assumption|wp_step))
 refine Ze (M3 (.ref l) (E:=E) (Q₁:=λobj bK=>obj=.ref s.heap.objs.size/\bK={ s with heap:=s.heap.push { cls:=.type "set",dict:=none,data:=.set #[] 0 (.fresh 0 0 (fj w)) } }) ⟨rfl,rfl⟩) λr bK hr=>?_
 cases r with
 |error e=>exact hr
 |ok fl =>
  cases fl with
  |ret obj =>
   obtain⟨rfl,rfl⟩:=hr;have v:(s.heap.push { cls:=.type "set",dict:=none,data:=.set #[] 0 (.fresh 0 0 (fj w)) }).get? s.heap.objs.size=some { cls:=.type "set",dict:=none,data:=.set #[] 0 (.fresh 0 0 (fj w)) }:=WN _ rfl
   have vT:Shared.TypeIs { s with heap:=s.heap.push { cls:=.type "set",dict:=none,data:=.set #[] 0 (.fresh 0 0 (fj w)) } } (.ref s.heap.objs.size) "set":=⟨_,v,rfl⟩
   have vl:=ZF.init.lookup;have vb:=ZF.init.bind (.ref s.heap.objs.size)
   repeat (any_goals (first|assumption|wp_step))
   refine Ze (codeAny_call_builtin (R:=wants (λr wg=>r=.none/\∃h' tk,wg={ s with heap:=h',toks:=tk } /\
     gu P w (fj w) h' s.heap.objs.size (λk'=>(Zu (λi=>ns.getD i 0) its.size).any (·==k')) (Zu (λi=>ns.getD i 0) its.size).length /\
     (∀b o,b<s.heap.objs.size->s.heap.get? b=some o->h'.get? b=some o)) E) ZF.init.plain F.entry_set_init (check_set_init_1 vT ?_)) λTh wg vr=>?_
   ·obtain⟨ol,uo,uc,nn,ud⟩:=hl
    obtain⟨oc,od,oa,Ur⟩:=ol;simp only at uc ud;subst uc;subst ud;have Us:(s.heap.push { cls:=.type "set",dict:=none,data:=.set #[] 0 (.fresh 0 0 (fj w)) }).get? l=some { cls:=.type "list",dict:=od,data:=.seq its nn,slots:=Ur }:=WE _ uo;have u1:=F.sub_list_set;have u2:=F.sub_list_frozenset;have ib:(Y6 "list"==Y6 "dict")=false:=by decide
    have ul:(s.heap.push { cls:=.type "set",dict:=none,data:=.set #[] 0 (.fresh 0 0 (fj w)) }).IsList l its:=⟨_,Us,rfl,nn,rfl⟩;unfold YS.«set.__init__» noKeywords Builtin.Frozenset.updateFrom;generalize vP:pyIter=PI
    wp_walk
    subst vP;refine aaj ul ?_;refine WD (wpAny_runValue ?_);have uS:l<s.heap.objs.size:=WS uo;have v3:A.in1.in1.in1.handled=none:=by simp[hh]
    have uI:l≠(s.heap.push { cls:=.type "set",dict:=none,data:=.set #[] 0 (.fresh 0 0 (fj w)) }).objs.size:=by
     rw[XU];exact Xe (Yi uS)
    have uf:s.heap.objs.size∉[(s.heap.push { cls:=.type "set",dict:=none,data:=.set #[] 0 (.fresh 0 0 (fj w)) }).objs.size,l]:=by
     rw[XU];simp only[W3,Yk,XQ,or_false,not_or];exact⟨Xe (YY _),YH uS⟩
    have uv:∀(i:Nat) (v:Value),its[i]?=some v->∃t,v=.int ((λi=>ns.getD i 0) i) t:=λi v hv =>
     IntsAre.int_at hi i v (by rw[Yd];exact hv)
    refine M4 (led:=fj w) ((Walks.list v3 _ l uI its).toS) s.heap.objs.size
     uf (λi=>ns.getD i 0) uv hb (its.size-0) 0 _ (by omega) (X1 _)
     ⟨⟨_,WN _ rfl,rfl,rfl⟩,(ul.push _)⟩ ?v0 ?vR
    case v0 =>
     have vg:((s.heap.push { cls:=.type "set",dict:=none,data:=.set #[] 0 (.fresh 0 0 (fj w)) }).push { cls:=.type "list_iterator",data:=.fields #[.ref l,.int 0 0] }).get? s.heap.objs.size
       = some { cls:=.type "set",dict:=none,data:=.set #[] 0 (.fresh 0 0 (fj w)) }:=WE _ v
     exact⟨_,#[],0,_,vg,⟨rfl,rfl,rfl⟩,rfl,λe he=>by simp at he,λk=>by simp[firstMet_zero],by unfold ZV;simp,by rfl,rfl,LJ _⟩
    case vR =>
     intro s' hm vS;obtain⟨h',g',d',tq,AB⟩:=s';have eg:g'=s.gens:=hm.gens;have ed:d'=s.drawn:=hm.drawn;have eo:AB=s.os:=hm.os;subst eg;subst ed;subst eo;show wpAny _ _ _ _ _ _;refine WG ?_;show wpAny _ _ (ret Value.none) _ _ _;refine WG ⟨rfl,h',tq,rfl,vS,λb o hb e=>?_⟩;have v1:b≠s.heap.objs.size:=Xe hb;have v2:b≠(s.heap.push { cls:=.type "set",dict:=none,data:=.set #[] 0 (.fresh 0 0 (fj w)) }).objs.size:=by
      rw[XU];exact Xe (Yi hb)
     exact hm.heap b o (by simp only[W3,Yk,XQ,or_false,not_or];exact⟨v1,v2⟩) (WE _ (WE _ e))
   ·cases Th with
    |error e=>exact vr
    |ok RL =>
     cases RL with
     |ret r =>
      obtain⟨rfl,h',tk,rfl,vS,vk⟩:=vr
      repeat (any_goals (first|assumption|wp_step))
      exact h _ _ vS vk
     |_=>exact vr.elim
  |_=>exact hr.elim
end
end TS
namespace TS
open PySem PySem.Spec PyProof.Rows
theorem xC {α:Type}:∀{l:List α} {i:Nat} {x:α},l[i]?=some x->(x::l.eraseIdx i).Perm l
 | [],i,x,h=>by simp at h
 |y::l,0,x,h=>by
  have:y=x:=by simpa using h
  subst this;exact List.Perm.refl _
 |y::l,i+1,x,h=>by
  have ih:=xC (l:=l) (i:=i) (x:=x) (by simpa using h);rw[List.eraseIdx_cons_succ];exact(List.Perm.swap y x _).trans (List.Perm.cons y ih)
theorem Fp {α:Type} (next:Nat->Nat):∀(fuel k:Nat) (left:List α) (out:Array α),left.length=fuel->(pickOrder.go next fuel k left out).toList.Perm (out.toList++left)
 |0,k,left,out,h=>by
  have:left=[]:=aab.mp h;subst this;unfold pickOrder.go;simp
 |fuel+1,k,left,out,h=>by
  unfold pickOrder.go
  have hm:next k % left.length<left.length:=Nat.mod_lt _ (by omega)
  rw[WQ hm];dsimp only;have he:=xC (WQ hm)
  have ih:=Fp next fuel (k+1) (left.eraseIdx (next k % left.length)) (out.push left[next k % left.length]) (by rw[List.length_eraseIdx_of_lt hm];omega)
  refine ih.trans ?_;rw[aar,X3];exact List.Perm.append_left _ he
theorem DT {α:Type} (next:Nat->Nat) (xs:Array α):(Zs next xs).toList.Perm xs.toList:=by
 unfold Zs
 have:=Fp next xs.size 0 xs.toList #[] (by simp)
 simpa using this
section
variable {P:Xf} {w:World} {A:Xv} {E:Value->WI->Prop}
theorem K4 {α:Type} (n:Nat):∀(xs:List α) (s:WI) (Q:List α->WI->Prop),xs.length=n->(∀ys d,ys.Perm xs->Q ys { s with drawn:=d })->wpAny (model P w) A (drawOrder n xs) Q E s:=by
 induction n with
 |zero =>
  intro xs s Q h hQ;have:xs=[]:=aab.mp h;subst this;unfold drawOrder;exact WG (hQ [] s.drawn (List.Perm.refl _))
 |succ n ih =>
  intro xs s Q h hQ
  cases xs with
  |nil=>simp at h
  |cons x xs =>
   unfold drawOrder;refine WD (K1 (by simp) ?_);have hm:w.draws .order (s.drawn.get .order) % (x::xs).length<(x::xs).length:=Nat.mod_lt _ (by simp);rw[WQ hm];dsimp only;refine WD (ih _ _ _ (by rw[List.length_eraseIdx_of_lt hm];omega) λys d hp=>?_);refine WG (hQ _ d ?_);exact(List.Perm.cons _ hp).trans (xC (WQ hm))
theorem M5 {s:WI} {a:Addr} {u:Obj} {es:Array (Int×Value)} {ep:Nat} {t:YD} {Q:Value->WI->Prop} (hu:s.heap.get? a=some u) (hx:u.ExactSet) (hd:u.data=.set es ep t) (hf:t.fits es.size=true) (ht:ix (fj w) t)
  (hsz:es.size<=WX)
  (hQ:∀(h':Heap) (d':Drawn) (I:Addr) (fp:List Addr) (St:Nat->WI->Prop) (order:List Value),(∀b o,s.heap.get? b=some o->h'.get? b=some o)->(∀b∈fp,b<h'.objs.size)->(∀b∈fp,b=a\/s.heap.objs.size<=b)->I∈fp->s.heap.objs.size<=I->order.Perm (es.toList.map (·.2)) ->
   (∀A':Xv,A'.handled=none->WalksS P w A' I fp [I] (λa b=>b=a) es.size (λi v=>order[i]?=some v) St)->St 0 { s with heap:=h',drawn:=d' }->Q (.ref I) { s with heap:=h',drawn:=d' }) :
  wpAny (model P w) A (pyIter (.ref a)) Q E s:=by
 have hT:s.TypeIs (.ref a) "set":=⟨u,hu,hx.1⟩;have bp:a<s.heap.objs.size:=WS hu;refine wpAny_pyIter_slot hT F.slot_set_iter (Xs F.slot_set_iter hT JH ?_ (F.args_set_iter_1 _));unfold YS.«frozenset.__iter__» Builtin.Frozenset.slot0 slotArgs;simp only[ZZ,Xl,WH,↓reduceIte,bind_assoc,W9,bne_self_eq_false];unfold Builtin.Frozenset.addrOf Builtin.Frozenset.sizeOf;refine WD (WG ?_)
 try dsimp only
 refine WD (WG ?_);refine WD (WD (Zm hu hd hf (WG ?_)));unfold setDrawn;refine WD (WD (Zc hu hd hf ?_));dsimp only;unfold setsByText;refine WD (WD (YX (WG ?_)));refine WG ?_
 show wpAny _ _ (if (!(w.params.followText "set-order")&&(!t.plain&&decide (es.size > 1)))=true then _ else _) _ _ _
 have AV:∀(o1:Obj) b o,s.heap.get? b=some o->(s.heap.push o1).get? b=some o:=λo1 b o e=>WE _ e;by_cases hc:(!w.params.followText "set-order"&&(!t.plain&&decide (es.size > 1)))=true
 ·rw[if_pos hc]
  refine WD (K4 _ _ _ _ (by simp) λys d hp=>?_);refine WD ?_;simp only[newTuple];refine W8 ?_ (by have:=hp.length_eq;rw[Yn] at this;show (aaF _).size<=WX;rw[W2,WJ,this];exact hsz);have jU:∀x∈ys,x<es.size:=λx hx=>by simpa using hp.mem_iff.mp hx
  have hl:ys.length=es.size:=by simpa using hp.length_eq
  refine WD (wpAny_setEpoch_of (WE _ hu) hd hf ?_);refine WD (W8 ?_);refine WG ⟨_,rfl,"set_iterator",_,⟨_,WN _ rfl,rfl⟩,jx.lookup,?_⟩;have qE:(s.heap.push { cls:=.type "tuple",data:=.seq (ys.map λ(i:Nat)=>YA i).toArray }).objs.size=s.heap.objs.size+1:=by simp[XU]
  refine hQ _ d _ [_,a,s.heap.objs.size] _ (ys.map λk=>(es.getD k (0,Value.none)).2) (λb o e=>WE _ (WE _ e)) ?_ ?_ (by simp) (by rw[qE];exact aat _) ?_ (λA' ha=>Kt (u:=u) (t:=t) (ep:=ep) ha (I:=_) (a:=a) (tp:=s.heap.objs.size) (by rw[qE];exact Xe (Yi bp)) (by rw[qE];exact Xe (YY _)) hd hf ys hl jU) ⟨⟨_,WN _ rfl,rfl,rfl⟩,WE _ (WE _ hu),⟨_,WE _ (WN _ rfl),rfl,_,rfl⟩⟩
  ·intro b hb
   simp only[W3,XQ,or_false] at hb;rw[XU]
   rcases hb with e|e|e
   ·rw[e];exact YY _
   ·rw[e,qE];exact Yi (Yi bp)
   ·rw[e,qE];exact Yi (YY _)
  ·intro b hb
   simp only[W3,XQ,or_false] at hb
   rcases hb with e|e|e
   ·right;rw[e,qE];exact aat _
   ·exact .inl e
   ·right;rw[e];exact Nat.le_refl _
  ·refine(List.Perm.map _ hp).trans ?_
   have:(WW es.size).map (λk=>(es.getD k (0,Value.none)).2)=es.toList.map (·.2):=by
    apply YL;intro i;rw[W6,W6];by_cases hi:i<es.size
    ·rw[XJ hi,Yd]
     simp[aan,hi]
    ·rw[Xt (by simpa using hi),Xt (by simpa using hi)]
     rfl
   rw[this]
 ·rw[if_neg hc]
  refine WD (WG ?_);refine WD (wpAny_setEpoch_of hu hd hf ?_);refine WD (W8 ?_);refine WG ⟨_,rfl,"set_iterator",_,⟨_,WN _ rfl,rfl⟩,jx.lookup,?_⟩;have ar:∀(o1:Obj),∀b∈[s.heap.objs.size,a],b<(s.heap.push o1).objs.size:=λo1 b hb=>by
   simp only[W3,XQ,or_false] at hb;rw[XU]
   rcases hb with e|e
   ·rw[e];exact YY _
   ·rw[e];exact Yi bp
  have HW:∀b∈[s.heap.objs.size,a],b=a\/s.heap.objs.size<=b:=λb hb=>by
   simp only[W3,XQ,or_false] at hb
   rcases hb with e|e
   ·right;rw[e];exact Nat.le_refl _
   ·exact .inl e
  cases ic:w.params.followText "set-order" with
  |true =>
   have Ut:(Zs (w.params.setOrder a ep) es).size=es.size:=by
    have:=(DT (w.params.setOrder a ep) es).length_eq;simpa using this
   have hw:∀A':Xv,A'.handled=none->WalksS P w A' s.heap.objs.size [s.heap.objs.size,a] [s.heap.objs.size] (λa b=>b=a) es.size (λi v=>((Zs (w.params.setOrder a ep) es).toList.map (·.2))[i]?=some v) _:=λA' ha=>by
    have:=K2 (P:=P) (u:=u) (t:=t) ha (I:=s.heap.objs.size) (a:=a) (Xe bp) ic hd hf Ut;simpa using this
   exact hQ _ s.drawn _ [_,a] _ ((Zs (w.params.setOrder a ep) es).toList.map (·.2)) (λb o e=>WE _ e) (ar _) HW (by simp) (Nat.le_refl _) (List.Perm.map _ (DT _ _)) hw ⟨⟨_,WN _ rfl,rfl,rfl⟩,WE _ hu⟩
  |false =>
   have hp:t.plain=true\/es.size<=1:=by
    rw[ic] at hc;simp at hc
    cases dj:t.plain with
    |true=>exact .inl rfl
    |false=>exact .inr (hc dj)
   have hl:t.led=true:=by rw[ht.led];unfold fj;rw[ic];rfl
   have hr:jM t.place.toList:=by
    rcases hp with hp|hp
    ·exact ht.rise hp
    ·simp only[SetTable.fits,WK,beq_iff_eq,decide_eq_true_eq] at hf
     have hle:t.place.toList.length<=1:=by simp[hf.1];exact hp
     match t.place.toList,hle with
     | [],_=>exact List.Pairwise.nil
     | [x],_=>exact aac _ _
   have hw:∀A':Xv,A'.handled=none->WalksS P w A' s.heap.objs.size [s.heap.objs.size,a] [s.heap.objs.size] (λa b=>b=a) es.size (λi v=>(es.toList.map (·.2))[i]?=some v) _:=λA' ha=>by
    have:=Ks (P:=P) (u:=u) (t:=t) (ep:=ep) ha (I:=s.heap.objs.size) (a:=a) (Xe bp) ic hd hf hl hp hr;simpa using this
   exact hQ _ s.drawn _ [_,a] _ (es.toList.map (·.2)) (λb o e=>WE _ e) (ar _) HW (by simp) (Nat.le_refl _) (List.Perm.refl _) hw ⟨0,⟨_,WN _ rfl,rfl,rfl⟩,WE _ hu,X1 _,λk hk=>by omega,λk _ _=>X1 _⟩
end
end TS
namespace TS
open PySem PySem.Spec PyProof.Rows
section
variable {P:Xf} {w:World} {A:Xv} {E:Value->WI->Prop} {s:WI}
theorem split_len:splitId "set.__len__"=some ("set","__len__"):=by decide +kernel
theorem ints_of {es:List (Int×Value)} (h:ElemsOf (YO P w) es) {vs:List Value} (hp:vs.Perm (es.map (·.2))):∃ns,aal vs ns:=by
 have hv:∀v∈vs,∃k t,v=.int k t:=λv hv=>by
  obtain⟨e,he,rfl⟩:=XN.mp (hp.mem_iff.mp hv);obtain⟨⟨k,hk,_⟩,_⟩:=h e he
  cases hx:e.2 with
  |int i t=>exact⟨i,t,rfl⟩
  |_=>rw[hx] at hk;simp[YO,Value.isInt] at hk
 clear hp
 induction vs with
 |nil=>exact⟨[],.nil⟩
 |cons v vs ih =>
  obtain⟨k,t,rfl⟩:=hv v WR;obtain⟨ns,h2⟩:=ih λx hx=>hv x (WT _ hx);exact⟨k::ns,.cons k t h2⟩
theorem Gw {α:Type} {c:Bool} {x y:Sem α} {Q:α->WI->Prop} (hc:c=true) (h:wpAny (model P w) A x Q E s):wpAny (model P w) A (if c=true then x else y) Q E s:=by
 rw[if_pos hc];exact h
theorem Ku {a:Addr} {u:Obj} {es:Array (Int×Value)} {ep:Nat} {t:YD} {Q:List Value->WI->Prop} (hh:A.handled=none) (hu:s.heap.get? a=some u) (hx:u.ExactSet) (hd:u.data=.set es ep t) (hf:t.fits es.size=true) (ht:ix (fj w) t) (hsz:es.size<ZV)
  (hQ:∀(h':Heap) (d':Drawn) (tk:Nat) (vs:List Value),s.heap.objs.size<=h'.objs.size->(∀b o,s.heap.get? b=some o->h'.get? b=some o)->vs.Perm (es.toList.map (·.2))->Q vs { s with heap:=h',drawn:=d',toks:=tk }):wpAny (model P w) A (collect (.ref a)) Q E s:=by
 have hz:es.size<=WX:=ZL hsz;have bp:a<s.heap.objs.size:=WS hu;unfold collect;refine WD (wpAny_runValue (Zd F.entry_proto_collect ?_));rw[Y5 F.plain_proto_collect _];show wpAny _ A.in1 (newList [] >>= λl=>again (.builtin "list.__iadd__" ⟨[l,.ref a],[]⟩)) _ _ s;refine WD (W8 ?_);refine WG ⟨plainId_quiet F.plain_list_iadd _,Zd F.entry_list_iadd ?_⟩;rw[Y5 F.plain_list_iadd _];show wpAny _ A.in1 (aa0 (.ref s.heap.objs.size) (.ref a) (.ref s.heap.objs.size)) _ _ _
 generalize fG:({ s with heap:=s.heap.push { cls:=.type "list",data:=.seq ([]:List Value).toArray } }:WI)=s1
 have tD:s1.heap.objs.size=s.heap.objs.size+1:=by rw[<- fG];simp[XU]
 have Ag:∀b o,s.heap.get? b=some o->s1.heap.get? b=some o:=λb o e=>by rw[<- fG];exact WE _ e
 have AW:s1.heap.get? a=some u:=by rw[<- fG];exact WE _ hu
 have hT:s1.TypeIs (.ref a) "set":=⟨u,AW,hx.1⟩;have Uu:s1.heap.get? s.heap.objs.size=some { cls:=.type "list",data:=.seq ([]:List Value).toArray }:=by rw[<- fG];exact WN _ rfl
 unfold aa0;refine WD (ZD hT ?_);have n1:Builtin.List.listSameRef (.ref s.heap.objs.size) (.ref a)=false:=by
  simp[Builtin.List.listSameRef];exact YH bp
 have n2:(Y6 "set"==Y6 "list")=false:=by decide
 have n3:(Y6 "set"==Y6 "tuple")=false:=by decide
 simp only[n1,n2,n3,Bool.or_false,WH,if_false];refine WD (M5 AW hx hd hf ht hz λh' d' I fp St order k1 k2 k6 k3 k4 k5 W st=>?_)
 have AX:Shared.TypeIs { s1 with heap:=h',drawn:=d' } (.ref a) "set":=⟨u,k1 _ _ AW,hx.1⟩
 have IU:=k1 _ _ Uu;refine WD (Yf ?_);unfold Builtin.List.listLengthHint;refine WD (aa1 AX F.slot_set_len.lookup ?_);dsimp only;rw[split_len];dsimp only;refine WD (ZY AX sub_set_self ?_);rw[if_neg (by decide)];refine Gw (by decide +kernel) ?_;refine WD (ZD AX ?_);dsimp only;refine WG ?_;refine Gw (by decide +kernel) ?_
 ··refine WD (YV ?_)
   refine WD ?_;show wpAny _ A.in1 (updateSeq s.heap.objs.size (·.push .none) >>= λ_=>updateSeq s.heap.objs.size (·.pop)) _ _ _;refine WD (wpAny_updateSeq IU rfl ?_);have IV:=X6 (YK (·.push Value.none)) IU rfl;refine wpAny_updateSeq IV rfl ?_;have Uv:=X6 (YK (·.pop)) IV rfl;have tB:s.heap.objs.size∉fp:=λhm=>by
    rcases k6 _ hm with e|e
    ·exact YH bp e
    ·rw[tD] at e;exact Nat.not_succ_le_self _ e
   have AV:∀b o,b≠s.heap.objs.size->h'.get? b=some o->((h'.update s.heap.objs.size (YK (·.push Value.none))).update s.heap.objs.size (YK (·.pop))).get? b=some o :=
    λb o hb e=>(Zt _ _ (Zx hb)).trans ((Zt _ _ (Zx hb)).trans e)
   refine WG ⟨plainId_quiet F.plain_extend_loop _,codeAny_extend_loopS (W A.in1 (by simp[hh])) hz _ tB _ es.size 0 _ _ _ rfl (X1 _) ((W A.in1 (by simp[hh])).frame 0 ({ s1 with heap:=h',drawn:=d' }:WI) _ s1.toks st (Nat.le_refl _) λb hb o e=>AV b o (λz=>tB (z ▸ hb)) e) Uv (ItemsOf.nil _) λs' acc c m IW km=>?_⟩
   show wpAny _ A (load s.heap.objs.size >>= _) _ _ s';refine WD (wpAny_load IW ?_);refine WG ?_;have Uw:order.length=es.size:=by simpa using k5.length_eq
   have Ti:acc.toList=order:=by
    apply YL;intro j;by_cases hj:j<acc.size
    ·have e1:acc[j]?=some acc[j]:=by simp[hj]
     rw[Yd,e1,km.2 j _ e1]
    ·rw[Xt (by simpa using hj),Xt (by rw[Uw,<- km.1];omega)]
   obtain⟨h2,g2,d2,t2,o2⟩:=s';have eg:g2=s1.gens:=m.gens;have ed:d2=d':=m.drawn;have eo:o2=s1.os:=m.os;subst eg ed eo;have q:=hQ h2 d2 t2 acc.toList (Nat.le_of_lt (WS IW)) (λb o e=>m.heap b o (λhb=>by
    simp only[W3,XQ,or_false] at hb;have lU:=WS e
    rcases hb with z|z
    ·rw[z] at lU;exact Xk _ lU
    ·rw[tD] at k4;rw[z] at lU;exact Xk _ (WL lU (Nat.le_of_succ_le k4))) (AV b o (λz=>by
     have lU:=WS e;rw[z] at lU;exact Xk _ lU) (k1 b o (Ag b o e)))) (by rw[Ti];exact k5)
   rw[<- fG];exact q
end
end TS
namespace TS
open PySem PySem.Spec PyProof.Rows
section
variable {P:Xf} {w:World} {A:Xv} {E:Value->WI->Prop} {s:WI}
theorem K5 {a:Addr} {u:Obj} {es:Array (Int×Value)} {ep:Nat} {t:YD} {Q:Value->WI->Prop} (hh:A.handled=none) (hu:s.heap.get? a=some u) (hx:u.ExactSet) (hd:u.data=.set es ep t) (hf:t.fits es.size=true) (ht:ix (fj w) t) (AY:ElemsOf (YO P w) es.toList) (Wq:es.size<64)
  (h:∀(h':Heap) (d':Drawn) (tk:Nat) (p:Addr) (vs:List Value) (ns:List Int) (out:List Value) (ms:List Int) (e:Nat),(∀b o,s.heap.get? b=some o->h'.get? b=some o)->s.heap.objs.size<=p->vs.Perm (es.toList.map (·.2))->aal vs ns->h'.get? p=some { cls:=.type "list",data:=.seq out.toArray e }->aal out ms->ms.Perm ns->ms.Pairwise (·<=·)->Q (.ref p) { s with heap:=h',drawn:=d',toks:=tk }) :
  wpAny (model P w) A (call (.builtin "sorted") [.ref a]) Q E s:=by
 refine Calls.call_function_entry kind_sorted plain_sorted entry_sorted (args_sorted1 _) ?_;unfold YS.«sorted»;refine WD (m:=checkCount "sorted" 1 1 _) (WG ?_);refine WD (Ku (by simp[hh]) hu hx hd hf ht (by unfold ZV;omega) λh' d' tk vs k0 k1 k2=>?_);obtain⟨ns,hI⟩:=ints_of AY k2;have hl:vs.length<64:=by have:=k2.length_eq;simp at this;omega
 refine WD (wpAny_newList ?_);have sI:(h'.push (aa4 "list" vs.toArray 0)).get? h'.objs.size=some (aa4 "list" vs.toArray 0):=WN _ rfl;refine WD (Yf (Xs slot_list_sort ⟨_,sI,rfl⟩ entry_list_sort (list_sort_tree sI hI hl λout ms a1 a2 a3=>⟨_,rfl,?_⟩) (args_list_sort _)));obtain⟨e,he⟩:=sortedHeap_at (out:=out) sI;refine WG ⟨_,rfl,h _ d' tk h'.objs.size vs ns out.toList ms e (λb o hb=>?_) ?_ k2 hI (by simpa [aa4] using he) a1 a2 a3⟩
 ·have fq:=k1 b o hb
  have bp:=WS fq;rw[sortedHeap_old (Xe bp) (by rw[size_push'];exact Yi bp)];exact WE _ fq
 ·exact k0
end
end TS
namespace L2
open PySem PySem.Spec PyProof.Rows
noncomputable def kn (P:Xf) (w:World) (p:Addr) (ns:List Int):Heap->Prop:=λh=>∃(S:Int->Bool) (n:Nat),TS.gu P w (TS.fj w) h p S n/\(∀k,S k=true↔k∈ns)/\n<=ns.length/\n=(ns.foldl step_dedup []).length
section
variable {X:Cx}
theorem ma (l:List Int) (k:Int):(l.any (·==k))=true↔k∈l:=by
 rw[Zq];exact⟨λ⟨x,h1,h2⟩=>by rw[<- beq_iff_eq.mp h2];exact h1,λh=>⟨k,h,by simp⟩⟩
theorem Oo {h:Heap} {p:Addr} {ns:List Int} {m:Nat} (hm:m=ns.length) (hS:TS.gu X.prog X.w (TS.fj X.w) h p (λk'=>(Zu (λi=>ns.getD i 0) m).any (·==k')) (Zu (λi=>ns.getD i 0) m).length):kn X.prog X.w p ns h:=by
 subst hm;refine⟨_,_,hS,λk=>?_,firstMet_length_le _ _,?_⟩
 ·rw[firstMet_any,map_getD]
  exact ma ns k
 ·unfold Zu
  rw[map_getD]
theorem Oq {H:Hp} {h:Heap} {p:Addr} {ns:List Int} (hx:kn X.prog X.w p ns h):dD X.prog X.w (upd H p (.ext (kn X.prog X.w p ns))) h p (.ext (kn X.prog X.w p ns)):=by
 refine⟨hx,?_,λh1 h2 q k=>?_⟩
 ·obtain⟨_,_,⟨o,_,_,_,ho,_⟩,_⟩:=hx
  exact⟨o,ho⟩
 ·obtain⟨S,n,T,r⟩:=q
  exact⟨S,n,T.at k,r⟩
theorem K6 (hc:X.calm=true):cz X (.type "set") (λxs H Q=>∃(a:Addr) (ns:List Int),xs=[.ref a]/\ba X.K H a (ns.map V.int)/\ns.length<4000/\∀p,H p=none->Q (.ref p) (upd H p (.ext (kn X.prog X.w p ns)))):=by
 intro pins s σ H xs us Q I r h;obtain⟨a,ns,rfl,ha,hl,q⟩:=h;obtain⟨u,rfl,ru⟩:=vals1 r;cases ru;obtain⟨its,rv,p,_⟩:=I.list ha;have hn:its.toArray.size=ns.length:=by
  have e:=rv.length;rw[WJ] at e;simpa using e.symm
 refine TS.K3 (its:=its.toArray) (ns:=ns) (I.ok.hd hc) p.isList (by simpa using intsAre_of rv) (by rw[hn];show ns.length+1<4096;omega) λh' tk hS hk=>?_;exact⟨.ref _,_,I.laid (t':=tk) (λb o e=>hk b o (WS e) e) (Nat.le_refl _) (Oq (Oo hn hS)),rfl,q _ (I.aM.fresh (Nat.le_refl _))⟩
theorem CD:∀{out:List Value} {ms:List Int},aal out ms->Vals (ms.map V.int) out
 |_,_,.nil=>.nil
 |_,_,.cons n t h=>.cons ⟨t,rfl⟩ (CD h)
theorem C2:∀(ns acc:List Int),acc.Nodup->(ns.foldl step_dedup acc).Nodup
 | [],acc,h=>h
 |n::ns,acc,h=>by
  refine C2 ns _ ?_;unfold step_dedup;split
  ·exact h
  ·rename_i hn
   rw[Zr] at hn;refine aau.mpr ⟨h,by simp,λa ha b hb=>?_⟩;have:b=n:=by simpa using hb
   subst this;intro e;subst e;rw[(ma acc a).mpr ha] at hn;cases hn
theorem Ew:∀{vs:List Value} {ns:List Int},aal vs ns->∀k,k∈ns↔∃t,aa9 k t∈vs
 |_,_,.nil,k=>by simp
 |_,_,.cons n t h,k=>by
  rw[W3,Ew h k];constructor
  ·rintro (e | ⟨t',h'⟩)
   ·subst e;exact⟨t,WR⟩
   ·exact⟨t',WT _ h'⟩
  ·rintro ⟨t',h'⟩
   rcases W3.mp h' with e|h'
   ·injection e with e _;exact .inl e
   ·exact .inr ⟨t',h'⟩
theorem sub_len:∀{m l:List Int},m.Nodup->(∀k,k∈m->k∈l)->m.length<=l.length
 | [],l,_,_=>X1 _
 |x::m,l,h,hk=>by
  obtain⟨h1,h2⟩:=ZA.mp h;have hx:=hk x WR;have ih:=sub_len (m:=m) (l:=l.erase x) h2 λk hm=>(List.mem_erase_of_ne (λ(e:k=x)=>h1 (by rw[<- e];exact hm))).mpr (hk k (WT _ hm));rw[List.length_erase_of_mem hx] at ih;have:=List.length_pos_of_mem hx;rw[W5];omega
theorem CF:∀{l m:List Int},m.Nodup->(∀k,k∈m↔k∈l)->l.length<=m.length->l.Nodup
 | [],m,_,_,_=>aa7
 |a::r,m,hm,hk,hl=>by
  have ha:a∉r:=λh=>by
   have:=sub_len hm λk h'=>(W3.mp ((hk k).mp h')).elim (λe=>e ▸ h) id;rw[W5] at hl;omega
  have Ux:a∈m:=(hk a).mpr WR;refine ZA.mpr ⟨ha,CF (m:=m.erase a) (hm.erase a) (λk=>?_) ?_⟩
  ·rw[hm.mem_erase_iff,hk k,W3]
   constructor
   ·rintro ⟨h1,h2|h2⟩
    ·exact absurd h2 h1
    ·exact h2
   ·intro h
    exact⟨λe=>ha (e ▸ h),.inr h⟩
  ·rw[List.length_erase_of_mem Ux]
   rw[W5] at hl;omega
theorem J4 (hc:X.calm=true):cz X (.builtin "sorted") (λxs H Q=>∃(p:Addr) (ns:List Int),xs=[.ref p]/\H p=some (.ext (kn X.prog X.w p ns))/\ns.length<64 /\
  ∀(l:Addr) (ms:List Int),H l=none->ms.Pairwise (· < ·)->(∀k,k∈ms↔k∈ns)->Q (.ref l) (upd H l (.lst (ms.map V.int)))):=by
 intro pins s σ H xs us Q I r h;obtain⟨p,ns,rfl,hp,hl,q⟩:=h;obtain⟨v,rfl,rv⟩:=vals1 r;cases rv;obtain⟨⟨S,n,⟨u,es,ep,t,hu,hx,hd,AY,Tj,hb,hf,hn,ht⟩,hS,AZ,qB⟩,_⟩:=I.aM p _ hp;refine TS.K5 (I.ok.hd hc) hu hx hd hf ht AY (by omega) λh' d' tk l vs ks out ms e k1 k2 k3 k4 k5 k6 k7 k8=>?_;have Hh:∀k,k∈ms↔k∈ns:=λk=>by
  rw[k7.mem_iff,Ew k4 k,<- hS k,Tj k];constructor
  ·rintro ⟨t',Uy⟩
   obtain⟨x,iE,ie⟩:=XN.mp (k3.mem_iff.mp Uy);exact⟨x,iE,by rw[ie];exact intKind_is _ _ _ _⟩
  ·rintro ⟨x,iE,ie⟩
   obtain⟨i,t',e'⟩:∃i t',x.2=.int i t':=by
    cases hv:x.2 with
    |int i t'=>exact⟨i,t',rfl⟩
    |_=>rw[hv] at ie;simp[YO,Value.isInt] at ie
   have ox:k=i:=(YO X.prog X.w).inj (.int i t') k i (by rw[<- e'];exact ie) (intKind_is _ _ _ _);subst ox;exact⟨t',k3.mem_iff.mpr (XN.mpr ⟨x,iE,e'⟩)⟩
 have Tn:ms.Nodup:=by
  have oy:=C2 ns [] aa7;refine CF oy (λk=>?_) ?_
  ·rw[Hh k,<- ma,<- ma]
   have:=firstMet_any (λi=>ns.getD i 0) ns.length k;unfold Zu at this;rw[map_getD] at this;rw[this]
  ·rw[<- qB,<- hn]
   have e1:=k7.length_eq;have e2:=k4.length;have e3:=k3.length_eq;simp at e3;omega
 have bp:ms.Pairwise (· < ·):=by
  have:=List.pairwise_and_iff.mpr ⟨k8,Tn⟩;exact this.imp λ⟨a,b⟩=>by omega
 have J:=I.laid (t':=tk) (a:=l) (o:=.lst (ms.map V.int)) k1 k2 ⟨by
  rw[WJ,Zz];have e1:=k7.length_eq;have e2:=k4.length;have e3:=k3.length_eq;simp at e3;omega,out,e,CD k6,k5⟩
 exact⟨.ref l,_,J.zp (s':={ s with heap:=h',drawn:=d',toks:=tk }) (ch:=[]) rfl Un.refl J.aM J.bare (λb hb=>by cases hb),rfl,q l ms (I.aM.fresh k2) bp Hh⟩
end
end L2
namespace L2
open PySem PySem.Spec PyProof.Rows
section
variable {X:Cx}
end
end L2
namespace L2
open PySem PySem.Spec PyProof.Rows
mutual
noncomputable def tF:ZR->Bool
 | .tuple ds=>qm ds
 | .list _=>false
 |_=>true
noncomputable def qm:List ZR->Bool
 | []=>true
 |d::ds=>tF d&&qm ds
end
section
variable {X:Cx} {pins:List (Addr×Obj)} {σ:St} {H:Hp} {s:WI} {Z:Addr->Prop}
mutual
theorem DV.rB (I:Inv X pins σ H s):∀{d:ZR} {v:V} {u:Value},DV X.K Z H d v->RelV v u->tF d=true->∃as,Reads s.heap u d as/\YT∉as
 | .none,v,u,h,r,_=>by
  have e:v=.aB:=h;subst e;cases r;exact⟨[],.none,by simp⟩
 | .bool b,v,u,h,r,_=>by
  have e:v=.bl b:=h;subst e;cases r;exact⟨[],.bool b,by simp⟩
 | .int i,v,u,h,r,_=>by
  have e:v=.int i:=h;subst e;obtain⟨t,rfl⟩:=r;exact⟨[],.int i t,by simp⟩
 | .str x,v,u,h,r,_=>by
  have e:v=.str x:=h;subst e;obtain⟨t,rfl⟩:=r;exact⟨[],.str x t,by simp⟩
 | .tuple ds,v,u,h,r,hn=>by
  simp only[DV] at h;obtain⟨a,xs,e,hq,hr⟩:=h;subst e;cases r;obtain⟨its,rv,⟨o,e,c,n,hd⟩,_⟩:=I.tuple hq;obtain⟨as,rs,hs⟩:=au.rB I hr rv (by simpa only [tF] using hn);exact⟨as,.tuple e c hd (by simpa using rs),hs⟩
 | .list ds,v,u,h,r,hn=>by
  simp only[tF] at hn;cases hn
 | .dict aq,v,u,h,r,_=>by
  simp only[DV] at h;obtain⟨a,es,e,_,hq,l,e1,e2⟩:=h;subst e e1 e2;cases r;obtain⟨_,Aa,vs,kv,o,fZ,ep,g1,g2,g3,_,g5,_⟩:=(show dD X.prog X.w H s.heap a (.dK _) from I.aM a _ hq);obtain⟨r1,r2⟩:=uz (h:=s.heap) kv g5;refine⟨a::[]++[],.dict g1 g2.1 g3 r1 r2,λhm=>?_⟩;have e:YT=a:=by simpa using hm
  subst e;simp at Aa
theorem au.rB (I:Inv X pins σ H s):∀{ds:List ZR} {vs:List V} {us:List Value},au X.K Z H ds vs->Vals vs us->qm ds=true->∃as,ReadsAll s.heap us ds as/\YT∉as
 | [],vs,us,h,r,_=>by
  have e:vs=[]:=h;subst e;cases r;exact⟨[],.nil,by simp⟩
 |d::ds,vs,us,h,r,hn=>by
  obtain⟨v,rr,e,h1,h2⟩:=h;subst e;simp only[qm,WK] at hn
  cases r with
  |cons ru rt =>
   obtain⟨as,a1,n1⟩:=DV.rB I h1 ru hn.1;obtain⟨bs,a2,n2⟩:=au.rB I h2 rt hn.2;refine⟨as++bs,.cons a1 a2,λhm=>?_⟩
   rcases XX.mp hm with z|z
   ·exact n1 z
   ·exact n2 z
end
end
section
variable {X:Cx}
theorem K7 {k:Nat} (hr:cI k X.A):cz X (.builtin "repr") (λxs H Q=>∃(x:V) (ds:List ZR) (Z:Addr->Prop),xs=[x]/\DV X.K Z H (.tuple ds) x/\(PyData.tuple ds).showable=true/\((PyData.tuple ds).hasDict=false\/qm ds=true)/\(PyData.tuple ds).depth<=100/\(PyData.tuple ds).shown.length<=WX/\Q (.str (PyData.tuple ds).shown) H):=by
 intro pins s σ H xs us Q I r h;obtain⟨x,ds,Z,rfl,hd,hs,qB,sZ,hz,q⟩:=h;obtain⟨u,rfl,ru⟩:=vals1 r;have wU:X.A.units+((PyData.tuple ds).depth+1)<cLine:=by have:=hr.un;omega
 have go:∀as,Reads s.heap u (.tuple ds) as->((PyData.tuple ds).hasDict=true->YT∉as)->wpAny (model X.prog X.w) X.A (call (.builtin "repr") [u]) (EP X pins σ Q) X.xe s:=λas rd AM=>by
  obtain⟨a,e⟩:∃a,u=.ref a:=by cases rd;exact⟨_,rfl⟩
  subst e;exact repr_of_reads' rd hs AM hr.gd wU (λ_ _ e=>e) (λh' t tk hk=>⟨.str _,H,I.kept (t':=tk) hk,⟨t,rfl⟩,q⟩) hz
 rcases qB with e|e
 ·obtain⟨as,rd⟩:=hd.reads I ru
  exact go as rd λz=>by rw[e] at z;cases z
 ·obtain⟨as,rd,hn⟩:=hd.rB I ru (by simpa only [tF] using e)
  exact go as rd λ_=>hn
end
end L2
namespace HZ
open PySem PySem.Spec PyProof.Rows
open AutoSeq1 (wpAny_loadPart')
section
variable {P:Xf} {w:World} {A:Xv} {E:Value->WI->Prop} {s:WI}
end
end HZ
namespace L2
open PySem PySem.Spec PyProof.Rows
section
variable {X:Cx} {elts:List Expr} {kk:Nat} {tp:Pos}
end
end L2
namespace L2
open PySem PySem.Spec PyProof.Rows
section
variable {K:Frag} {caps:St} {H:Hp} {tf:TT} {te:TE} {Q:VK}
end
end L2
namespace HZ
open PySem PySem.Spec PyProof.Rows
theorem Jx:fillsNumberSlot (.type "tuple") "mul"=pure false:=by
 first|rfl | (unfold fillsNumberSlot;kernel_rfl)|kernel_rfl
theorem J5:seqRepeat? (.type "tuple")=pure (some (.builtin "tuple.__mul__")):=by
 first|rfl|kernel_rfl
theorem K8 (a:Int) (t:Tok) (l:Addr) (items:Array Value) (n:Nat) (d:Option Addr) (sl:Array (Option Value)) :
  Meets (YS.«int.__rmul__» ⟨[.int a t,.ref l],[]⟩) (λ_ R s=>s.heap.get? l=some { cls:=.type "tuple",dict:=d,data:=.seq items n,slots:=sl }/\R (.ok (.ret Value.notImplemented)) s) :=
 .of_wp λprog w A R s h=>by
  obtain⟨h1,h2,h3,h4,h5⟩:=s;obtain⟨hl,h⟩:=h;wp_walk;exact⟨_,rfl,h⟩
section
variable {P:Xf} {w:World} {A:Xv} {E:Value->WI->Prop} {s:WI}
theorem Ot {t:Addr} {vs:List Value} {k:Int} {tk:Tok} {Q:Value->WI->Prop} (ht:IsTup s.heap t vs.toArray) (hv:vs≠[]) (hk:1<=k) (hz:vs.length*k.toNat<=WX)
  (h1:k=1->Q (.ref t) s) (h2:k≠1->Q (.ref s.heap.objs.size) { s with heap:=s.heap.push { cls:=.type "tuple",data:=.seq (WM k.toNat vs).flatten.toArray } }) :
  wpAny (model P w) A (YB .Mult (.ref t) (.int k tk)) Q E s:=by
 obtain⟨⟨cls,dd,data,sl⟩,ho,hc,n,hd⟩:=id ht;simp only at hc hd;subst hc hd;have mU:k<=16777216:=by
  have hl:1<=vs.length:=by
   cases vs with
   |nil=>exact absurd rfl hv
   |cons a r=>simp
  have kB:vs.length*k.toNat<=16777216:=by rw[<- Zz];exact hz
  have:1*k.toNat<=vs.length*k.toNat:=Nat.mul_le_mul_right _ hl;omega
 refine wpAny_binaryOp_repeat_ref (T:="tuple") (U:="int") (by decide) ⟨_,ho,rfl⟩ (λs'=>typeIs_int s' k tk) Jx F.fills_int_mul aaW J5 F.slot_int_index.lookup
  (call_meets aaW (typeIs_int s k tk) F.entry_int_rmul (F.args_int_rmul_2 _ _) (K8 k tk t vs.toArray n dd sl) ⟨ho,rfl,⟨_,ho,rfl⟩,?_⟩)
 refine Xs F.slot_tuple_mul ⟨_,ho,rfl⟩ F.entry_tuple_mul ?_ (F.args_tuple_mul_2 _ _);show wpAny _ _ (asIndex (.int k tk) >>= _) _ _ _;refine WD ?_
 refine Zk (a:=k) (by first|rfl | (unfold asIndex;rfl)) ?_
 dsimp only;rw[if_neg (by simp;omega)];unfold Yo;refine WD (WD (Yr ho rfl ?_));refine WG ?_;have ne:vs.toArray.isEmpty=false:=by
  cases vs with
  |nil=>exact absurd rfl hv
  |cons a r=>simp
 by_cases h:k=1
 ·rw[if_pos (by rw[h];simp)]
  unfold ZN;refine WD (WD (ZD (T:="tuple") ⟨_,ho,rfl⟩ (WG ?_)));rw[if_pos (by decide)];exact WD (YV (WG ⟨_,rfl,h1 h⟩))
 ·rw[if_neg (by rw[ne];simp[h])]
  rw[if_neg (by rw[ne];simp;omega)];have hm:(vs.toArray.size:Int)*k=((vs.length*k.toNat:Nat):Int):=by
   rw[W2,Int.natCast_mul];congr 1;omega
  have A0:vs.length*k.toNat<=16777216:=by rw[<- Zz];exact hz
  rw[if_neg (by rw[hm];omega)];rw[if_neg (by
   unfold Builtin.Tuple.tupleTooMany;rw[hm,Zz,decide_eq_true_eq];generalize vs.length*k.toNat=q at A0;omega)]
  unfold XE;have e:List.foldl (λx1 x2=>x1++x2) #[] (WM k.toNat vs.toArray)=(WM k.toNat vs).flatten.toArray:=by
   have:=L2.foldl_rep vs k.toNat [];rw[XG] at this;exact this
  rw[e];refine WD (W8 ?_ (by
   show (aaF _).size<=WX;rw[W2,L2.len_rep,Nat.mul_comm];exact hz))
  exact WG ⟨_,rfl,h2 h⟩
end
end HZ
namespace L2
open PySem PySem.Spec PyProof.Rows
section
variable {X:Cx}
noncomputable def RM (K:Frag):R2:=λx y H Q=>∃a xs k,x=.ref a/\y=.int k/\aZ K H a xs/\xs≠[]/\1<=k/\xs.length*k.toNat<=WX/\kj K H (WM k.toNat xs).flatten Q
theorem Ou:bE X (YB .Mult) (RM X.K):=by
 intro pins s σ H x y v u Q I rx ry h;obtain⟨a,xs,k,rfl,rfl,hs,hx,hk,hz,q⟩:=h;cases rx;obtain⟨t,rfl⟩:=ry;obtain⟨its,r,p,z⟩:=I.tuple hs;have hl:=r.length;refine HZ.Ot p (λe=>hx (by rw[e] at hl;exact aab.mp hl)) hk (by rw[<- hl];exact hz) (λe=>?_) (λ_=>?_)
 ·have e1:(WM k.toNat xs).flatten=xs:=by rw[e];simp
  rw[e1] at q;exact⟨.ref a,H,I,rfl,q.here hs⟩
 ·have kB:(WM k.toNat xs).flatten.length<=WX:=by rw[len_rep,Nat.mul_comm];exact hz
  exact⟨.ref _,_,I.laid (t':=s.toks) (o:=.tup (WM k.toNat xs).flatten) (λb o e=>WE _ e) (Nat.le_refl _) ⟨kB,_,r.rep k.toNat,⟨_,WN _ rfl,rfl,_,rfl⟩⟩,rfl,q.new (I.aM.fresh (Nat.le_refl _))⟩
end
end L2
namespace HZ
open PySem PySem.Spec PyProof.Rows
theorem Fq:mroOf (.type "reversed")=pure [.type "reversed",.type "object"]:=by rw[mroOf_type];kernel_rfl
theorem JI:typeLookup (.type "reversed") "__new__"=pure (some (.builtin "reversed.__new__")):=by rw[typeLookup_type,aaG];kernel_rfl
theorem M6:Bind.madeBy (.type "reversed")=pure (some "reversed.__new__"):=madeBy_type Fq JI (by decide +kernel)
theorem JS:entryFor table "reversed.__new__"=some YS.«reversed.__new__»:=entryFor_of_tree (by kernel_rfl)
theorem JT:plainId "reversed.__new__"=true:=by decide +kernel
theorem J6 (a:Value):checkTypeCall "reversed" ⟨[a],[]⟩=pure ():=by kernel_rfl
theorem Kv (a:Value):checkBuiltinCall "reversed.__new__" ⟨[.type "reversed",a],[]⟩=pure ():=by kernel_rfl
theorem Ov:isSubtype (.type "reversed") (.type "reversed")=pure true:=by rw[isSubtype_type];kernel_rfl
theorem K9:isSubtype (.type "range_iterator") (.type "reversed")=pure false:=by rw[isSubtype_type];kernel_rfl
theorem J7:(Y6 "reversed"==Y6 "type")=false:=by decide +kernel
theorem Ow:((Manifest.find? "reversed").bind (·.mro.findSome? λt=>(Manifest.find? t).bind λb=>if b.noNew then some true else if b.attrs.any (·.1=="__new__") then some false else none)).getD false=false:=by decide +kernel
section
variable {P:Xf} {w:World} {A:Xv} {E:Value->WI->Prop} {s:WI}
theorem J8 {r:Addr} {a b c:Int} {t1 t2 t3:Tok} {Q:Int×Int×Int->WI->Prop} (hr:s.heap.get? r=some { cls:=.type "range",data:=.fields #[.int a t1,.int b t2,.int c t3] }) (h:Q (a,b,c) s):wpAny (model P w) A (aa8 (.ref r)) Q E s:=by
 unfold aa8;refine WD (XY hr rfl (x:=.int a t1) rfl ?_);refine WD (Zk (a:=some a) (by rfl) ?_);refine WD (XY hr rfl (x:=.int b t2) rfl ?_);refine WD (Zk (a:=some b) (by rfl) ?_);refine WD (XY hr rfl (x:=.int c t3) rfl ?_);refine WD (Zk (a:=some c) (by rfl) ?_);exact WG h
theorem Ox {r:Addr} {n:Nat} {t1 t2 t3:Tok} {Q:Value->WI->Prop} (hr:s.heap.get? r=some { cls:=.type "range",data:=.fields #[.int 0 t1,.int n t2,.int 1 t3] }) (hn:n<2 ^ 62)
  (h:Q (.ref s.heap.objs.size) { s with heap:=s.heap.push { cls:=.type "range_iterator",data:=.fields #[YA (n-1),YA n,YA (-1)] } }) :
  wpAny (model P w) A (YS.«reversed.__new__» ⟨[.type "reversed",.ref r],[]⟩) (λfin s'=>∃v,fin=.done (.ret v)/\Q v s') E s:=by
 have hT:s.TypeIs (.ref r) "range":=⟨_,hr,rfl⟩;have ss:=Ov;unfold YS.«reversed.__new__» Builtin.SmallTypes.newClass Builtin.SmallTypes.refuseKeywords;have l1:=ZG.lookup;have l2:=ZG.bind (.ref r)
 wp_walk
 refine Ze (codeAny_call_builtin (R:=wants (λv s'=>v=.ref s.heap.objs.size/\s'={ s with heap:=s.heap.push { cls:=.type "range_iterator",data:=.fields #[YA (n-1),YA n,YA (-1)] } }) E) ZG.plain F.entry_range_reversed (ZG.check _ _ _ _ _ _ _ _ hT (F.args_range_reversed_1 _) ?_)) λr2 s2 hq=>?_
 ·unfold YS.«range.__reversed__»
  refine WD (Zk (a:=.ref r) (by rfl) ?_);refine WD (J8 hr ?_);dsimp only;have sz:YG 0 n 1=n:=by
   unfold YG;rw[if_pos (by decide)]
   split<;>omega
  rw[sz];have fl:(X2 0&&X2 n&&X2 1&&X2 (-1)&&X2 (0-1)&&X2 n)=true:=by
   have Iy:(n:Int)<2 ^ 62:=by omega
   unfold X2;simp only[WK,decide_eq_true_eq];refine⟨⟨⟨⟨⟨⟨by decide,by decide⟩,by omega,by omega⟩,by decide,by decide⟩,by decide,by decide⟩,by decide,by decide⟩,by omega,by omega⟩
  rw[fl];rw[if_neg (by decide)];refine WD (W8 ?_);refine WG ?_;refine⟨rfl,?_⟩;have e:(0:Int)+((n:Int)-1)*1=n-1:=by omega
  simp[YA]
 ·cases r2 with
  |error e=>exact hq
  |ok fl =>
   cases fl with
   |ret v =>
    obtain⟨rfl,rfl⟩:=hq;exact WG ⟨_,rfl,h⟩
   |_=>exact hq
theorem M7 {r:Addr} {n:Nat} {t1 t2 t3:Tok} {Q:Value->WI->Prop} (hr:s.heap.get? r=some { cls:=.type "range",data:=.fields #[.int 0 t1,.int n t2,.int 1 t3] }) (hn:n<2 ^ 62)
  (h:Q (.ref s.heap.objs.size) { s with heap:=s.heap.push { cls:=.type "range_iterator",data:=.fields #[YA (n-1),YA n,YA (-1)] } }):wpAny (model P w) A (call (.type "reversed") [.ref r]) Q E s:=by
 have m1:=Fq;have m2:=M6;have m3:=K9;have m4:=J7;have m5:=Ow;have m6:=J6 (.ref r);refine wpAny_call (aaZ ?_);show wpAny _ _ (callAny (.type "reversed") _) _ _ _;refine WG ⟨Code.quiet_builtin _ (by decide +kernel),Zd F.entry_type_call ?_⟩;rw[Around.under_plain (weight_type_call_type "reversed" [.ref r] []) rfl]
 repeat (any_goals (first|assumption|wp_step))
 refine Ze (codeAny_call_builtin (R:=wants (λv s'=>v=.ref s.heap.objs.size/\s'={ s with heap:=s.heap.push { cls:=.type "range_iterator",data:=.fields #[YA (n-1),YA n,YA (-1)] } }) E) JT JS (Zk (Kv _) ?_)) λr2 s2 hq=>?_
 ·refine Yy (Ox (Q:=λv s'=>v=.ref s.heap.objs.size/\s'={ s with heap:=s.heap.push { cls:=.type "range_iterator",data:=.fields #[YA (n-1),YA n,YA (-1)] } }) hr hn ⟨rfl,rfl⟩) (λf s' hf=>?_) λ_ _ e=>e
  obtain⟨v,rfl,hv⟩:=hf;exact hv
 ·cases r2 with
  |error e=>exact hq
  |ok fl =>
   cases fl with
   |ret v =>
    obtain⟨rfl,rfl⟩:=hq
    have hT:Shared.TypeIs { s with heap:=s.heap.push { cls:=.type "range_iterator",data:=.fields #[YA (n-1),YA n,YA (-1)] } } (.ref s.heap.objs.size) "range_iterator":=⟨_,WN _ rfl,rfl⟩
    repeat (any_goals (first|assumption|wp_step))
   |_=>exact hq.elim
end
end HZ
namespace L2
open PySem PySem.Spec PyProof.Rows
noncomputable def wu (n:Nat):It:=⟨λi _=>i<n,λi H x H'=>H'=H/\x=.int ((n:Int)-1-i),λi _=>n<=i⟩
theorem Ey {P:Xf} {w:World} {K:Frag} {tg:Expr} (it:Addr) (n:Nat):Turn P w K tg (wu n) [it] it (λi h=>IsRangeIter h it (((n:Int)-1)+(i:Nat)*(-1)) ((n:Int)-(i:Nat)) (-1)) where
 mem:=by simp
 obj:=λi h st b hb=>by
  have e:b=it:=by simpa using hb
  subst e;exact⟨_,st,λv z=>by
   have z':Data.fields _=Data.cell v:=z;cases z'⟩
 keep:=λi h h' st k=>k it (by simp) _ st
 item:=by
  intro X hP hw hK hc i pins s σ H E I hf st hg;subst hP hw hK;obtain⟨f0,f1,f2,f3,f4,f5⟩:=hf it (by simp);have W:=Walks.range (prog:=X.prog) (w:=X.w) (I.ok.hd hc) it ((n:Int)-1) (-1) n;refine W.item i s _ _ hg st λv h' tk hv dI kk=>?_;obtain⟨t,rfl⟩:=hv
  have I1:Inv X pins σ H { s with heap:=h',toks:=tk }:=I.turned (λb o hb e=>kk b o (by simpa using hb) e) f0 f1 f3 f4 f5
  refine⟨_,rfl,vN (s:={ s with heap:=h',toks:=tk }) (n:="range_iterator") dI rfl rfl (by decide) ⟨.int ((n:Int)-1-i),H,I1,⟨t,?_⟩,⟨rfl,rfl⟩,dI,λb hb=>(hf b hb).1⟩⟩
  rw[Int.mul_neg_one];rfl
 done:=by
  intro X hP hw hK hc i pins s σ H E I hf st hg;subst hP hw hK;obtain⟨f0,f1,f2,f3,f4,f5⟩:=hf it (by simp);exact wpAny_pyNext_range_end (I.ok.hd hc) st (by have:n<=i:=hg;omega) λh' eb=>⟨rfl,I.turned (t':=s.toks) (λb o hb e=>eb b o hb e) f0 f1 f3 f4 f5⟩
 self:=λ_ _ _ _ _ st h=>aaf st h
section
variable {X:Cx} {tg:Expr}
theorem M8:XA "reversed"=some (.type "reversed"):=by decide +kernel
theorem Kw:cz X (.type "range") (λxs H Q=>∃j:Int,xs=[.int j]/\∀p,H p=none->Q (.ref p) (upd H p (.bV 0 j))):=by
 intro pins s σ H xs us Q I r h;obtain⟨j,rfl,q⟩:=h;obtain⟨u,rfl,ru⟩:=vals1 r;obtain⟨t,rfl⟩:=ru;exact call_range_1 ⟨.ref _,_,I.laid (o:=.bV 0 j) (t':=s.toks+1+1) (λb o e=>WE _ e) (Nat.le_refl _) ⟨_,_,_,WN _ rfl⟩,rfl,q _ (I.aM.fresh (Nat.le_refl _))⟩
noncomputable def To (ta:TA):TI:=fun σ H R=>ta σ H λvs H1=>∃(p:Addr) (n:Nat),vs=[.ref p]/\H1 p=some (.bV 0 n)/\n<2 ^ 62/\R (wu n) H1
theorem Qf {a:Expr} {ta:TA} {p pos:Pos} (hg:Gl X "reversed") (hm:X.mg "reversed"=none) (ha:PA X [a] ta) (hs:Xb [a] X.env=[(false,eval a X.env)]:=by rfl):PI X tg (.Call (.Name "reversed" p) [a] [] pos) (To ta):=by
 intro pins s σ H R I h;refine Call_ (lj I hg hm M8 (Ya (aK (ha pos pins s σ H _ I h) λus s1 ⟨vs,H1,I1,r1,q1⟩=>?_) hs rfl));obtain⟨c,n,e,hx,hn,q⟩:=q1;subst e;obtain⟨u,rfl,ru⟩:=vals1 r1;cases ru;obtain⟨t1,t2,t3,hr⟩:=I1.aM c _ hx;refine HZ.M7 hr hn ?_;have st:IsRangeIter (s1.heap.push { cls:=.type "range_iterator",data:=.fields #[YA ((n:Int)-1),YA n,YA (-1)] }) s1.heap.objs.size (((n:Int)-1)+((0:Nat):Int)*(-1)) ((n:Int)-((0:Nat):Int)) (-1):=by
  have e1:((n:Int)-1)+((0:Nat):Int)*(-1)=n-1:=by simp
  have e2:(n:Int)-((0:Nat):Int)=n:=by simp
  rw[e1,e2];exact WN _ rfl
 refine aaf (s:={ s1 with heap:=_ }) st ?_
 refine⟨s1.heap.objs.size,[s1.heap.objs.size],_,_,H1,rfl,I1.kept (t':=s1.toks) λb o e=>WE _ e,Ey _ n,st,λb hb=>?_,q⟩;have e:b=s1.heap.objs.size:=by simpa using hb
 subst e;exact I1.qj (Nat.le_refl _) (I1.aM.fresh (Nat.le_refl _))
end
end L2
namespace HZ
open PySem PySem.Spec PyProof.Rows
section
variable {P:Xf} {w:World} {A:Xv} {R:Result->WI->Prop} {I:Addr} {fp wr:List Addr} {n:Nat} {Pv:Nat->Value->Prop} {St:Nat->Heap->Prop} {kw:List (Str×Value)}
end
end HZ
namespace HZ
open PySem PySem.Spec PyProof.Rows
section
variable {P:Xf} {w:World} {A:Xv} {E:Value->WI->Prop} {s:WI}
end
end HZ
namespace L2
open PySem PySem.Spec PyProof.Rows
section
variable {X:Cx} {p pos kp:Pos} {e d:Expr} {ta tk:TA}
end
end L2
namespace DI
open PySem L2
set_option genInjectivity true in
inductive D where
 |aB|bl (b:Bool)|int (i:Int)|str (x:Str)|tup (ds:List D)|lst (ds:List D)|bH (aq:List (Key×Int))|aj (k:Nat)|ty (n:String)|bQ (ns:List Int)
set_option genInjectivity true in
inductive Cell where
 |dead|lst (ds:List D)|dK (aq:List (Key×D))|dT (aq:List (D×Int))
noncomputable abbrev ae:=List Cell
noncomputable abbrev Env:=List (Option D)
structure bq where
 c:Str
 many:Option D
noncomputable abbrev Res (α:Type):=Option (Except bq α×ae)
noncomputable abbrev ok {α:Type} (a:α) (s:ae):Res α:=some (.ok a,s)
noncomputable def ar {α β:Type} (r:Res α) (k:α->ae->Res β):Res β:=match r with
 |some (.ok a,s)=>k a s
 |some (.error x,s)=>some (.error x,s)
 |none=>none
@[simp] theorem fe {α β:Type} {a:α} {s:ae} {k:α->ae->Res β}:ar (some (.ok a,s)) k=k a s:=rfl
structure Wd where
 ρ:List Addr
 aG:ae
 H:Hp
def Wd.Z (w:Wd) (a:Addr):Prop:=∃(k:Nat) (c:Cell),w.ρ[k]?=some a/\w.aG[k]?=some c/\c≠.dead
def LstAt (w:Wd) (a:Addr) (xs:List V):Prop:=¬ w.Z a/\w.H a=some (.lst xs)
theorem LstAt.sq {K:Frag} {w:Wd} {a:Addr} {xs:List V} (h:LstAt w a xs):ba K w.H a xs:=ba.of h.2
def rN (K:Frag) (w:Wd) (a:Addr) (xs:List V):Prop:=(¬ w.Z a/\Rd w.H a (.lst xs)) \/
 ∃(o:Obj) (its:Array Value) (n:Nat),K.lookup a=some o/\o.cls=.type "list"/\o.dict=none/\o.data=.seq its n/\its.size<=WX/\Vals xs its.toList
theorem rN.sq {K:Frag} {w:Wd} {a:Addr} {xs:List V} (h:rN K w a xs):ba K w.H a xs:=by
 rcases h with ⟨_,h⟩|h
 ·exact .inl h
 ·exact .inr h
mutual
noncomputable def DV (K:Frag) (w:Wd):D->V->Prop
 | .aB,v=>v=.aB
 | .bl b,v=>v=.bl b
 | .int i,v=>v=.int i
 | .str x,v=>v=.str x
 | .tup ds,v=>∃a xs,v=.ref a/\aZ K w.H a xs/\au K w ds xs
 | .lst ds,v=>∃a xs,v=.ref a/\LstAt w a xs/\au K w ds xs
 | .bH aq,v=>∃a,v=.ref a/\¬ w.Z a/\w.H a=some (.dK (aq.map λp=>(p.1,V.int p.2)))
 | .aj k,v=>∃a,w.ρ[k]?=some a/\v=.ref a
 | .ty n,v=>v=.ty n
 | .bQ ns,v=>∃a,v=.ref a/\rN K w a (ns.map V.int)
noncomputable def au (K:Frag) (w:Wd):List D->List V->Prop
 | [],vs=>vs=[]
 |d::ds,vs=>∃v r,vs=v::r/\DV K w d v/\au K w ds r
end
structure Fw (K:Frag) (w w':Wd):Prop where
 A1:∀(k:Nat) a,w.ρ[k]?=some a->w'.ρ[k]?=some a
 tup:∀a xs,aZ K w.H a xs->aZ K w'.H a xs
 lst:∀a xs,¬ w.Z a->w.H a=some (.lst xs)->¬ w'.Z a/\w'.H a=some (.lst xs)
 cL:∀a o xs,¬ w.Z a->w.H a=some (.cL o (.lst xs))->¬ w'.Z a/\w'.H a=some (.cL o (.lst xs))
 bH:∀a es,¬ w.Z a->w.H a=some (.dK es)->¬ w'.Z a/\w'.H a=some (.dK es)
theorem Fw.Hi {K:Frag} {w w':Wd} (S:Fw K w w') {a:Addr} {xs:List V} (h:LstAt w a xs):LstAt w' a xs:=S.lst a xs h.1 h.2
theorem Fw.RN {K:Frag} {w w':Wd} (S:Fw K w w') {a:Addr} {xs:List V} (h:rN K w a xs):rN K w' a xs:=by
 rcases h with ⟨h1,h2 | ⟨o,h2⟩⟩|h
 ·have q:=S.lst a xs h1 h2
  exact .inl ⟨q.1,.inl q.2⟩
 ·have q:=S.cL a o xs h1 h2
  exact .inl ⟨q.1,.inr ⟨o,q.2⟩⟩
 ·exact .inr h
mutual
theorem DV.fw {K:Frag} {w w':Wd} (S:Fw K w w'):∀{d:D} {v:V},DV K w d v->DV K w' d v
 | .aB,_,h=>h
 | .bl _,_,h=>h
 | .int _,_,h=>h
 | .str _,_,h=>h
 | .tup ds,v,h=>by
  simp only[DV] at h |-;obtain⟨a,xs,e,hq,r⟩:=h;exact⟨a,xs,e,S.tup a xs hq,au.fw S r⟩
 | .lst ds,v,h=>by
  simp only[DV] at h |-;obtain⟨a,xs,e,hq,r⟩:=h;exact⟨a,xs,e,S.Hi hq,au.fw S r⟩
 | .bH aq,v,h=>by
  simp only[DV] at h |-;obtain⟨a,e,hz,hq⟩:=h;obtain⟨h1,h2⟩:=S.bH a _ hz hq;exact⟨a,e,h1,h2⟩
 | .aj k,v,h=>by
  simp only[DV] at h |-;obtain⟨a,e,e2⟩:=h;exact⟨a,S.A1 k a e,e2⟩
 | .ty _,_,h=>h
 | .bQ ns,v,h=>by
  simp only[DV] at h |-;obtain⟨a,e,hq⟩:=h;exact⟨a,e,S.RN hq⟩
theorem au.fw {K:Frag} {w w':Wd} (S:Fw K w w'):∀{ds:List D} {vs:List V},au K w ds vs->au K w' ds vs
 | [],_,h=>h
 |d::ds,vs,h=>by
  simp only[au] at h |-;obtain⟨v,r,e,h1,h2⟩:=h;exact⟨v,r,e,DV.fw S h1,au.fw S h2⟩
end
structure Le (K:Frag) (w w':Wd):Prop where
 dv:∀d v,DV K w d v->DV K w' d v
 lst:∀a xs,LstAt w a xs->LstAt w' a xs
 tup:∀a xs,aZ K w.H a xs->aZ K w'.H a xs
noncomputable instance {K:Frag} {w w':Wd}:CoeFun (Le K w w') (λ_=>∀d v,DV K w d v->DV K w' d v):=⟨Le.dv⟩
theorem Le.refl {K:Frag} (w:Wd):Le K w w:=⟨λ_ _ h=>h,λ_ _ h=>h,λ_ _ h=>h⟩
theorem Le.trans {K:Frag} {a b c:Wd} (h:Le K a b) (g:Le K b c):Le K a c:=⟨λd v x=>g.dv d v (h.dv d v x),λp xs x=>g.lst p xs (h.lst p xs x),λp xs x=>g.tup p xs (h.tup p xs x)⟩
theorem Fw.le {K:Frag} {w w':Wd} (S:Fw K w w'):Le K w w':=⟨λ_ _ h=>h.fw S,λ_ _ h=>S.Hi h,S.tup⟩
theorem Le.all {K:Frag} {w w':Wd} (h:Le K w w'):∀{ds:List D} {vs:List V},au K w ds vs->au K w' ds vs
 | [],_,x=>x
 |d::ds,vs,x=>by
  simp only[au] at x |-;obtain⟨v,r,e,h1,h2⟩:=x;exact⟨v,r,e,h d v h1,Le.all h h2⟩
theorem au.length {K:Frag} {w:Wd}:∀{ds:List D} {vs:List V},au K w ds vs->ds.length=vs.length
 | [],vs,h=>by
  have e:vs=[]:=h;subst e;rfl
 |d::ds,vs,h=>by
  obtain⟨v,r,e,_,h2⟩:=h;subst e;simp[au.length h2]
theorem au.get {K:Frag} {w:Wd}:∀{ds:List D} {vs:List V},au K w ds vs->∀(i:Nat) v,vs[i]?=some v->∃d,ds[i]?=some d/\DV K w d v
 | [],vs,h,i,v,e=>by
  have e':vs=[]:=h;subst e';simp at e
 |d::ds,vs,h,i,v,e=>by
  obtain⟨u,r,e',h1,h2⟩:=h;subst e'
  cases i with
  |zero =>
   have:u=v:=by simpa using e
   subst this;exact⟨d,rfl,h1⟩
  |succ i=>exact au.get h2 i v (by simpa using e)
theorem au.get' {K:Frag} {w:Wd}:∀{ds:List D} {vs:List V},au K w ds vs->∀(i:Nat) d,ds[i]?=some d->∃v,vs[i]?=some v/\DV K w d v
 | [],vs,h,i,d,e=>by simp at e
 |d::ds,vs,h,i,d',e=>by
  obtain⟨u,r,e',h1,h2⟩:=h;subst e'
  cases i with
  |zero =>
   have:d=d':=by simpa using e
   subst this;exact⟨u,rfl,h1⟩
  |succ i=>exact au.get' h2 i d' (by simpa using e)
theorem au.append {K:Frag} {w:Wd}:∀{ds es:List D} {vs ws:List V},au K w ds vs->au K w es ws->au K w (ds++es) (vs++ws)
 | [],es,vs,ws,h,h'=>by
  have e:vs=[]:=h;subst e;exact h'
 |d::ds,es,vs,ws,h,h'=>by
  obtain⟨v,r,e,h1,h2⟩:=h;subst e;exact⟨v,r++ws,rfl,h1,au.append h2 h'⟩
theorem au.take {K:Frag} {w:Wd}:∀{ds:List D} {vs:List V} (n:Nat),au K w ds vs->au K w (ds.take n) (vs.take n)
 | [],vs,n,h=>by
  have e:vs=[]:=h;subst e;simp[au]
 |d::ds,vs,0,h=>by simp[au]
 |d::ds,vs,n+1,h=>by
  obtain⟨v,r,e,h1,h2⟩:=h;subst e;exact⟨v,r.take n,rfl,h1,au.take n h2⟩
theorem au.drop {K:Frag} {w:Wd}:∀{ds:List D} {vs:List V} (n:Nat),au K w ds vs->au K w (ds.drop n) (vs.drop n)
 | [],vs,n,h=>by
  have e:vs=[]:=h;subst e;simp[au]
 |d::ds,vs,0,h=>h
 |d::ds,vs,n+1,h=>by
  obtain⟨v,r,e,h1,h2⟩:=h;subst e;exact au.drop n h2
theorem au.reverse {K:Frag} {w:Wd}:∀{ds:List D} {vs:List V},au K w ds vs->au K w ds.reverse vs.reverse
 | [],vs,h=>by
  have e:vs=[]:=h;subst e;simp[au]
 |d::ds,vs,h=>by
  obtain⟨v,r,e,h1,h2⟩:=h;subst e;rw[aao,aao];exact au.append (au.reverse h2) ⟨v,[],rfl,h1,rfl⟩
theorem au.set {K:Frag} {w:Wd} {d:D} {v:V} (hd:DV K w d v):∀{ds:List D} {vs:List V} (i:Nat),au K w ds vs->au K w (ds.set i d) (vs.set i v)
 | [],vs,i,h=>by
  have e:vs=[]:=h;subst e;simp[au]
 |d'::ds,vs,0,h=>by
  obtain⟨u,r,e,h1,h2⟩:=h;subst e;exact⟨v,r,rfl,hd,h2⟩
 |d'::ds,vs,i+1,h=>by
  obtain⟨u,r,e,h1,h2⟩:=h;subst e;exact⟨u,r.set i v,rfl,h1,au.set hd i h2⟩
theorem au.one {K:Frag} {w:Wd} {d:D} {v:V} (h:DV K w d v):au K w [d] [v]:=⟨v,[],rfl,h,rfl⟩
theorem au.two {K:Frag} {w:Wd} {d d':D} {v v':V} (h:DV K w d v) (h':DV K w d' v'):au K w [d,d'] [v,v']:=⟨v,_,rfl,h,au.one h'⟩
theorem au.ints {K:Frag} {w:Wd}:∀(ns:List Int),au K w (ns.map D.int) (ns.map V.int)
 | []=>rfl
 |n::ns=>⟨.int n,_,rfl,rfl,au.ints ns⟩
theorem au.Ez {K:Frag} {w:Wd}:∀{ns:List Int} {vs:List V},au K w (ns.map D.int) vs->vs=ns.map V.int
 | [],_,h=>h
 |n::ns,vs,h=>by
  obtain⟨v,r,e,h1,h2⟩:=h;have e1:v=.int n:=h1;rw[e,e1,au.Ez h2];rfl
theorem au.yy {K:Frag} {w:Wd}:∀{bs:List Bool} {vs:List V},au K w (bs.map D.bl) vs->vs=bs.map V.bl
 | [],_,h=>h
 |n::ns,vs,h=>by
  obtain⟨v,r,e,h1,h2⟩:=h;have e1:v=.bl n:=h1;rw[e,e1,au.yy h2];rfl
def DX (a:Addr) (es:List (Int×Addr)) (h:Heap):Prop:=(a==YT)=false/\∃(o:Obj) (xs:Array aaX) (ep:Nat),h.get? a=some o/\o.ExactDict/\o.data=.dict xs ep/\xs.toList=es.map λp=>(⟨p.1,.ref p.2,.bool true⟩:aaX)
noncomputable def pU (K:Frag) (w:Wd) (a:Addr):Cell->Prop
 | .dead=>True
 | .lst ds=>∃xs,w.H a=some (.lst xs)/\au K w ds xs
 | .dK aq=>∃es:List (Key×V),w.H a=some (.dK es)/\es.map (·.1)=aq.map (·.1)/\au K w (aq.map (·.2)) (es.map (·.2))
 | .dT aq=>∃as:List Addr,w.H a=some (.ext (DX a ((aq.map (·.2)).zip as)))/\au K w (aq.map (·.1)) (as.map V.ref)/\(aq.map (·.1)).Nodup
structure aO (K:Frag) (w:Wd):Prop where
 len:w.ρ.length=w.aG.length
 nd:w.ρ.Nodup
 there:∀(k:Nat) a,w.ρ[k]?=some a->w.H a≠none
 cell:∀(k:Nat) a c,w.ρ[k]?=some a->w.aG[k]?=some c->pU K w a c
theorem pU.le {K:Frag} {w w':Wd} {a:Addr} {c:Cell} (h:pU K w a c) (le:Le K w w') (e:c≠.dead->w'.H a=w.H a):pU K w' a c:=by
 cases c with
 |dead=>trivial
 |lst ds =>
  obtain⟨xs,h1,h2⟩:=h;exact⟨xs,(e (by intro z;cases z)).trans h1,le.all h2⟩
 |dK aq =>
  obtain⟨es,h1,h2,h3⟩:=h;exact⟨es,(e (by intro z;cases z)).trans h1,h2,le.all h3⟩
 |dT aq =>
  obtain⟨as,h1,h2,h3⟩:=h;exact⟨as,(e (by intro z;cases z)).trans h1,le.all h2,h3⟩
section
variable {K:Frag} {w:Wd}
noncomputable def Wd.grow (w:Wd) (p:Addr) (o:HO):Wd:={ w with H:=upd w.H p o }
theorem Rd.grow {H:Hp} {p a:Addr} {o u:HO} (hp:H p=none) (h:Rd H a u):Rd (upd H p o) a u:=by
 rcases h with h | ⟨ob,h⟩
 ·exact .inl (by rw[bF (eO h hp)];exact h)
 ·exact .inr ⟨ob,by rw[bF (eO h hp)];exact h⟩
theorem aZ.grow {H:Hp} {p a:Addr} {o:HO} {xs:List V} (hp:H p=none) (h:aZ K H a xs):aZ K (upd H p o) a xs:=by
 rcases h with h|h
 ·exact .inl (Rd.grow hp h)
 ·exact .inr h
theorem Fw.grow {p:Addr} {o:HO} (hp:w.H p=none):Fw K w (w.grow p o) where
 A1:=λ_ _ e=>e
 tup:=λa xs h=>aZ.grow hp h
 lst:=λa xs hz h=>⟨hz,by show upd w.H p o a=_;rw[bF (eO h hp)];exact h⟩
 cL:=λa ob xs hz h=>⟨hz,by show upd w.H p o a=_;rw[bF (eO h hp)];exact h⟩
 bH:=λa es hz h=>⟨hz,by show upd w.H p o a=_;rw[bF (eO h hp)];exact h⟩
theorem aO.grow {p:Addr} {o:HO} (S:aO K w) (hp:w.H p=none):aO K (w.grow p o) where
 len:=S.len
 nd:=S.nd
 there:=λk a e=>by
  have h:=S.there k a e;show upd w.H p o a≠none;unfold upd;split
  ·intro z;cases z
  ·exact h
 cell:=λk a c e1 e2=>(S.cell k a c e1 e2).le (Fw.grow hp).le λ_=>by
  have h:=S.there k a e1;show upd w.H p o a=w.H a;rw[bF];intro z;rw[z] at h;exact h hp
noncomputable def Wd.cell (w:Wd) (p:Addr) (o:HO) (c:Cell):Wd:=⟨w.ρ++[p],w.aG++[c],upd w.H p o⟩
theorem Wd.yS {p:Addr} {o:HO} {c:Cell} (S:aO K w) {a:Addr} (h:(w.cell p o c).Z a):w.Z a\/a=p:=by
 obtain⟨k,c',e1,e2,e3⟩:=h;have e1:(w.ρ++[p])[k]?=some a:=e1;have e2:(w.aG++[c])[k]?=some c':=e2;by_cases hk:k<w.ρ.length
 ·rw[W0 hk] at e1
  rw[W0 (by rw[<- S.len];exact hk)] at e2;exact .inl ⟨k,c',e1,e2,e3⟩
 ·rw[Xr (by omega)] at e1
  right
  cases hj:k-w.ρ.length with
  |zero=>rw[hj] at e1;exact(Option.some.inj e1).symm
  |succ j=>rw[hj] at e1;cases e1
theorem Fw.cell {p:Addr} {o:HO} {c:Cell} (S:aO K w) (hp:w.H p=none):Fw K w (w.cell p o c) where
 A1:=λk a e=>by
  show (w.ρ++[p])[k]?=some a;rw[W0 (WO.mp e).1];exact e
 tup:=λa xs h=>aZ.grow hp h
 lst:=λa xs hz h=>⟨λz=>(Wd.yS S z).elim hz (λe=>by (subst e;rw[hp] at h;cases h)),by show upd w.H p o a=_;rw[bF (eO h hp)];exact h⟩
 cL:=λa ob xs hz h=>⟨λz=>(Wd.yS S z).elim hz (λe=>by (subst e;rw[hp] at h;cases h)),by show upd w.H p o a=_;rw[bF (eO h hp)];exact h⟩
 bH:=λa es hz h=>⟨λz=>(Wd.yS S z).elim hz (λe=>by (subst e;rw[hp] at h;cases h)),by show upd w.H p o a=_;rw[bF (eO h hp)];exact h⟩
theorem aO.vU {p:Addr} {o:HO} {c:Cell} (S:aO K w) (hp:w.H p=none) (hc:pU K (w.cell p o c) p c):aO K (w.cell p o c) where
 len:=by show (w.ρ++[p]).length=(w.aG++[c]).length;simp[S.len]
 nd:=by
  show (w.ρ++[p]).Nodup;rw[aau];refine⟨S.nd,by simp,λa ha b hb=>?_⟩;obtain⟨k,e⟩:=List.getElem?_of_mem ha;have h:=S.there k a e;have e':b=p:=by simpa using hb
  rw[e'];intro z;rw[z] at h;exact h hp
 there:=λk a e=>by
  have e:(w.ρ++[p])[k]?=some a:=e;show upd w.H p o a≠none;unfold upd;split
  ·intro z;cases z
  ·rename_i ib
   by_cases hk:k<w.ρ.length
   ·rw[W0 hk] at e
    exact S.there k a e
   ·rw[Xr (by omega)] at e
    cases hj:k-w.ρ.length with
    |zero=>rw[hj] at e;exact absurd (Option.some.inj e).symm ib
    |succ j=>rw[hj] at e;cases e
 cell:=λk a c' e1 e2=>by
  have e1:(w.ρ++[p])[k]?=some a:=e1;have e2:(w.aG++[c])[k]?=some c':=e2;by_cases hk:k<w.ρ.length
  ·rw[W0 hk] at e1
   rw[W0 (by rw[<- S.len];exact hk)] at e2;refine(S.cell k a c' e1 e2).le (Fw.cell S hp).le λ_=>?_;have h:=S.there k a e1;show upd w.H p o a=w.H a;rw[bF];intro z;rw[z] at h;exact h hp
  ·rw[Xr (by omega)] at e1
   rw[Xr (by rw[<- S.len];omega)] at e2;rw[<- S.len] at e2
   cases hj:k-w.ρ.length with
   |zero =>
    rw[hj] at e1 e2;have e1:p=a:=Option.some.inj e1;have e2:c=c':=Option.some.inj e2;subst e1 e2;exact hc
   |succ j=>rw[hj] at e1;cases e1
noncomputable def Wd.same (w:Wd) (H':Hp):Wd:={ w with H:=H' }
theorem Fw.same {H':Hp} (e:jL w.H H'):Fw K w (w.same H') :=
 ⟨λ_ _ e=>e,λa xs h=>e.Ud h,λa xs hz h=>⟨hz,e _ _ h⟩,λa o xs hz h=>⟨hz,e _ _ h⟩,λa es hz h=>⟨hz,e _ _ h⟩⟩
theorem aO.same {H':Hp} (S:aO K w) (e:jL w.H H'):aO K (w.same H') where
 len:=S.len
 nd:=S.nd
 there:=λk a q=>by
  have h:=S.there k a q;show H' a≠none
  cases hq:w.H a with
  |none=>exact absurd hq h
  |some o=>rw[e _ _ hq];intro z;cases z
 cell:=λk a c e1 e2=>(S.cell k a c e1 e2).le (Fw.same e).le λ_=>by
  have h:=S.there k a e1;show H' a=w.H a
  cases hq:w.H a with
  |none=>exact absurd hq h
  |some o=>exact e _ _ hq
noncomputable def Wd.put (w:Wd) (k:Nat) (a:Addr) (o:HO) (c:Cell):Wd:=⟨w.ρ,w.aG.set k c,upd w.H a o⟩
theorem CG {α:Type} {l:List α} (nd:l.Nodup) {i j:Nat} {a:α} (h1:l[i]?=some a) (h2:l[j]?=some a):i=j:=by
 exact(List.getElem?_inj (WO.mp h1).1 nd).mp (h1.trans h2.symm)
theorem Wd.zx {k:Nat} {a b:Addr} {o:HO} {c c0:Cell} (h0:w.ρ[k]?=some a) (h1:w.aG[k]?=some c0) (h2:c0≠.dead) (h:(w.put k a o c).Z b):w.Z b:=by
 obtain⟨j,c',e1,e2,e3⟩:=h;have e1:w.ρ[j]?=some b:=e1;have e2:(w.aG.set k c)[j]?=some c':=e2;by_cases hj:k=j
 ·subst hj
  exact⟨k,c0,e1,h1,h2⟩
 ·rw[Xa hj] at e2
  exact⟨j,c',e1,e2,e3⟩
theorem Fw.put {k:Nat} {a:Addr} {o:HO} {c c0:Cell} (S:aO K w) (h0:w.ρ[k]?=some a) (h1:w.aG[k]?=some c0) (h2:c0≠.dead):Fw K w (w.put k a o c):=by
 have hz:w.Z a:=⟨k,c0,h0,h1,h2⟩;have nt:∀xs,¬ Rd w.H a (.tup xs):=λxs h=>by
  have q:=S.cell k a c0 h0 h1
  cases c0 with
  |dead=>exact h2 rfl
  |lst ds=>obtain⟨ys,e,_⟩:=q;rcases h with h | ⟨_,h⟩<;>(rw[e] at h;cases h)
  |dK aq=>obtain⟨ys,e,_⟩:=q;rcases h with h | ⟨_,h⟩<;>(rw[e] at h;cases h)
  |dT aq=>obtain⟨ys,e,_⟩:=q;rcases h with h | ⟨_,h⟩<;>(rw[e] at h;cases h)
 refine⟨λ_ _ e=>e,λb xs h=>?_,λb xs hb h=>⟨λz=>hb (Wd.zx h0 h1 h2 z),?_⟩,λb ob xs hb h=>⟨λz=>hb (Wd.zx h0 h1 h2 z),?_⟩,λb es hb h=>⟨λz=>hb (Wd.zx h0 h1 h2 z),?_⟩⟩
 ·rcases h with h|h
  ·have ne:b≠a:=λe=>by subst e;exact nt xs h
   refine .inl ?_
   rcases h with h | ⟨ob,h⟩
   ·exact .inl (by show upd w.H a o b=_;rw[bF ne];exact h)
   ·exact .inr ⟨ob,by show upd w.H a o b=_;rw[bF ne];exact h⟩
  ·exact .inr h
 ·have ne:b≠a:=λe=>by subst e;exact hb hz
  show upd w.H a o b=_;rw[bF ne];exact h
 ·have ne:b≠a:=λe=>by subst e;exact hb hz
  show upd w.H a o b=_;rw[bF ne];exact h
 ·have ne:b≠a:=λe=>by subst e;exact hb hz
  show upd w.H a o b=_;rw[bF ne];exact h
theorem aO.Ah {k:Nat} {a:Addr} {o:HO} {c c0:Cell} (S:aO K w) (h0:w.ρ[k]?=some a) (h1:w.aG[k]?=some c0) (h2:c0≠.dead) (hc:pU K (w.put k a o c) a c):aO K (w.put k a o c) where
 len:=by show w.ρ.length=(w.aG.set k c).length;rw[XZ];exact S.len
 nd:=S.nd
 there:=λj b e=>by
  show upd w.H a o b≠none;unfold upd;split
  ·intro z;cases z
  ·exact S.there j b e
 cell:=λj b c' e1 e2=>by
  have e1:w.ρ[j]?=some b:=e1;have e2:(w.aG.set k c)[j]?=some c':=e2;by_cases hj:k=j
  ·subst hj
   rw[h0] at e1;have e1:a=b:=Option.some.inj e1;rw[Xc (WO.mp h1).1] at e2;have e2:c=c':=Option.some.inj e2;subst e1 e2;exact hc
  ·rw[Xa hj] at e2
   refine(S.cell j b c' e1 e2).le (Fw.put S h0 h1 h2).le λ_=>?_;show upd w.H a o b=w.H b;rw[bF];intro z;subst z;exact hj (CG S.nd h0 e1)
noncomputable def Wd.freeze (w:Wd) (k:Nat):Wd:={ w with aG:=w.aG.set k .dead }
theorem Wd.xU {k:Nat} {b:Addr} (h:(w.freeze k).Z b):w.Z b:=by
 obtain⟨j,c',e1,e2,e3⟩:=h;have e2:(w.aG.set k .dead)[j]?=some c':=e2;by_cases hj:k=j
 ·subst hj
  have hl:=(WO.mp e2).1;rw[XZ] at hl;rw[Xc hl] at e2;exact absurd (Option.some.inj e2).symm e3
 ·rw[Xa hj] at e2
  exact⟨j,c',e1,e2,e3⟩
theorem Fw.freeze {k:Nat}:Fw K w (w.freeze k) :=
 ⟨λ_ _ e=>e,λ_ _ h=>h,λ_ _ hz h=>⟨λz=>hz (Wd.xU z),h⟩,λ_ _ _ hz h=>⟨λz=>hz (Wd.xU z),h⟩,λ_ _ hz h=>⟨λz=>hz (Wd.xU z),h⟩⟩
theorem aO.freeze {k:Nat} (S:aO K w):aO K (w.freeze k) where
 len:=by show w.ρ.length=(w.aG.set k .dead).length;rw[XZ];exact S.len
 nd:=S.nd
 there:=S.there
 cell:=λj b c' e1 e2=>by
  have e2:(w.aG.set k .dead)[j]?=some c':=e2;by_cases hj:k=j
  ·subst hj
   have hl:=(WO.mp e2).1;rw[XZ] at hl;rw[Xc hl] at e2;rw[<- Option.some.inj e2];trivial
  ·rw[Xa hj] at e2
   exact(S.cell j b c' e1 e2).le Fw.freeze.le λ_=>rfl
theorem Wd.LK {k:Nat} {a:Addr} (S:aO K w) (h:w.ρ[k]?=some a):¬ (w.freeze k).Z a:=by
 rintro ⟨j,c',e1,e2,e3⟩;have e1:w.ρ[j]?=some a:=e1;have e2:(w.aG.set k .dead)[j]?=some c':=e2;have hj:=CG S.nd h e1;subst hj;have hl:=(WO.mp e2).1;rw[XZ] at hl;rw[Xc hl] at e2;exact e3 (Option.some.inj e2).symm
end
structure bT (K:Frag) (w:Wd) (env:Env) (σ:St):Prop where
 len:env.length=σ.length
 val:∀(i:Nat) d,env[i]?=some (some d)->∃v,σ[i]?=some (some v)/\DV K w d v
theorem bT.le {K:Frag} {w w':Wd} {env:Env} {σ:St} (h:bT K w env σ) (le:Le K w w'):bT K w' env σ :=
 ⟨h.len,λi d e=>by obtain⟨v,e1,e2⟩:=h.val i d e;exact⟨v,e1,le d v e2⟩⟩
theorem bT.set {K:Frag} {w:Wd} {env:Env} {σ:St} {d:D} {v:V} (h:bT K w env σ) (hd:DV K w d v) (i:Nat):bT K w (env.set i (some d)) (σ.set i (some v)):=by
 refine⟨by rw[XZ,XZ];exact h.len,λj d' e=>?_⟩;by_cases hj:i=j
 ·subst hj
  have hl:=(WO.mp e).1;rw[XZ] at hl;rw[Xc hl] at e;have e:d=d':=Option.some.inj (Option.some.inj e);subst e;exact⟨v,by rw[Xc (by rw[<- h.len];exact hl)],hd⟩
 ·rw[Xa hj] at e
  rw[Xa hj];exact h.val j d' e
def Out (K:Frag) (Ξ:Wd->bq->Prop) (w:Wd) {α:Type} (r:Res α) (k:Wd->α->Prop):Prop:=match r with
 |none=>False
 |some (.ok a,s)=>∀w',Le K w w'->aO K w'->w'.aG=s->k w' a
 |some (.error x,s)=>∀w',Le K w w'->aO K w'->w'.aG=s->Ξ w' x
section
variable {K:Frag} {Ξ:Wd->bq->Prop} {w w':Wd} {α β:Type} {r:Res α} {k k':Wd->α->Prop}
theorem Out.from (h:Out K Ξ w r k) (le:Le K w w'):Out K Ξ w' r k:=by
 unfold Out at h |-
 split<;>simp only at h
 ·exact λw2 l2 o2 e2=>h w2 (le.trans l2) o2 e2
 ·exact λw2 l2 o2 e2=>h w2 (le.trans l2) o2 e2
theorem Out.mono (h:Out K Ξ w r k) (hk:∀w2 a,Le K w w2->aO K w2->k w2 a->k' w2 a):Out K Ξ w r k':=by
 unfold Out at h |-
 split<;>simp only at h
 ·exact λw2 l2 o2 e2=>hk w2 _ l2 o2 (h w2 l2 o2 e2)
 ·exact h
theorem Out.ar {g:α->ae->Res β} {q:Wd->β->Prop} (h:Out K Ξ w (DI.ar r g) q):Out K Ξ w r (λw2 a=>Out K Ξ w2 (g a w2.aG) q):=by
 match r,h with
 |some (.ok a,s),h =>
  intro w2 l2 o2 e2;rw[e2];exact Out.from h l2
 |some (.error x,s),h=>exact h
theorem Out.done {a:α} (h:Out K Ξ w (some (.ok a,w.aG)) k) (S:aO K w):k w a:=h w (Le.refl w) S rfl
end
end DI
namespace DI
open PySem L2
noncomputable def tE (K:Frag) (Ξ:Wd->bq->Prop) (f:Env->ae->Res D):TE:=fun σ H Q=>∃w env,w.H=H/\aO K w/\bT K w env σ/\Out K Ξ w (f env w.aG) λw' d=>∀v,DV K w' d v->Q v w'.H
noncomputable def tT (K:Frag) (Ξ:Wd->bq->Prop) (f:Env->ae->Res Bool):TT:=fun σ H Q=>∃w env,w.H=H/\aO K w/\bT K w env σ/\Out K Ξ w (f env w.aG) λw' b=>Q b w'.H
noncomputable def tA (K:Frag) (Ξ:Wd->bq->Prop) (f:Env->ae->Res (List D)):TA:=fun σ H Q=>∃w env,w.H=H/\aO K w/\bT K w env σ/\Out K Ξ w (f env w.aG) λw' ds=>∀vs,au K w' ds vs->Q vs w'.H
noncomputable def rO (K:Frag) (Ξ:Wd->bq->Prop) (o:D->D->ae->Res D):R2:=λx y H Q=>∃w dx dy,w.H=H/\aO K w/\DV K w dx x/\DV K w dy y/\Out K Ξ w (o dx dy w.aG) λw' d=>∀v,DV K w' d v->Q v w'.H
noncomputable def rU (K:Frag) (Ξ:Wd->bq->Prop) (o:D->ae->Res D):V->Hp->VK->Prop:=λx H Q=>∃w dx,w.H=H/\aO K w/\DV K w dx x/\Out K Ξ w (o dx w.aG) λw' d=>∀v,DV K w' d v->Q v w'.H
noncomputable def rC (K:Frag) (Ξ:Wd->bq->Prop) (o:List D->ae->Res D):List V->Hp->VK->Prop:=λxs H Q=>∃w ds,w.H=H/\aO K w/\au K w ds xs/\Out K Ξ w (o ds w.aG) λw' d=>∀v,DV K w' d v->Q v w'.H
noncomputable def aa (i:Nat):Env->ae->Res D:=λenv s=>match env[i]? with
 |some (some d)=>ok d s
 |_=>none
noncomputable def eC (d:D):Env->ae->Res D:=λ_ s=>ok d s
noncomputable def e1 (o:D->ae->Res D) (f:Env->ae->Res D):Env->ae->Res D:=λenv s=>ar (f env s) λx s=>o x s
noncomputable def e2 (o:D->D->ae->Res D) (f g:Env->ae->Res D):Env->ae->Res D:=λenv s=>ar (f env s) λx s=>ar (g env s) λy s=>o x y s
noncomputable def ai:Env->ae->Res (List D):=λ_ s=>ok [] s
noncomputable def af (f:Env->ae->Res D) (g:Env->ae->Res (List D)):Env->ae->Res (List D):=λenv s=>ar (f env s) λx s=>ar (g env s) λxs s=>ok (x::xs) s
noncomputable def eB (o:List D->ae->Res D) (f:Env->ae->Res (List D)):Env->ae->Res D:=λenv s=>ar (f env s) λds s=>o ds s
noncomputable def gp {α:Type} (ds:List D) (r:Res α):Res α:=if ds.length<=WX then r else none
noncomputable def bz (f:Env->ae->Res (List D)):Env->ae->Res D:=λenv s=>ar (f env s) λds s=>gp ds (ok (.tup ds) s)
noncomputable def fB (f:Env->ae->Res (List D)):Env->ae->Res D:=λenv s=>ar (f env s) λds s=>gp ds (ok (.lst ds) s)
noncomputable def eNew (f:Env->ae->Res (List D)):Env->ae->Res D:=λenv s=>ar (f env s) λds s=>gp ds (ok (.aj s.length) (s++[.lst ds]))
noncomputable def cL:D->ae->Res D:=λd s=>match d with
 | .aj k=>match s[k]? with
  |some (.lst ds)=>ok (.lst ds) (s.set k .dead)
  |_=>none
 |_=>none
noncomputable def jn (f:Env->ae->Res D):Env->ae->Res D:=λenv s=>ar (f env s) cL
noncomputable def fU (d:D) (s:ae):Res Bool:=match d with
 | .bl b=>ok b s
 |_=>none
noncomputable def aF (f:Env->ae->Res D):Env->ae->Res Bool:=λenv s=>ar (f env s) fU
noncomputable def truth (d:D) (s:ae):Res Bool:=match d with
 | .aB=>ok false s
 | .bl b=>ok b s
 | .int i=>ok (i != 0) s
 | .str x=>if x.length<=WX then ok ((x.length:Int) != 0) s else none
 | .tup ds=>ok (!ds.isEmpty) s
 | .lst ds=>ok (!ds.isEmpty) s
 | .bH aq=>ok (!aq.isEmpty) s
 | .aj k=>match s[k]? with
  |some (.lst ds)=>ok (!ds.isEmpty) s
  |some (.dK aq)=>ok (!aq.isEmpty) s
  |_=>none
 | .ty _=>none
 | .bQ _=>none
noncomputable def cu (f:Env->ae->Res D):Env->ae->Res Bool:=λenv s=>ar (f env s) truth
noncomputable def cx (f g:Env->ae->Res Bool):Env->ae->Res Bool:=λenv s=>ar (f env s) λb s=>if b=true then g env s else ok false s
noncomputable def gS (f g:Env->ae->Res Bool):Env->ae->Res Bool:=λenv s=>ar (f env s) λb s=>if b=true then ok true s else g env s
noncomputable def dF (f:Env->ae->Res Bool):Env->ae->Res Bool:=λenv s=>ar (f env s) λb s=>ok (!b) s
noncomputable def cZ (f g:Env->ae->Res D):Env->ae->Res D:=λenv s=>ar (f env s) λx s=>ar (fU x s) λb s=>if b=true then g env s else ok (.bl false) s
noncomputable def kE (f g:Env->ae->Res D):Env->ae->Res D:=λenv s=>ar (f env s) λx s=>ar (fU x s) λb s=>if b=true then ok (.bl true) s else g env s
noncomputable def nS (f:Env->ae->Res D):Env->ae->Res D:=λenv s=>ar (f env s) λx s=>ar (fU x s) λb s=>ok (.bl (!b)) s
noncomputable def wX (c:Env->ae->Res Bool) (f g:Env->ae->Res D):Env->ae->Res D:=λenv s=>ar (c env s) λb s=>if b=true then f env s else g env s
noncomputable def tG (o o':D->D->ae->Res D) (f g h:Env->ae->Res D):Env->ae->Res D:=λenv s=>ar (f env s) λx s=>ar (g env s) λy s=>ar (o x y s) λz s=>ar (fU z s) λb s =>
 if b=true then ar (h env s) λu s=>o' y u s else ok (.bl false) s
section
variable {X:Cx} {Ξ:Wd->bq->Prop} {e a b c:Expr} {es rest:List Expr} {pos:Pos} {f g h:Env->ae->Res D} {fa:Env->ae->Res (List D)} {ft gt:Env->ae->Res Bool}
theorem cD {t t':TE} (h:PE X e t) (i:∀ σ H Q,t' σ H Q->t σ H Q):PE X e t':=λpins s σ H Q I hq=>h pins s σ H Q I (i σ H Q hq)
theorem yT {t t':TT} (h:PT X e t) (i:∀ σ H Q,t' σ H Q->t σ H Q):PT X e t':=λpins s σ H Q I hq=>h pins s σ H Q I (i σ H Q hq)
theorem Gx {t t':TT} (h:PW X e t) (i:∀ σ H Q,t' σ H Q->t σ H Q):PW X e t':=λwh pins s σ H Q I hq=>h wh pins s σ H Q I (i σ H Q hq)
theorem Gy {t t':TA} (h:PA X es t) (i:∀ σ H Q,t' σ H Q->t σ H Q):PA X es t':=λp pins s σ H Q I hq=>h p pins s σ H Q I (i σ H Q hq)
theorem iN {st:Stmt} {t t':TS} (h:PS X st t) (i:∀D σ H,t' D σ H->t D σ H):PS X st t':=λpins s σ H D I hq=>h pins s σ H D I (i D σ H hq)
theorem Fs {st:List Stmt} {t t':TS} (h:dH X st t) (i:∀D σ H,t' D σ H->t D σ H):dH X st t':=λpins s σ H D I hq=>h pins s σ H D I (i D σ H hq)
theorem aI {α:Type} {K:Frag} {w:Wd} {a:α} {k:Wd->α->Prop} (S:aO K w) (h:Out K Ξ w (ok a w.aG) k):k w a:=h w (Le.refl w) S rfl
theorem ag (i:Nat) {x:Str} (hN:X.N[i]?=some x:=by rfl) (hv:sE X.env.scope x:=by first|exact Yj rfl|exact Or.inr (Yj rfl)|exact Or.inr (Or.inr rfl)) (hd:(x==("__debug__":Str))=false:=by decide)
  (jP:(x==("__classdict__":Str))=false:=by decide):PE X (.Name x pos) (tE X.K Ξ (aa i)):=cD (Pu hN hv hd jP) fun σ H Q aE=>by
 obtain⟨w,env,eH,S,eo,h⟩:=aE;unfold aa at h;split at h
 ·rename_i d he
  obtain⟨v,e1,e2⟩:=eo.val i d he;subst eH;exact⟨v,e1,aI S h v e2⟩
 ·exact h.elim
theorem rP {d:D} {v:V} (h:PE X e (tC v)) (hd:∀w,DV X.K w d v):PE X e (tE X.K Ξ (eC d)):=cD h fun σ H Q aE=>by
 obtain⟨w,env,eH,S,eo,h⟩:=aE;subst eH;exact aI S h v (hd w)
theorem az {i j}:PE X (.Constant (.int i) j pos) (tE X.K Ξ (eC (.int i))):=rP yP λ_=>rfl
theorem eI {b j}:PE X (.Constant (.bool b) j pos) (tE X.K Ξ (eC (.bl b))):=rP Q8 λ_=>rfl
theorem jD {x j}:PE X (.Constant (.str x) j pos) (tE X.K Ξ (eC (.str x))):=rP Pw λ_=>rfl
theorem vi {K:Frag} {o:D->D->ae->Res D} (σ:St) (H:Hp) (Q:VK):tE K Ξ (e2 o f g) σ H Q->sQ (rO K Ξ o) (tE K Ξ f) (tE K Ξ g) σ H Q:=by
 rintro ⟨w,env,rfl,S,eo,h⟩;exact⟨w,env,rfl,S,eo,(Out.ar h).mono λw1 x l1 S1 h1 v1 fL=>⟨w1,env,rfl,S1,eo.le l1,(Out.ar h1).mono λw2 y l2 S2 h2 v2 jV=>⟨w2,x,y,rfl,S2,l2 _ _ fL,jV,h2⟩⟩⟩
theorem cg {op:Operator} {o:D->D->ae->Res D} (ho:bE X (YB op) (rO X.K Ξ o)) (ha:PE X a (tE X.K Ξ f)) (hb:PE X b (tE X.K Ξ g)):PE X (.BinOp a op b pos) (tE X.K Ξ (e2 o f g)):=cD (Rl ho ha hb) vi
theorem eT {op:CmpOp} {o:D->D->ae->Res D} (ho:bE X (Yg op) (rO X.K Ξ o)) (ha:PE X a (tE X.K Ξ f)) (hb:PE X b (tE X.K Ξ g)) (hm:Z6 op b=false):PE X (.Compare a [op] [b] pos) (tE X.K Ξ (e2 o f g)):=cD (N3 ho ha hb hm) vi
theorem Qg {K:Frag} (σ:St) (H:Hp) (Q:Bool->Hp->Prop):tT K Ξ (aF f) σ H Q->vO (tE K Ξ f) σ H Q:=by
 rintro ⟨w,env,rfl,S,eo,h⟩;refine⟨w,env,rfl,S,eo,(Out.ar h).mono λw1 x l1 S1 h1 v1 fL=>?_⟩
 cases x with
 |bl b =>
  have e:v1=.bl b:=fL;exact⟨b,e,aI S1 h1⟩
 |_=>exact h1.elim
theorem La {t t':TE} (i:∀ σ H Q,t' σ H Q->t σ H Q) (σ:St) (H:Hp) (Q:Bool->Hp->Prop):vO t' σ H Q->vO t σ H Q:=λh=>i _ _ _ h
theorem bG {op:CmpOp} {o:D->D->ae->Res D} (ho:bE X (Yg op) (rO X.K Ξ o)) (ha:PE X a (tE X.K Ξ f)) (hb:PE X b (tE X.K Ξ g)) (hm:Z6 op b=false):PT X (.Compare a [op] [b] pos) (tT X.K Ξ (aF (e2 o f g))) :=
 yT (N4 ho ha hb hm) fun σ H Q h=>La vi σ H Q (Qg σ H Q h)
theorem Qh {K:Frag} {o o':D->D->ae->Res D} (σ:St) (H:Hp) (Q:VK):tE K Ξ (tG o o' f g h) σ H Q->Gj (rO K Ξ o) (rO K Ξ o') (tE K Ξ f) (tE K Ξ g) (tE K Ξ h) σ H Q:=by
 rintro ⟨w,env,rfl,S,eo,h⟩;refine⟨w,env,rfl,S,eo,(Out.ar h).mono λw1 x l1 S1 h1 v1 fL=>⟨w1,env,rfl,S1,eo.le l1,(Out.ar h1).mono λw2 y l2 S2 h2 v2 jV=>⟨w2,x,y,rfl,S2,l2 _ _ fL,jV,(Out.ar h2).mono λw3 z l3 S3 h3 v3 A2=>?_⟩⟩⟩;have h4:=Out.ar h3
 cases z with
 |bl b =>
  have e:v3=.bl b:=A2;have h5:=aI S3 h4;refine⟨b,e,?_⟩
  cases b with
  |true =>
   rw[if_pos rfl] at h5 |-;exact⟨w3,env,rfl,S3,eo.le (l1.trans (l2.trans l3)),(Out.ar h5).mono λw4 u l4 S4 h6 v4 tH=>⟨w4,y,u,rfl,S4,(l3.trans l4) _ _ jV,tH,h6⟩⟩
  |false =>
   rw[if_neg WV] at h5 |-;exact aI S3 h5 _ rfl
 |_=>exact h4.elim
theorem Oy {op oo:CmpOp} {o o':D->D->ae->Res D} (ho:bE X (Yg op) (rO X.K Ξ o)) (dZ:bE X (Yg oo) (rO X.K Ξ o')) (ha:PE X a (tE X.K Ξ f)) (hb:PE X b (tE X.K Ξ g)) (hc:PE X c (tE X.K Ξ h))
  (hm:lastMarks [op,oo] [b,c]=false:=by with_unfolding_all rfl):PE X (.Compare a [op,oo] [b,c] pos) (tE X.K Ξ (tG o o' f g h)):=cD (ML ho dZ ha hb hc hm) Qh
theorem wx {op:UnaryOp} {o:D->ae->Res D} (ho:sP X (unaryOp op) (rU X.K Ξ o)) (ha:PE X a (tE X.K Ξ f)):PE X (.UnaryOp op a pos) (tE X.K Ξ (e1 o f)):=cD (Hf ho ha) fun σ H Q aE=>by
 obtain⟨w,env,eH,S,eo,h⟩:=aE;subst eH;exact⟨w,env,rfl,S,eo,(Out.ar h).mono λw1 x l1 S1 h1 v1 fL=>⟨w1,x,rfl,S1,fL,h1⟩⟩
theorem ak:PA X [] (tA X.K Ξ ai):=Gy nu fun σ H Q aE=>by
 obtain⟨w,env,eH,S,eo,h⟩:=aE;subst eH;exact aI S h _ rfl
theorem ah (ha:PE X e (tE X.K Ξ f)) (hr:PA X es (tA X.K Ξ fa)) (hs:Xb (e::es) X.env=(false,eval e X.env)::Xb es X.env:=by rfl):PA X (e::es) (tA X.K Ξ (af f fa)):=Gy (k9 ha hr hs) fun σ H Q aE=>by
 obtain⟨w,env,eH,S,eo,h⟩:=aE;subst eH;exact⟨w,env,rfl,S,eo,(Out.ar h).mono λw1 x l1 S1 h1 v1 fL=>⟨w1,env,rfl,S1,eo.le l1,(Out.ar h1).mono λw2 xs l2 S2 h2 vs aw=>aI S2 h2 _ ⟨v1,vs,rfl,l2 _ _ fL,aw⟩⟩⟩
theorem ng {α:Type} {K:Frag} {w:Wd} {ds:List D} {r:Res α} {k:Wd->α->Prop} (h:Out K Ξ w (gp ds r) k):ds.length<=WX/\Out K Ξ w r k:=by
 unfold gp at h;split at h
 ·exact⟨by assumption,h⟩
 ·exact h.elim
theorem cU {x1} (ha:PA X es (tA X.K Ξ fa)):PE X (.Tuple es x1 pos) (tE X.K Ξ (bz fa)):=cD (PX ha) fun σ H Q aE=>by
 obtain⟨w,env,eH,S,eo,h⟩:=aE;subst eH;refine⟨w,env,rfl,S,eo,(Out.ar h).mono λw1 ds l1 S1 h1 vs aw=>?_⟩;obtain⟨hl,h2⟩:=ng h1;refine⟨by rw[<- aw.length];exact hl,λp hp=>?_⟩;exact h2 (w1.grow p (.tup vs)) (Fw.grow hp).le (S1.grow hp) rfl (.ref p) ⟨p,vs,rfl,aZ.of dP,(Fw.grow hp).le.all aw⟩
theorem nv {K:Frag} {w:Wd} {p:Addr} (S:aO K w) (hp:w.H p=none):¬ w.Z p:=λ⟨k,c,e1,_,_⟩=>S.there k p e1 hp
theorem ke (ha:PA X es (tA X.K Ξ fa)):PE X (.List es pos) (tE X.K Ξ (fB fa)):=cD (Gm ha) fun σ H Q aE=>by
 obtain⟨w,env,eH,S,eo,h⟩:=aE;subst eH;refine⟨w,env,rfl,S,eo,(Out.ar h).mono λw1 ds l1 S1 h1 vs aw=>?_⟩;obtain⟨hl,h2⟩:=ng h1;refine⟨by rw[<- aw.length];exact hl,λp hp=>?_⟩;exact h2 (w1.grow p (.lst vs)) (Fw.grow hp).le (S1.grow hp) rfl (.ref p) ⟨p,vs,rfl,⟨(show ¬ w1.Z p from nv S1 hp),dP⟩,(Fw.grow hp).le.all aw⟩
theorem lE (ha:PA X es (tA X.K Ξ fa)):PE X (.List es pos) (tE X.K Ξ (eNew fa)):=cD (Gm ha) fun σ H Q aE=>by
 obtain⟨w,env,eH,S,eo,h⟩:=aE;subst eH;refine⟨w,env,rfl,S,eo,(Out.ar h).mono λw1 ds l1 S1 h1 vs aw=>?_⟩;obtain⟨hl,h2⟩:=ng h1;refine⟨by rw[<- aw.length];exact hl,λp hp=>?_⟩;have le:=(Fw.cell (o:=.lst vs) (c:=.lst ds) S1 hp).le;refine h2 (w1.cell p (.lst vs) (.lst ds)) le (S1.vU hp ⟨vs,dP,le.all aw⟩) rfl (.ref p) ⟨p,?_,rfl⟩;show (w1.ρ++[p])[w1.aG.length]?=some p;rw[<- S1.len];simp
theorem qc (ha:PE X a (tE X.K Ξ f)):PE X a (tE X.K Ξ (jn f)):=cD ha fun σ H Q aE=>by
 obtain⟨w,env,eH,S,eo,h⟩:=aE;subst eH;refine⟨w,env,rfl,S,eo,(Out.ar h).mono λw1 x l1 S1 h1 v1 fL=>?_⟩;unfold cL at h1;split at h1
 ·rename_i k
  split at h1
  ·rename_i ds hk
   obtain⟨p,e1,e2⟩:=fL;obtain⟨xs,q1,q2⟩:=S1.cell k p _ e1 hk;exact h1 (w1.freeze k) Fw.freeze.le S1.freeze rfl v1 ⟨p,xs,e2,⟨Wd.LK S1 e1,q1⟩,Fw.freeze.le.all q2⟩
  ·exact h1.elim
 ·exact h1.elim
theorem nP.of {K:Frag} {w:Wd} {d:D} {v:V} {k:Wd->Bool->Prop} (S:aO K w) (hd:DV K w d v) (h:Out K Ξ w (truth d w.aG) k):∃b,nP K v w.H b/\k w b:=by
 cases d with
 |aB=>have e:v=.aB:=hd;subst e;exact⟨_,rfl,aI S h⟩
 |bl b=>have e:v=.bl b:=hd;subst e;exact⟨_,rfl,aI S h⟩
 |int i=>have e:v=.int i:=hd;subst e;exact⟨_,rfl,aI S h⟩
 |str x =>
  have e:v=.str x:=hd;subst e;unfold truth at h
  split at h<;>first|contradiction|skip
  all_goals (rename_i e;cases e)
  split at h
  ·exact⟨_,⟨by assumption,rfl⟩,aI S h⟩
  ·exact h.elim
 |tup ds =>
  simp only[DV] at hd;obtain⟨a,xs,rfl,hq,r⟩:=hd;refine⟨_,.inr (.inl ⟨xs,hq,?_⟩),aI S h⟩;have e:=r.length
  cases ds<;>cases xs<;>first|rfl|cases e
 |lst ds =>
  simp only[DV] at hd;obtain⟨a,xs,rfl,hq,r⟩:=hd;refine⟨_,.inl ⟨xs,hq.sq,?_⟩,aI S h⟩;have e:=r.length
  cases ds<;>cases xs<;>first|rfl|cases e
 |bH aq =>
  simp only[DV] at hd;obtain⟨a,rfl,_,hq⟩:=hd;refine⟨_,.inr (.inr ⟨_,hq,?_⟩),aI S h⟩
  cases aq<;>rfl
 |aj j =>
  simp only[DV] at hd;obtain⟨a,e1,rfl⟩:=hd;simp only[truth] at h;split at h
  ·rename_i ds hk
   obtain⟨xs,q1,q2⟩:=S.cell j a _ e1 hk;refine⟨_,.inl ⟨xs,ba.of q1,?_⟩,aI S h⟩;have e:=q2.length
   cases ds<;>cases xs<;>first|rfl|cases e
  ·rename_i aq hk
   obtain⟨es,q1,q2,q3⟩:=S.cell j a _ e1 hk;refine⟨_,.inr (.inr ⟨es,q1,?_⟩),aI S h⟩;have e:=congrArg List.length q2
   cases aq<;>cases es<;>first|rfl|simp at e
  ·exact h.elim
 |ty n=>exact h.elim
 |bQ ns=>exact h.elim
theorem dQ (ha:PE X a (tE X.K Ξ f)) (he:∀whole,isTrue a X.env whole=(do let v <- whole;aaU a.pos;aai [v] (truthy v)):=by intro _;rfl):PT X a (tT X.K Ξ (cu f)):=yT (MM ha he) fun σ H Q aE=>by
 obtain⟨w,env,eH,S,eo,h⟩:=aE;subst eH;exact⟨w,env,rfl,S,eo,(Out.ar h).mono λw1 x l1 S1 h1 v1 fL=>nP.of S1 fL h1⟩
theorem iy (ha:PT X a (tT X.K Ξ ft)):PT X (.UnaryOp .Not a pos) (tT X.K Ξ (dF ft)):=yT (Pz ha) fun σ H Q aE=>by
 obtain⟨w,env,eH,S,eo,h⟩:=aE;subst eH;exact⟨w,env,rfl,S,eo,(Out.ar h).mono λw1 b l1 S1 h1=>aI S1 h1⟩
theorem lq (ha:PT X a (tT X.K Ξ ft)):PW X (.BoolOp .And [a] pos) (tT X.K Ξ ft):=NX ha
theorem mq (ha:PT X a (tT X.K Ξ ft)):PW X (.BoolOp .Or [a] pos) (tT X.K Ξ ft):=Px ha
theorem w_and (ha:PT X a (tT X.K Ξ ft)) (hb:PW X (.BoolOp .And (b::rest) pos) (tT X.K Ξ gt)):PW X (.BoolOp .And (a::b::rest) pos) (tT X.K Ξ (cx ft gt)):=Gx (Py ha hb) fun σ H Q aE=>by
 obtain⟨w,env,eH,S,eo,h⟩:=aE;subst eH;refine⟨w,env,rfl,S,eo,(Out.ar h).mono λw1 b l1 S1 h1=>?_⟩
 cases b with
 |true=>exact⟨w1,env,rfl,S1,eo.le l1,h1⟩
 |false=>exact aI S1 h1
theorem w_or (ha:PT X a (tT X.K Ξ ft)) (hb:PW X (.BoolOp .Or (b::rest) pos) (tT X.K Ξ gt)):PW X (.BoolOp .Or (a::b::rest) pos) (tT X.K Ξ (gS ft gt)):=Gx (Q9 ha hb) fun σ H Q aE=>by
 obtain⟨w,env,eH,S,eo,h⟩:=aE;subst eH;refine⟨w,env,rfl,S,eo,(Out.ar h).mono λw1 b l1 S1 h1=>?_⟩
 cases b with
 |false=>exact⟨w1,env,rfl,S1,eo.le l1,h1⟩
 |true=>exact aI S1 h1
theorem eU {op} (ha:PE X a (tE X.K Ξ f)):PE X (.BoolOp op [a] pos) (tE X.K Ξ f):=PB ha
theorem yz {K:Frag} {w:Wd} {d:D} {v:V} {k:Wd->Bool->Prop} (S:aO K w) (hd:DV K w d v) (h:Out K Ξ w (fU d w.aG) k):∃b,v=.bl b/\k w b:=by
 cases d with
 |bl b=>exact⟨b,hd,aI S h⟩
 |_=>exact h.elim
theorem ff (ha:PE X a (tE X.K Ξ f)) (hb:PE X (.BoolOp .And (b::rest) pos) (tE X.K Ξ g)):PE X (.BoolOp .And (a::b::rest) pos) (tE X.K Ξ (cZ f g)):=cD (PC ha hb) fun σ H Q aE=>by
 obtain⟨w,env,eH,S,eo,h⟩:=aE;subst eH;refine⟨w,env,rfl,S,eo,(Out.ar h).mono λw1 x l1 S1 h1 v1 fL=>?_⟩;obtain⟨b,e,h2⟩:=yz S1 fL (Out.ar h1);refine⟨b,e,?_⟩
 cases b with
 |true=>exact⟨w1,env,rfl,S1,eo.le l1,h2⟩
 |false=>exact aI S1 h2 _ rfl
theorem qo (ha:PE X a (tE X.K Ξ f)) (hb:PE X (.BoolOp .Or (b::rest) pos) (tE X.K Ξ g)):PE X (.BoolOp .Or (a::b::rest) pos) (tE X.K Ξ (kE f g)):=cD (Rc ha hb) fun σ H Q aE=>by
 obtain⟨w,env,eH,S,eo,h⟩:=aE;subst eH;refine⟨w,env,rfl,S,eo,(Out.ar h).mono λw1 x l1 S1 h1 v1 fL=>?_⟩;obtain⟨b,e,h2⟩:=yz S1 fL (Out.ar h1);refine⟨b,e,?_⟩
 cases b with
 |false=>exact⟨w1,env,rfl,S1,eo.le l1,h2⟩
 |true=>exact aI S1 h2 _ rfl
theorem vV (ha:PE X a (tE X.K Ξ f)):PE X (.UnaryOp .Not a pos) (tE X.K Ξ (nS f)):=cD (PD ha) fun σ H Q aE=>by
 obtain⟨w,env,eH,S,eo,h⟩:=aE;subst eH;refine⟨w,env,rfl,S,eo,(Out.ar h).mono λw1 x l1 S1 h1 v1 fL=>?_⟩;obtain⟨b,e,h2⟩:=yz S1 fL (Out.ar h1);exact⟨b,e,aI S1 h2 _ rfl⟩
theorem Tp (hc:PT X c (tT X.K Ξ ft)) (ha:PE X a (tE X.K Ξ f)) (hb:PE X b (tE X.K Ξ g)):PE X (.IfExp c a b pos) (tE X.K Ξ (wX ft f g)):=cD (MI hc ha hb) fun σ H Q aE=>by
 obtain⟨w,env,eH,S,eo,h⟩:=aE;subst eH;refine⟨w,env,rfl,S,eo,(Out.ar h).mono λw1 b l1 S1 h1=>?_⟩
 cases b with
 |true=>exact⟨w1,env,rfl,S1,eo.le l1,h1⟩
 |false=>exact⟨w1,env,rfl,S1,eo.le l1,h1⟩
theorem Gz {K:Frag} {o:List D->ae->Res D} (σ:St) (H:Hp) (Q:VK):tE K Ξ (eB o fa) σ H Q->AD (rC K Ξ o) (tA K Ξ fa) σ H Q:=by
 rintro ⟨w,env,rfl,S,eo,h⟩;exact⟨w,env,rfl,S,eo,(Out.ar h).mono λw1 ds l1 S1 h1 vs aw=>⟨w1,ds,rfl,S1,aw,h1⟩⟩
theorem cv {x:Str} {p:Pos} {id:String} {o:List D->ae->Res D} (hc:cz X (.builtin id) (rC X.K Ξ o)) (hg:Gl X x) (hm:X.mg x=none) (hv:XA x=some (.builtin id)) (ha:PA X (e::es) (tA X.K Ξ fa)) (hn:x≠"__name__":=by decide) (jS:(x==("__debug__":Str))=false:=by decide)
  (he:Xb (e::es) X.env=(false,eval e X.env)::Xb es X.env:=by rfl) (dj:(Z5 pos (Xb es X.env)).any (·.1)=false:=by rfl):PE X (.Call (.Name x p) (e::es) [] pos) (tE X.K Ξ (eB o fa)):=cD (xS hc hg hm hv ha hn jS he dj) Gz
theorem jd {x:Str} {p:Pos} {T:String} {o:List D->ae->Res D} (hc:cz X (.type T) (rC X.K Ξ o)) (hg:Gl X x) (hm:X.mg x=none) (hv:XA x=some (.type T)) (ha:PA X (e::es) (tA X.K Ξ fa)) (hn:x≠"__name__":=by decide) (jS:(x==("__debug__":Str))=false:=by decide)
  (he:Xb (e::es) X.env=(false,eval e X.env)::Xb es X.env:=by rfl) (dj:(Z5 pos (Xb es X.env)).any (·.1)=false:=by rfl):PE X (.Call (.Name x p) (e::es) [] pos) (tE X.K Ξ (eB o fa)):=cD (xF hc hg hm hv ha hn jS he dj) Gz
end
end DI
namespace DI
open PySem L2
set_option genInjectivity true in
inductive Fl where
 |nx (env:Env)|rt (d:D)|bk (env:Env)|ct (env:Env)
noncomputable def sd (K:Frag) (D:Ends) (w:Wd):Fl->Prop
 | .nx env=>∀ σ,bT K w env σ->D.nx σ w.H
 | .rt d=>∀v,DV K w d v->D.rt v w.H
 | .bk env=>∀ σ,bT K w env σ->D.bk σ w.H
 | .ct env=>∀ σ,bT K w env σ->D.ct σ w.H
noncomputable def tS (K:Frag) (Ξ:Wd->bq->Prop) (f:Env->ae->Res Fl):TS:=λD σ H=>∃w env,w.H=H/\aO K w/\bT K w env σ/\Out K Ξ w (f env w.aG) (sd K D)
noncomputable def bL:Env->ae->Res Fl:=λenv s=>ok (.nx env) s
noncomputable def ay (f g:Env->ae->Res Fl):Env->ae->Res Fl:=λenv s=>ar (f env s) λfl s=>match fl with
 | .nx env=>g env s
 |fl=>ok fl s
noncomputable def aP (f:Env->ae->Res D):Env->ae->Res Fl:=λenv s=>ar (f env s) λd s=>ok (.rt d) s
noncomputable def cP (f:Env->ae->Res D):Env->ae->Res Fl:=λenv s=>ar (f env s) λ_ s=>ok (.nx env) s
noncomputable def bA (c:Env->ae->Res Bool) (f g:Env->ae->Res Fl):Env->ae->Res Fl:=λenv s=>ar (c env s) λb s=>if b=true then f env s else g env s
noncomputable def rQ:Env->ae->Res Fl:=λenv s=>ok (.ct env) s
noncomputable def aN (f:Env->ae->Res D) (g:D->Env->Option Env):Env->ae->Res Fl:=λenv s=>ar (f env s) λd s=>match g d env with
 |some aC=>ok (.nx aC) s
 |none=>none
noncomputable def gN (i:Nat):D->Env->Option Env:=λd env=>some (env.set i (some d))
noncomputable def gO:List (D->Env->Option Env)->List D->Env->Option Env
 | [],[],env=>some env
 |g::gs,d::ds,env=>match g d env with
  |some aC=>gO gs ds aC
  |none=>none
 |_,_,_=>none
noncomputable def gT (gs:List (D->Env->Option Env)):D->Env->Option Env:=λd env=>match d with
 | .tup ds=>gO gs ds env
 |_=>none
noncomputable def kf (g:D->Env->Option Env) (b:Env->ae->Res Fl):List D->Env->ae->Res Fl
 | [],env,s=>ok (.nx env) s
 |d::ds,env,s=>match g d env with
  |none=>none
  |some aC=>ar (b aC s) λfl s=>match fl with
   | .nx e=>kf g b ds e s
   | .ct e=>kf g b ds e s
   | .bk e=>ok (.nx e) s
   | .rt d=>ok (.rt d) s
noncomputable def cJ (it:Env->ae->Res (List D)) (g:D->Env->Option Env) (b:Env->ae->Res Fl):Env->ae->Res Fl:=λenv s=>ar (it env s) λds s=>kf g b ds env s
noncomputable def mr (c:Env->ae->Res Bool) (b:Env->ae->Res Fl):Nat->Env->ae->Res Fl
 |0,_,_=>none
 |n+1,env,s=>ar (c env s) λt s=>if t=true then ar (b env s) λfl s=>match fl with
   | .nx e=>mr c b n e s
   | .ct e=>mr c b n e s
   | .bk e=>ok (.nx e) s
   | .rt d=>ok (.rt d) s
  else ok (.nx env) s
noncomputable def wy (n:Nat) (c:Env->ae->Res Bool) (b:Env->ae->Res Fl):Env->ae->Res Fl:=mr c b n
noncomputable def ne {α:Type} (r:Res α):Res α:=match r with
 |some (.ok a,s)=>some (.ok a,s)
 |_=>none
@[simp] theorem kg {α:Type} {a:α} {s:ae}:ne (some (.ok a,s))=some (.ok a,s):=rfl
noncomputable def dE (cap:List Nat) (env:Env):Env:=cap.map λj=>(env[j]?).getD none
noncomputable def fx (nt:Nat) (caps:Env) (g:D->Env->Option Env) (t:Env->ae->Res Bool) (f:Env->ae->Res D):List D->ae->Res (List D)
 | [],s=>ok [] s
 |d::ds,s=>match g d (WM nt none++caps) with
  |none=>none
  |some env=>ar (ne (t env s)) λb s=>if b=true then ar (ne (f env s)) λx s=>ar (fx nt caps g t f ds s) λxs s=>ok (x::xs) s
   else fx nt caps g t f ds s
noncomputable def aV (nt:Nat) (cap:List Nat) (it:Env->ae->Res (List D)) (g:D->Env->Option Env) (t:Env->ae->Res Bool) (f:Env->ae->Res D):Env->ae->Res D:=λenv s =>
 ar (it env s) λds s=>gp ds (ar (fx nt (dE cap env) g t f ds s) λxs s=>ok (.lst xs) s)
noncomputable def rD (nt:Nat) (cap:List Nat) (it:Env->ae->Res (List D)) (g:D->Env->Option Env) (t:Env->ae->Res Bool) (f:Env->ae->Res D):Env->ae->Res D:=λenv s =>
 ar (it env s) λds s=>gp ds (ar (fx nt (dE cap env) g t f ds s) λxs s=>ok (.aj s.length) (s++[.lst xs]))
noncomputable def ck:Env->ae->Res Bool:=λ_ s=>ok true s
noncomputable def bc (np ns:Nat) (b:Env->ae->Res Fl):List D->ae->Res D:=λds s=>if ds.length=np then ar (b (ds.map some++WM (ns-np) none) s) λfl s=>match fl with
 | .rt d=>ok d s
 | .nx _=>ok .aB s
 |_=>none else none
noncomputable abbrev bR:Wd->bq->Prop:=λ_ _=>False
noncomputable def bu (K:Frag) (f:List D->ae->Res D):Sp:=λvs H Q _=>∃w ds,w.H=H/\aO K w/\au K w ds vs/\Out K bR w (f ds w.aG) λw' d=>∀v,DV K w' d v->Q v w'.H
section
variable {X:Cx} {Ξ:Wd->bq->Prop} {e a b c tg:Expr} {es rest:List Expr} {pos:Pos} {f g h:Env->ae->Res D} {fa:Env->ae->Res (List D)} {ft gt:Env->ae->Res Bool} {st:Stmt} {kF Ai:List Stmt} {fs gs:Env->ae->Res Fl}
theorem dR:dH X [] (tS X.K Ξ bL):=Fs NY λD σ H aE=>by
 obtain⟨w,env,eH,S,eo,h⟩:=aE;subst eH;exact aI S h σ eo
theorem aJ (h1:PS X st (tS X.K Ξ fs)) (h2:dH X kF (tS X.K Ξ gs)):dH X (st::kF) (tS X.K Ξ (ay fs gs)):=Fs (MJ h1 h2) λD σ H aE=>by
 obtain⟨w,env,eH,S,eo,h⟩:=aE;subst eH;refine⟨w,env,rfl,S,eo,(Out.ar h).mono λw1 fl l1 S1 h1=>?_⟩
 cases fl with
 |nx aC=>exact fun aT gH=>⟨w1,aC,rfl,S1,gH,h1⟩
 |rt d=>have q:=aI S1 h1;exact q
 |bk aC=>have q:=aI S1 h1;exact q
 |ct aC=>have q:=aI S1 h1;exact q
theorem aL (h1:PS X st (tS X.K Ξ fs)):dH X [st] (tS X.K Ξ fs):=NZ h1
theorem Qi:PS X (.Continue pos) (tS X.K Ξ rQ):=iN Kk λD σ H aE=>by
 obtain⟨w,env,eH,S,eo,h⟩:=aE;subst eH;exact aI S h σ eo
theorem bo (he:PE X e (tE X.K Ξ f)):PS X (.Return (some e) pos) (tS X.K Ξ (aP f)):=iN (PH he) λD σ H aE=>by
 obtain⟨w,env,eH,S,eo,h⟩:=aE;subst eH;exact⟨w,env,rfl,S,eo,(Out.ar h).mono λw1 d l1 S1 h1=>aI S1 h1⟩
theorem gY (he:PE X e (tE X.K Ξ f)) (hs:swapsWith e none pos.line X.env=pure false:=by rfl):PS X (.Expr e pos) (tS X.K Ξ (cP f)):=iN (N0 he hs) λD σ H aE=>by
 obtain⟨w,env,eH,S,eo,h⟩:=aE;subst eH;exact⟨w,env,rfl,S,eo,(Out.ar h).mono λw1 d l1 S1 h1 _ _=>aI S1 h1 σ (eo.le l1)⟩
theorem dh (hc:PT X c (tT X.K Ξ ft)) (ha:dH X kF (tS X.K Ξ fs)) (hb:dH X Ai (tS X.K Ξ gs)):PS X (.If c kF Ai pos) (tS X.K Ξ (bA ft fs gs)):=iN (Ri hc ha hb) λD σ H aE=>by
 obtain⟨w,env,eH,S,eo,h⟩:=aE;subst eH;refine⟨w,env,rfl,S,eo,(Out.ar h).mono λw1 b l1 S1 h1=>?_⟩
 cases b with
 |true=>exact⟨w1,env,rfl,S1,eo.le l1,h1⟩
 |false=>exact⟨w1,env,rfl,S1,eo.le l1,h1⟩
noncomputable def tI:Env->ae->Res Fl:=λ_ _=>none
theorem uU:dH X kF (tS X.K Ξ tI):=λ_ _ _ _ _ _ h=>by obtain⟨w,env,_,_,_,h⟩:=h;exact h.elim
noncomputable def gD (K:Frag) (g:D->Env->Option Env):TG:=λv σ H Q=>∃w env d aC,w.H=H/\aO K w/\bT K w env σ/\DV K w d v/\g d env=some aC/\∀ aT,bT K w aC aT->Q aT H
noncomputable def tJ (K:Frag) (g:List D->Env->Option Env):hX:=λvs σ H Q=>∃w env ds aC,w.H=H/\aO K w/\bT K w env σ/\au K w ds vs/\g ds env=some aC/\∀ aT,bT K w aC aT->Q aT H
theorem GA {t t':TG} (h:PG X e t) (i:∀v σ H Q,t' v σ H Q->t v σ H Q):PG X e t':=λpins s σ H v u Q I r hq=>h pins s σ H v u Q I r (i v σ H Q hq)
theorem Fu {t t':hX} (h:kA X es t) (i:∀v σ H Q,t' v σ H Q->t v σ H Q):kA X es t':=λpins s σ H v u Q I r hq=>h pins s σ H v u Q I r (i v σ H Q hq)
theorem bY (i:Nat) {x:Str} (hN:X.N.Nodup) (hi:X.N[i]?=some x:=by rfl) (hx:Loc X.env.scope x:=by first|exact Yj rfl|exact Or.inr rfl) (hf:X.fn x=true\/X.env.scope.names.lookup x=some .local:=by first|exact .inl rfl|exact .inr rfl):PG X (.Name x pos) (gD X.K (gN i)) :=
 GA (bC hN hi hx hf) λv σ H Q aE=>by
  obtain⟨w,env,d,aC,eH,S,eo,dv,eg,k⟩:=aE;have e:env.set i (some d)=aC:=Option.some.inj eg;subst e;exact k _ (eo.set dv i)
theorem mf:kA X [] (tJ X.K (gO [])):=Fu pM λvs σ H Q aE=>by
 obtain⟨w,env,ds,aC,eH,S,eo,aw,eg,k⟩:=aE
 cases ds with
 |nil =>
  have e:env=aC:=Option.some.inj eg;subst e;exact⟨aw,k _ eo⟩
 |cons d ds=>cases eg
theorem fI {g:D->Env->Option Env} {gl:List (D->Env->Option Env)} (h1:PG X e (gD X.K g)) (h2:kA X es (tJ X.K (gO gl)))
  (hs:(YU (e::es) X.env).map (·.2)=aaT e X.env::(YU es X.env).map (·.2):=by rfl):kA X (e::es) (tJ X.K (gO (g::gl))):=Fu (jy h1 h2 hs) λvs σ H Q aE=>by
 obtain⟨w,env,ds,aC,eH,S,eo,aw,eg,k⟩:=aE
 cases ds with
 |nil=>cases eg
 |cons d ds =>
  obtain⟨v,r,rfl,dv,dr⟩:=aw;simp only[gO] at eg
  cases qF:g d env with
  |none=>rw[qF] at eg;cases eg
  |some wz =>
   rw[qF] at eg;refine⟨v,r,rfl,w,env,d,wz,eH,S,eo,dv,qF,fun og Uz=>⟨w,wz,ds,aC,eH,S,Uz,dr,eg,k⟩⟩
theorem xV:∀{gl:List (D->Env->Option Env)} {ds:List D} {env aC:Env},gO gl ds env=some aC->ds.length=gl.length
 | [],[],_,_,_=>rfl
 |g::gl,d::ds,env,aC,h=>by
  simp only[gO] at h
  cases qF:g d env with
  |none=>rw[qF] at h;cases h
  |some e1=>rw[qF] at h;simp[xV h]
 | [],_::_,_,_,h=>by cases h
 |_::_,[],_,_,h=>by cases h
theorem mv {gl:List (D->Env->Option Env)} {k:Nat} (hc:X.calm=true) (h:kA X es (tJ X.K (gO gl))) (hn:(YU es X.env).length=gl.length:=by rfl) (oh:(YU es X.env).findIdx? (·.1)=none:=by rfl):PG X (.Tuple es k pos) (gD X.K (gT gl)) :=
 GA (lp hc h hn oh) λv σ H Q aE=>by
  obtain⟨w,env,d,aC,eH,S,eo,dv,eg,k⟩:=aE
  cases d with
  |tup ds =>
   simp only[DV] at dv;obtain⟨p,xs,e1,hq,aw⟩:=dv;subst eH;exact⟨p,xs,e1,hq,by rw[<- aw.length];exact xV eg,w,env,ds,aC,rfl,S,eo,aw,eg,k⟩
  |_=>cases eg
theorem yA {K:Frag} {g:D->Env->Option Env} (D:Ends) (σ:St) (H:Hp):tS K Ξ (aN f g) D σ H->qi (tE K Ξ f) (gD K g) D σ H:=by
 rintro ⟨w,env,rfl,S,eo,h⟩;refine⟨w,env,rfl,S,eo,(Out.ar h).mono λw1 d l1 S1 h1 v dv=>?_⟩
 cases hg:g d env with
 |none=>rw[hg] at h1;exact h1.elim
 |some aC =>
  rw[hg] at h1;exact⟨w1,env,d,aC,rfl,S1,eo.le l1,dv,hg,aI S1 h1⟩
theorem mw {g:D->Env->Option Env} (he:PE X e (tE X.K Ξ f)) (hg:PG X tg (gD X.K g)) (hs:Zh [tg] e pos.line X.env=pure false:=by rfl) (hw:Zi [tg] e X.env=pure none:=by rfl)
  (h1:(YU [tg] X.env).map (·.2)=[aaT tg X.env]:=by rfl):PS X (.Assign [tg] e pos) (tS X.K Ξ (aN f g)):=iN (yQ he hg hs hw h1) yA
theorem DU {K:Frag} {te:TE} {i:Nat} (D:Ends) (σ:St) (H:Hp):qi (tE K Ξ f) (gD K (gN i)) D σ H->qi (tE K Ξ f) (lD i) D σ H:=by
 rintro ⟨w,env,rfl,S,eo,h⟩;refine⟨w,env,rfl,S,eo,h.mono λw1 d l1 S1 h1 v dv=>?_⟩;obtain⟨w',wz,d',aC,e',S',gH,oz,eg,k⟩:=h1 v dv;have e:wz.set i (some d')=aC:=Option.some.inj eg;subst e;exact k _ (gH.set oz i)
theorem bZ (i:Nat) {x:Str} {pos':Pos} (hN:X.N.Nodup) (he:PE X e (tE X.K Ξ f)) (hi:X.N[i]?=some x:=by rfl) (hx:Loc X.env.scope x:=by first|exact Yj rfl|exact Or.inr rfl) (hs:swapsWith e (some (.Name x pos')) pos.line X.env=pure false:=by rfl) (hf:X.fn x=true\/X.env.scope.names.lookup x=some .local:=by first|exact .inl rfl|exact .inr rfl) :
  PS X (.Assign [.Name x pos'] e pos) (tS X.K Ξ (aN f (gN i))):=iN (PJ hN hi hx he hs hf) λD σ H h=>DU (te:=tE X.K Ξ f) D σ H (yA D σ H h)
def oA (K:Frag) (w:Wd) (J:It) (ds:List D):Prop:=∀w',Le K w w'->aO K w'->∀i,
 (∀d,ds[i]?=some d->J.go i w'.H/\∀x H',J.qA i w'.H x H'->∃w2,w2.H=H'/\Le K w' w2/\aO K w2/\w2.aG=w'.aG/\DV K w2 d x)/\(ds.length<=i->J.stop i w'.H)
noncomputable def dq (K:Frag) (Ξ:Wd->bq->Prop) (f:Env->ae->Res (List D)):TI:=fun σ H R=>∃w env,w.H=H/\aO K w/\bT K w env σ/\Out K Ξ w (f env w.aG) λw' ds=>∀J,oA K w' J ds->R J w'.H
theorem pV {t t':TI} (h:PI X tg e t) (i:∀ σ H R,t' σ H R->t σ H R):PI X tg e t':=λpins s σ H R I hq=>h pins s σ H R I (i σ H R hq)
theorem Oz {K:Frag} {it:Env->ae->Res (List D)} {g:D->Env->Option Env} (D0:Ends) (σ:St) (H:Hp):tS K Ξ (cJ it g fs) D0 σ H->HP (dq K Ξ it) (gD K g) (tS K Ξ fs) D0 σ H:=by
 rintro ⟨w,env,rfl,S,eo,h⟩;refine⟨w,env,rfl,S,eo,(Out.ar h).mono λw1 ds l1 S1 h1 J hJ=>?_⟩;refine⟨λi m aT H'=>m=ds.length-i/\i<=ds.length/\∃w' aC,w'.H=H'/\Le K w1 w'/\aO K w'/\bT K w' aC aT/\Out K Ξ w' (kf g fs (ds.drop i) aC w'.aG) (sd K D0),
  ⟨ds.length,rfl,X1 _,w1,env,rfl,Le.refl _,S1,eo.le l1,h1⟩,?_⟩
 rintro i m aT H' ⟨rfl,hi,w',aC,rfl,l',S',gH,h'⟩;by_cases bp:i<ds.length
 ·right
  obtain⟨fM,hy⟩:=(hJ w' l' S' i).1 _ (WQ bp);rw[Y3 bp] at h';simp only[kf] at h'
  cases hg:g ds[i] aC with
  |none=>rw[hg] at h';exact h'.elim
  |some gP =>
   rw[hg] at h';refine⟨fM,fun i4 H2=>∃w2 nT,w2.H=H2/\Le K w1 w2/\aO K w2/\bT K w2 nT i4/\Out K Ξ w2 (kf g fs (ds.drop (i+1)) nT w2.aG) (sd K D0),fun i4 H2 ⟨w2,nT,q⟩=>⟨ds.length-(i+1),by omega,rfl,bp,w2,nT,q⟩,λx H2 y=>?_⟩;obtain⟨w2,rfl,l2,S2,es,dv⟩:=hy x H2 y;refine⟨w2,aC,ds[i],gP,rfl,S2,gH.le l2,dv,hg,fun i4 i8=>⟨w2,gP,rfl,S2,i8,?_⟩⟩;rw[<- es] at h';refine(Out.ar (h'.from l2)).mono λw3 fl l3 S3 h3=>?_
   cases fl with
   |nx e3=>exact fun f6 oB=>⟨w3,e3,rfl,l'.trans (l2.trans l3),S3,oB,h3⟩
   |ct e3=>exact fun f6 oB=>⟨w3,e3,rfl,l'.trans (l2.trans l3),S3,oB,h3⟩
   |bk e3=>have q:=aI S3 h3;exact q
   |rt d=>have q:=aI S3 h3;exact q
 ·left
  have e:i=ds.length:=by omega
  subst e;rw[aaJ] at h';exact⟨(hJ w' l' S' _).2 (Nat.le_refl _),aI S' h' aT gH⟩
theorem fQ {iter:Expr} {it:Env->ae->Res (List D)} {g:D->Env->Option Env} (hp:PassesOwn (model X.prog X.w) X.A X.env X.xe) (hc:X.calm=true) (hi:PI X tg iter (dq X.K Ξ it)) (hg:PG X tg (gD X.K g)) (hb:dH X kF (tS X.K Ξ fs))
  (hs:∀x,Xo iter X.env x=pure x:=by intro _;rfl):PS X (.For tg iter kF [] pos) (tS X.K Ξ (cJ it g fs)):=iN (PM hp hc hi hg hb hs) Oz
theorem OA {K:Frag} {n:Nat} (D0:Ends) (σ:St) (H:Hp):tS K Ξ (wy n ft fs) D0 σ H->Gg (tT K Ξ ft) (tS K Ξ fs) D0 σ H:=by
 rintro ⟨w,env,rfl,S,eo,h⟩;refine⟨λm aT H'=>∃w' aC,w'.H=H'/\aO K w'/\bT K w' aC aT/\Out K Ξ w' (mr ft fs m aC w'.aG) (sd K D0),⟨n,w,env,rfl,S,eo,h⟩,?_⟩;rintro m aT H' ⟨w',aC,rfl,S',gH,h'⟩
 cases m with
 |zero=>exact h'.elim
 |succ m =>
  simp only[mr] at h';refine⟨w',aC,rfl,S',gH,(Out.ar h').mono λw1 b l1 S1 h1=>?_⟩
  cases b with
  |true =>
   refine⟨fun i4 H2=>∃w2 nT,w2.H=H2/\aO K w2/\bT K w2 nT i4/\Out K Ξ w2 (mr ft fs m nT w2.aG) (sd K D0),fun i4 H2 q=>⟨m,YY m,q⟩,w1,aC,rfl,S1,gH.le l1,(Out.ar h1).mono λw3 fl l3 S3 h3=>?_⟩
   cases fl with
   |nx e3=>exact fun f6 oB=>⟨w3,e3,rfl,S3,oB,h3⟩
   |ct e3=>exact fun f6 oB=>⟨w3,e3,rfl,S3,oB,h3⟩
   |bk e3=>have q:=aI S3 h3;exact q
   |rt d=>have q:=aI S3 h3;exact q
  |false=>exact aI S1 h1 aT (gH.le l1)
theorem RO (n:Nat) (hp:PassesOwn (model X.prog X.w) X.A X.env X.xe) (hc:PT X c (tT X.K Ξ ft)) (hb:dH X kF (tS X.K Ξ fs)):PS X (.While c kF [] pos) (tS X.K Ξ (wy n ft fs)):=iN (MK hp hc hb) OA
theorem Out.ne {α:Type} {K:Frag} {w:Wd} {r:Res α} {k:Wd->α->Prop} (h:Out K Ξ w (DI.ne r) k):Out K bR w r k:=by
 match r,h with
 |some (.ok a,s),h=>exact h
theorem bT.block {K:Frag} {w:Wd} {env:Env} {σ:St} (h:bT K w env σ) (nt:Nat) (cap:List Nat) (o:St) (ho:o.length=nt):bT K w (WM nt none++dE cap env) (o++mm cap σ):=by
 refine⟨by simp[dE,mm,ho],λi d e=>?_⟩;by_cases hi:i<nt
 ·rw[W0 (by simpa using hi),X5,if_pos hi] at e
  cases e
 ·rw[Xr (by simpa using Zp hi)] at e
  rw[Xr (by omega),ho];simp only[ZC] at e;unfold dE at e;unfold mm;rw[W6] at e |-
  cases ej:cap[i-nt]? with
  |none=>rw[ej] at e;cases e
  |some j =>
   rw[ej] at e;have ev:(env[j]?).getD none=some d:=Option.some.inj e;have sY:env[j]?=some (some d):=by
    cases q:env[j]? with
    |none=>rw[q] at ev;cases ev
    |some z=>rw[q] at ev;exact congrArg some ev
   obtain⟨v,e1,e2⟩:=h.val j d sY;exact⟨v,by rw[YC,e1];rfl,e2⟩
theorem DW {K:Frag} {nt:Nat} {cap:List Nat} {it:Env->ae->Res (List D)} {g:D->Env->Option Env} {fin:List D->ae->Res D} (σ:St) (H:Hp) (Q:VK)
  (Aj:∀(w2:Wd) (xs:List D) (vs:List V),aO K w2->au K w2 xs vs->Out K Ξ w2 (fin xs w2.aG) (λw' d=>∀v,DV K w' d v->Q v w'.H)->∀p,w2.H p=none->Q (.ref p) (upd w2.H p (.lst vs))) :
  tE K Ξ (λenv s=>ar (it env s) λds s=>gp ds (ar (fx nt (dE cap env) g ft f ds s) fin)) σ H Q->kc (dq K Ξ it) nt cap (gD K g) (tT K bR ft) (tE K bR f) σ H Q:=by
 rintro ⟨w,env,rfl,S,eo,h⟩;refine⟨w,env,rfl,S,eo,(Out.ar h).mono λw1 ds l1 S1 h1 J hJ=>?_⟩;obtain⟨hz,h1⟩:=ng h1;refine⟨λi m acc H'=>m=ds.length-i/\i<=ds.length/\acc.length<=i/\∃w' accD,w'.H=H'/\Le K w1 w'/\aO K w'/\au K w' accD acc/\Out K Ξ w' (fx nt (dE cap env) g ft f (ds.drop i) w'.aG) λw2 xs=>∀vs,au K w2 (accD++xs) vs->∀p,w2.H p=none->Q (.ref p) (upd w2.H p (.lst vs)),
  ⟨ds.length,rfl,X1 _,X1 _,w1,[],rfl,Le.refl _,S1,rfl,(Out.ar h1).mono λw2 xs l2 S2 h2 vs aw p hp=>?_⟩,?_⟩
 ·exact Aj w2 xs vs S2 aw h2 p hp
 rintro i m acc H' ⟨rfl,hi,ha,w',accD,rfl,l',S',da,h'⟩;by_cases bp:i<ds.length
 ·right
  obtain⟨fM,hy⟩:=(hJ w' l' S' i).1 _ (WQ bp);rw[Y3 bp] at h';simp only[fx] at h'
  cases hg:g ds[i] (WM nt none++dE cap env) with
  |none=>rw[hg] at h';exact h'.elim
  |some gP =>
   rw[hg] at h';refine⟨fM,by omega,λmB H2=>mB.length<=i+1/\∃w' accD,w'.H=H2/\Le K w1 w'/\aO K w'/\au K w' accD mB/\Out K Ξ w' (fx nt (dE cap env) g ft f (ds.drop (i+1)) w'.aG) λw2 xs=>∀vs,au K w2 (accD++xs) vs->∀p,w2.H p=none->Q (.ref p) (upd w2.H p (.lst vs)),
    λmB H2 ⟨A3,q⟩=>⟨ds.length-(i+1),by omega,rfl,bp,A3,q⟩,λo x H3 ho y=>?_⟩
   obtain⟨w2,rfl,l2,S2,es,dv⟩:=hy x H3 y;refine⟨w2,_,ds[i],gP,rfl,S2,(eo.le (l1.trans (l'.trans l2))).block nt cap o ho,dv,hg,fun i4 i8=>?_⟩;rw[<- es] at h';refine⟨w2,gP,rfl,S2,i8,(Out.ar (h'.from l2)).ne.mono λw3 b l3 S3 h3=>?_⟩
   cases b with
   |true =>
    refine⟨w3,gP,rfl,S3,i8.le l3,(Out.ar h3).ne.mono λw4 d l4 S4 h4 v tH=>⟨by rw[Xw];simp;omega,w4,accD++[d],rfl,l'.trans (l2.trans (l3.trans l4)),S4,au.append ((l2.trans (l3.trans l4)).all da) (au.one tH),(Out.ar h4).mono λw5 xs l5 S5 h5 vs aw p hp=>?_⟩⟩;exact aI S5 h5 vs (by rw[X3] at aw;exact aw) p hp
   |false =>
    exact⟨by omega,w3,accD,rfl,l'.trans (l2.trans l3),S3,(l2.trans l3).all da,h3⟩
 ·left
  have e:i=ds.length:=by omega
  subst e;rw[aaJ] at h';refine⟨(hJ w' l' S' _).2 (Nat.le_refl _),by omega,λp hp=>aI S' h' acc (by rw[Yb];exact da) p hp⟩
theorem EA {K:Frag} {nt:Nat} {cap:List Nat} {it:Env->ae->Res (List D)} {g:D->Env->Option Env} (σ:St) (H:Hp) (Q:VK) :
  tE K Ξ (aV nt cap it g ft f) σ H Q->kc (dq K Ξ it) nt cap (gD K g) (tT K bR ft) (tE K bR f) σ H Q :=
 DW σ H Q λw2 xs vs S2 aw h2 p hp=>h2 (w2.grow p (.lst vs)) (Fw.grow hp).le (S2.grow hp) rfl (.ref p) ⟨p,vs,rfl,⟨(show ¬ w2.Z p from nv S2 hp),dP⟩,(Fw.grow hp).le.all aw⟩
theorem LL {K:Frag} {nt:Nat} {cap:List Nat} {it:Env->ae->Res (List D)} {g:D->Env->Option Env} (σ:St) (H:Hp) (Q:VK) :
  tE K Ξ (rD nt cap it g ft f) σ H Q->kc (dq K Ξ it) nt cap (gD K g) (tT K bR ft) (tE K bR f) σ H Q :=
 DW σ H Q λw2 xs vs S2 aw h2 p hp=>by
  have le:=(Fw.cell (o:=.lst vs) (c:=.lst xs) S2 hp).le;refine h2 (w2.cell p (.lst vs) (.lst xs)) le (S2.vU hp ⟨vs,dP,le.all aw⟩) rfl (.ref p) ⟨p,?_,rfl⟩;show (w2.ρ++[p])[w2.aG.length]?=some p;rw[<- S2.len];simp
end
end DI
namespace DI
open PySem L2
theorem Fv {o caps:St} {v:V} {i nt:Nat} (ho:o.length=nt) (hi:i<nt):(o++caps).set i (some v)=o.set i (some v)++caps:=by
 rw[List.set_append_left _ _ (by omega)]
theorem LM {i nt:Nat} (hi:i<nt):lS (lD i) nt:=by
 intro x o caps H R ho h;exact⟨⟨o.set i (some x),by rw[XZ];exact ho,Fv ho hi⟩,h⟩
def se (g:hX) (nt:Nat):Prop:=∀(xs:List V) (o caps:St) (H:Hp) (R:St->Hp->Prop),o.length=nt->g xs (o++caps) H R->g xs (o++caps) H fun τ H2=>(∃o2:St,o2.length=nt/\τ=o2++caps)/\R τ H2
theorem M9 {nt:Nat}:se zS nt:=λxs o caps H R ho h=>⟨h.1,⟨o,ho,rfl⟩,h.2⟩
theorem LN {i nt:Nat} {g:hX} (hi:i<nt) (hg:se g nt):se (zq (lD i) g) nt:=by
 rintro xs o caps H R ho ⟨v,r,e,h⟩;refine⟨v,r,e,?_⟩;have h:g r ((o++caps).set i (some v)) H R:=h;show g r ((o++caps).set i (some v)) H _;rw[Fv ho hi] at h |-;exact hg r _ caps H R (by rw[XZ];exact ho) h
theorem Na {K:Frag} {n nt:Nat} {g:hX} (hg:se g nt):lS (zT K n g) nt:=by
 rintro x o caps H R ho ⟨a,xs,e,hq,hl,h⟩;exact⟨a,xs,e,hq,hl,hg xs o caps H R ho h⟩
structure Tg (K:Frag) (g0:TG) (g:D->Env->Option Env) (nt:Nat):Prop where
 iF:lS g0 nt
 imp:∀v σ H Q,gD K g v σ H Q->g0 v σ H Q
structure wY (K:Frag) (g0:hX) (g:List (D->Env->Option Env)) (nt:Nat):Prop where
 iF:se g0 nt
 imp:∀v σ H Q,tJ K (gO g) v σ H Q->g0 v σ H Q
theorem cm {K:Frag} (i:Nat) {nt:Nat} (hi:i<nt:=by decide):Tg K (lD i) (gN i) nt:=⟨LM hi,λv σ H Q aE=>by
 obtain⟨w,env,d,aC,eH,S,eo,dv,eg,k⟩:=aE;have e:env.set i (some d)=aC:=Option.some.inj eg;subst e;exact k _ (eo.set dv i)⟩
theorem rk {K:Frag} {nt:Nat}:wY K zS [] nt:=⟨M9,λvs σ H Q aE=>by
 obtain⟨w,env,ds,aC,eH,S,eo,aw,eg,k⟩:=aE
 cases ds with
 |nil =>
  have e:env=aC:=Option.some.inj eg;subst e;exact⟨aw,k _ eo⟩
 |cons d ds=>cases eg⟩
theorem j7 {K:Frag} (i:Nat) {nt:Nat} {g0:hX} {gl:List (D->Env->Option Env)} (h:wY K g0 gl nt) (hi:i<nt:=by decide):wY K (zq (lD i) g0) (gN i::gl) nt:=⟨LN hi h.iF,λvs σ H Q aE=>by
 obtain⟨w,env,ds,aC,eH,S,eo,aw,eg,k⟩:=aE
 cases ds with
 |nil=>cases eg
 |cons d ds =>
  obtain⟨v,r,rfl,dv,dr⟩:=aw;exact⟨v,r,rfl,h.imp _ _ _ _ ⟨w,_,ds,aC,eH,S,eo.set dv i,dr,eg,k⟩⟩⟩
theorem rE {K:Frag} {nt n:Nat} {g0:hX} {gl:List (D->Env->Option Env)} (h:wY K g0 gl nt) (hn:gl.length=n:=by rfl):Tg K (zT K n g0) (gT gl) nt:=⟨Na h.iF,λv σ H Q aE=>by
 obtain⟨w,env,d,aC,eH,S,eo,dv,eg,k⟩:=aE
 cases d with
 |tup ds =>
  simp only[DV] at dv;obtain⟨p,xs,e1,hq,aw⟩:=dv;subst eH;exact⟨p,xs,e1,hq,by rw[<- aw.length,xV eg];exact hn,h.imp _ _ _ _ ⟨w,env,ds,aC,rfl,S,eo,aw,eg,k⟩⟩
 |_=>cases eg⟩
section
variable {X:Cx} {Ξ:Wd->bq->Prop} {e a b c tg el src:Expr} {es rest tests:List Expr} {pos:Pos} {f g h:Env->ae->Res D} {fa:Env->ae->Res (List D)} {ft gt:Env->ae->Res Bool} {st:Stmt} {kF Ai:List Stmt} {fs gs:Env->ae->Res Fl}
theorem Qj {t t':TT} (h:PF X tests t) (i:∀ σ H Q,t' σ H Q->t σ H Q):PF X tests t':=λpins s σ H Q I hq=>h pins s σ H Q I (i σ H Q hq)
theorem eV {K:Frag}:PF X [] (tT K Ξ ck):=Qj P8 fun σ H Q aE=>by
 obtain⟨w,env,eH,S,eo,h⟩:=aE;subst eH;exact aI S h
theorem fR {K:Frag} (h:PT X c (tT K Ξ ft)):PF X [c] (tT K Ξ ft):=P9 h
theorem uG {wi:TI} {nt:Nat} {cap:List Nat} {g0 g1:TG} {tf:TT} {te:TE} (i_:∀v σ H Q,g1 v σ H Q->g0 v σ H Q) {σ:St} {H:Hp} {Q:VK} (wm:∀R R':It->Hp->Prop,(∀J H',R J H'->R' J H')->wi σ H R->wi σ H R') (h:kc wi nt cap g1 tf te σ H Q):kc wi nt cap g0 tf te σ H Q:=by
 refine wm _ _ (λJ H' hc=>?_) h;obtain⟨W,w0,step⟩:=hc;refine⟨W,w0,λi m acc H2 hw=>?_⟩
 rcases step i m acc H2 hw with q | ⟨q1,q2,N,q3,q4⟩
 ·exact .inl q
 ·exact .inr ⟨q1,q2,N,q3,λo x H3 ho y=>i_ _ _ _ _ (q4 o x H3 ho y)⟩
theorem xW {K:Frag} {it:Env->ae->Res (List D)} {σ:St} {H:Hp} (R R':It->Hp->Prop) (i:∀J H',R J H'->R' J H') (h:dq K Ξ it σ H R):dq K Ξ it σ H R':=by
 obtain⟨w,env,eH,S,eo,h⟩:=h;exact⟨w,env,eH,S,eo,h.mono λw1 ds _ _ h1 J hJ=>i J _ (h1 J hJ)⟩
noncomputable def aU (f:Env->ae->Res D):Env->ae->Res (List D):=λenv s=>ar (f env s) λd s=>match d with
 | .lst ds=>ok ds s
 | .tup ds=>ok ds s
 |_=>none
theorem Nb {K:Frag} {w:Wd} {a:Addr} {ds:List D} (h:DV K w (.lst ds) (.ref a)):oA K w (Az K a) ds:=λw' l' S' i=>by
 have h':=l' _ _ h;simp only[DV] at h';obtain⟨p,xs,e,hq,aw⟩:=h';cases e;refine⟨λd ed=>?_,λhl=>⟨xs,hq.sq,by rw[<- aw.length];exact hl⟩⟩;obtain⟨v,ev,dv⟩:=aw.get' i d ed;exact⟨⟨xs,v,hq.sq,ev⟩,λx H' ⟨e1,e2⟩=>⟨w',e1.symm,Le.refl _,S',rfl,by
  have q:=e2 xs hq.sq;rw[ev] at q;cases q;exact dv⟩⟩
theorem OB {K:Frag} {w:Wd} {a:Addr} {ds:List D} (h:DV K w (.tup ds) (.ref a)):oA K w (AA K a) ds:=λw' l' S' i=>by
 have h':=l' _ _ h;simp only[DV] at h';obtain⟨p,xs,e,hq,aw⟩:=h';cases e;refine⟨λd ed=>?_,λhl=>⟨xs,hq,by rw[<- aw.length];exact hl⟩⟩;obtain⟨v,ev,dv⟩:=aw.get' i d ed;exact⟨⟨xs,v,hq,ev⟩,λx H' ⟨e1,e2⟩=>⟨w',e1.symm,Le.refl _,S',rfl,by
  have q:=e2 xs hq;rw[ev] at q;cases q;exact dv⟩⟩
theorem df (hl:PE X a (tE X.K Ξ f)):PI X tg a (dq X.K Ξ (aU f)):=by
 have both:PI X tg a (fun σ H R=>He X.K (tE X.K Ξ f) σ H R\/HN X.K (tE X.K Ξ f) σ H R):=λpins s σ H R I h=>h.elim (N1 hl pins s σ H R I) (PL hl pins s σ H R I);refine pV both fun σ H R ⟨w,env,eH,S,eo,h⟩=>?_;subst eH;simp only[aU] at h
 cases hf:f env w.aG with
 |none=>rw[hf] at h;exact h.elim
 |some r =>
  obtain⟨r,s⟩:=r;rw[hf] at h
  cases r with
  |error x=>exact .inl ⟨w,env,rfl,S,eo,by rw[hf];exact h⟩
  |ok d =>
   rw[fe] at h
   cases d with
   |lst ds =>
    refine .inl ⟨w,env,rfl,S,eo,?_⟩;rw[hf];intro w1 l1 S1 e1 v dv;have oz:=dv;simp only[DV] at dv;obtain⟨p,xs,rfl,hq,aw⟩:=dv;exact⟨p,rfl,⟨xs,hq.sq⟩,h w1 l1 S1 e1 _ (Nb oz)⟩
   |tup ds =>
    refine .inr ⟨w,env,rfl,S,eo,?_⟩;rw[hf];intro w1 l1 S1 e1 v dv;have oz:=dv;simp only[DV] at dv;obtain⟨p,xs,rfl,hq,aw⟩:=dv;exact⟨p,rfl,⟨xs,hq⟩,h w1 l1 S1 e1 _ (OB oz)⟩
   |_=>exact h.elim
noncomputable def bV (lo:Int) (n:Nat):List D:=(WW n).map λ(i:Nat)=>D.int (lo+(i:Int))
theorem fP {lo:Int} {n i:Nat}:(bV lo n)[i]?=if i<n then some (.int (lo+i)) else none:=by
 unfold bV;rw[W6];by_cases h:i<n
 ·rw[XJ h,if_pos h];rfl
 ·rw[Xt (by simp;omega),if_neg h];rfl
theorem cX {lo:Int} {n:Nat}:(bV lo n).length=n:=by simp[bV]
theorem Fx {K:Frag} {w:Wd} {lo:Int} {n:Nat}:oA K w (sL lo n) (bV lo n):=λw' l' S' i=>by
 refine⟨λd ed=>?_,λhl=>by rw[cX] at hl;exact hl⟩;rw[fP] at ed;split at ed
 ·cases ed
  exact⟨by assumption,λx H' ⟨e1,e2⟩=>⟨w',e1.symm,Le.refl _,S',rfl,e2⟩⟩
 ·cases ed
noncomputable def jj (j:Int):Bool:=decide (-(2 ^ 62)<=j)&&decide (j<2 ^ 62)
noncomputable def bM (fa:Env->ae->Res (List D)):Env->ae->Res (List D):=λenv s=>ar (fa env s) λds s=>match ds with
 | [.int j]=>if jj j=true then ok (bV 0 j.toNat) s else none
 |_=>none
noncomputable def tK (fa:Env->ae->Res (List D)):Env->ae->Res (List D):=λenv s=>ar (fa env s) λds s=>match ds with
 | [.int i,.int j]=>if (jj i&&jj j)=true then ok (bV i (j-i).toNat) s else none
 |_=>none
theorem de {p:Pos} (hg:Gl X "range") (hm:X.mg "range"=none) (ha:PA X [a] (tA X.K Ξ fa)) (hs:Xb [a] X.env=[(false,eval a X.env)]:=by rfl):PI X tg (.Call (.Name "range" p) [a] [] pos) (dq X.K Ξ (bM fa)) :=
 pV (Lv hg hm ha hs) fun σ H R aE=>by
  obtain⟨w,env,eH,S,eo,h⟩:=aE;subst eH;refine⟨w,env,rfl,S,eo,(Out.ar h).mono λw1 ds l1 S1 h1 vs aw=>?_⟩;split at h1
  ·rename_i j
   split at h1
   ·rename_i hj
    simp only[jj,WK,decide_eq_true_eq] at hj;obtain⟨v,r,rfl,dv,dr⟩:=aw;have e1:v=.int j:=dv;have e2:r=[]:=dr;subst e1 e2;exact⟨j,rfl,hj.1,hj.2,aI S1 h1 _ Fx⟩
   ·exact h1.elim
  ·exact h1.elim
theorem GB {p:Pos} (hg:Gl X "range") (hm:X.mg "range"=none) (ha:PA X [a,b] (tA X.K Ξ fa)) (hs:Xb [a,b] X.env=[(false,eval a X.env),(false,eval b X.env)]:=by rfl) (cB:Xb [b] X.env=[(false,eval b X.env)]:=by rfl):PI X tg (.Call (.Name "range" p) [a,b] [] pos) (dq X.K Ξ (tK fa)) :=
 pV (Lw hg hm ha hs cB) fun σ H R aE=>by
  obtain⟨w,env,eH,S,eo,h⟩:=aE;subst eH;refine⟨w,env,rfl,S,eo,(Out.ar h).mono λw1 ds l1 S1 h1 vs aw=>?_⟩;split at h1
  ·rename_i i j
   split at h1
   ·rename_i hj
    simp only[jj,WK,decide_eq_true_eq] at hj;obtain⟨v,r,rfl,dv,v2,r2,rfl,jV,dr⟩:=aw;have e1:v=.int i:=dv;have e2:v2=.int j:=jV;have e3:r2=[]:=dr;subst e1 e2 e3;exact⟨i,j,rfl,⟨hj.1.1,hj.1.2,hj.2.1,hj.2.2⟩,aI S1 h1 _ Fx⟩
   ·exact h1.elim
  ·exact h1.elim
noncomputable def fC (xs ys:List D):List D:=(xs.zip ys).map λp=>.tup [p.1,p.2]
theorem EB {xs ys:List D} {i:Nat} {d:D} (h:(fC xs ys)[i]?=some d):∃x y,xs[i]?=some x/\ys[i]?=some y/\d=.tup [x,y]:=by
 unfold fC at h;rw[W6] at h
 cases hz:(xs.zip ys)[i]? with
 |none=>rw[hz] at h;cases h
 |some p =>
  rw[hz] at h;obtain⟨q1,q2⟩:=List.getElem?_zip_eq_some.mp hz;exact⟨p.1,p.2,q1,q2,(Option.some.inj h).symm⟩
theorem rb {xs ys:List D}:(fC xs ys).length=min xs.length ys.length:=by simp[fC]
theorem DY {K:Frag} {w':Wd} {d d2:D} {x y:V} {p:Addr} (S':aO K w') (hp:w'.H p=none) (h1:DV K w' d x) (h2:DV K w' d2 y) :
  ∃w2,w2.H=upd w'.H p (.tup [x,y])/\Le K w' w2/\aO K w2/\w2.aG=w'.aG/\DV K w2 (.tup [d,d2]) (.ref p) :=
 ⟨w'.grow p (.tup [x,y]),rfl,(Fw.grow hp).le,S'.grow hp,rfl,p,[x,y],rfl,aZ.of dP,(Fw.grow hp).le.all (au.two h1 h2)⟩
theorem EC {K:Frag} {w:Wd} {a b:Addr} {ds es:List D} (h:DV K w (.tup ds) (.ref a)) (g:DV K w (.tup es) (.ref b)):oA K w (Ac K a b) (fC ds es):=λw' l' S' i=>by
 have h':=l' _ _ h;have g':=l' _ _ g;simp only[DV] at h' g';obtain⟨p,xs,e,hq,aw⟩:=h';obtain⟨q,ys,e',gq,tL⟩:=g';cases e;cases e';refine⟨λd ed=>?_,λhl=>⟨xs,ys,hq,gq,?_⟩⟩
 ·obtain⟨x,y,e1,e2,rfl⟩:=EB ed
  obtain⟨v,ev,dv⟩:=aw.get' i x e1;obtain⟨u,eu,du⟩:=tL.get' i y e2;refine⟨⟨xs,ys,v,u,hq,gq,ev,eu⟩,λz H' ⟨r,x1,y1,hr,ez,eH,A4⟩=>?_⟩;obtain⟨q1,q2⟩:=A4 xs ys hq gq;rw[ev] at q1;rw[eu] at q2;cases q1;cases q2;subst ez eH;exact DY S' hr dv du
 ·rw[rb] at hl
  have:=aw.length;have:=tL.length;omega
noncomputable def nU (fa:Env->ae->Res (List D)):Env->ae->Res (List D):=λenv s=>ar (fa env s) λds s=>match ds with
 | [.tup xs,.tup ys]=>ok (fC xs ys) s
 |_=>none
theorem RP {p:Pos} {elts:List Expr} {kk:Nat} {r9:Pos} (hg:Gl X "zip") (hm:X.mg "zip"=none) (ha:PA X [a,b] (tA X.K Ξ fa)) (hs:Xb [a,b] X.env=[(false,eval a X.env),(false,eval b X.env)]:=by rfl) (cB:Xb [b] X.env=[(false,eval b X.env)]:=by rfl) :
  PI X (.Tuple elts kk r9) (.Call (.Name "zip" p) [a,b] [] pos) (dq X.K Ξ (nU fa)):=by
 refine pV (yt hg hm ha hs cB) fun σ H R aE=>?_;obtain⟨w,env,eH,S,eo,h⟩:=aE;subst eH;refine⟨w,env,rfl,S,eo,(Out.ar h).mono λw1 ds l1 S1 h vs aw=>?_⟩;split at h
 ·obtain⟨v,r,rfl,dv,v2,r2,rfl,jV,dr⟩:=aw
  have e3:r2=[]:=dr;subst e3;have q1:=dv;have q2:=jV;simp only[DV] at q1 q2;obtain⟨p,xs,rfl,hq,_⟩:=q1;obtain⟨q,ys,rfl,gq,_⟩:=q2;exact⟨p,q,xs,ys,rfl,hq,gq,aI S1 h _ (EC dv jV)⟩
 ·exact h.elim
noncomputable def ax (fn:List D->ae->Res D) (fa:Env->ae->Res (List D)):Env->ae->Res D:=λenv s=>ar (fa env s) λds s=>ne (fn ds s)
theorem aH {k:Nat} {fA:Addr} {fd:Xg} {IY:List Str} {fn:List D->ae->Res D} {x:Str} {p:Pos} (F:aW X.prog X.w X.K X.mg X.base bb k fA fd IY (bu X.K fn)) (hr:cI k X.A) (hg:Gl X x) (hm:X.mg x=some (.ref fA)) (hk:Y2 X.K (.ref fA)=true) (hb:Binds X.K fd IY [])
  (ha:PA X (e::es) (tA X.K Ξ fa)) (jS:(x==("__debug__":Str))=false:=by decide) (he:Xb (e::es) X.env=(false,eval e X.env)::Xb es X.env:=by rfl) (dj:(Z5 pos (Xb es X.env)).any (·.1)=false:=by rfl) :
  PE X (.Call (.Name x p) (e::es) [] pos) (tE X.K Ξ (ax fn fa)):=cD (N5 F hr hg hm hk hb .nil RE ha jS he dj) fun σ H Q aE=>by
 obtain⟨w,env,eH,S,eo,h⟩:=aE;subst eH;refine⟨w,env,rfl,S,eo,(Out.ar h).mono λw1 ds l1 S1 h1 vs aw=>?_⟩;show bu X.K fn (vs++[]) w1.H Q E0;rw[Yb];exact⟨w1,ds,rfl,S1,aw,h1.ne⟩
theorem au.env {K:Frag} {w:Wd} {ds:List D} {vs:List V} (h:au K w ds vs) (n:Nat):bT K w (ds.map some++WM (n-ds.length) none) (vs.map some++WM (n-vs.length) none):=by
 have hl:=h.length;refine⟨by simp[hl],λi d e=>?_⟩;by_cases hi:i<ds.length
 ·rw[W0 (by simpa using hi),W6] at e
  rw[W0 (by simp;omega),W6]
  cases hd:ds[i]? with
  |none=>rw[hd] at e;cases e
  |some d' =>
   rw[hd] at e;cases e;obtain⟨v,ev,dv⟩:=h.get' i d hd;exact⟨v,by rw[ev];rfl,dv⟩
 ·rw[Xr (by simpa using Zp hi),X5] at e
  split at e<;>cases e
end
theorem bJ {P:Xf} {w:World} {K:Frag} {mg:Str->Option Value} {base:Heap} {x qual:Str} {st:Stmt} {f:Addr} {fd:Xg} {N ps:List Str} {k:Nat} {b:Env->ae->Res Fl} (F:ot K x qual st f fd) (S:bx N ps (aX st))
  (hb:∀(bg:Value) (A:Xv) (outer:List PySem.Env) (s:WI) (H:Hp) (E:XK),cI k (A.deeper (PyProof.Rows.envOfC qual (aX st) s.heap.objs.size f bg))->dH (nQ bb P w K mg base N qual (aX st) f bg A outer s H E).sJ (lb st) (tS K bR b)) :
  aW P w K mg base bb (k+1) f fd ps (bu K (bc ps.length N.length b)):=by
 refine F.ok S (λvs H Q E h=>?_) (λbg A outer s H vs Q E hr h=>?_)
 ·obtain⟨w,ds,rfl,S,aw,h⟩:=h
  rw[<- aw.length];unfold bc at h;split at h
  ·assumption
  ·exact h.elim
 ·obtain⟨w,ds,rfl,S,aw,h⟩:=h
  refine⟨_,hb bg A outer s w.H E hr,?_⟩;unfold bc at h;split at h
  ·rename_i hl
   rw[<- hl] at h;refine⟨w,_,rfl,S,aw.env N.length,(Out.ar h).mono λw1 fl l1 S1 h1=>?_⟩
   cases fl with
   |nx env=>intro aT _;exact aI S1 h1 _ rfl
   |rt d=>have q:=aI S1 h1;exact q
   |bk env=>exact h1.elim
   |ct env=>exact h1.elim
  ·exact h.elim
end DI
namespace DI
open PySem L2
mutual
noncomputable def py:D->ZR
 | .aB=>.none
 | .bl b=>.bool b
 | .int i=>.int i
 | .str x=>.str x
 | .tup ds=>.tuple (cy ds)
 | .lst ds=>.list (cy ds)
 | .bH aq=>.dict (aq.map λp=>(ql p.1,PyData.int p.2))
 | .aj _=>.none
 | .ty _=>.none
 | .bQ _=>.none
noncomputable def cy:List D->List ZR
 | []=>[]
 |d::ds=>py d::cy ds
end
mutual
noncomputable def plain:D->Bool
 | .aB=>true
 | .bl _=>true
 | .int _=>true
 | .str _=>true
 | .tup ds=>lr ds
 | .lst ds=>lr ds
 | .bH _=>true
 | .aj _=>false
 | .ty _=>false
 | .bQ _=>false
noncomputable def lr:List D->Bool
 | []=>true
 |d::ds=>plain d&&lr ds
end
mutual
noncomputable def lay:D->Bool
 | .aB=>true
 | .bl _=>true
 | .int _=>true
 | .str x=>PyData.strOk x
 | .tup ds=>cK ds
 | .lst ds=>cK ds
 | .bH _=>false
 | .aj _=>false
 | .ty _=>false
 | .bQ _=>false
noncomputable def cK:List D->Bool
 | []=>true
 |d::ds=>lay d&&cK ds
end
mutual
noncomputable def dep:D->Nat
 | .tup ds=>cV ds+1
 | .lst ds=>cV ds+1
 | .bH aq=>1
 | .aB=>0
 | .bl _=>0
 | .int _=>0
 | .str _=>0
 | .aj _=>0
 | .ty _=>0
 | .bQ _=>0
noncomputable def cV:List D->Nat
 | []=>0
 |d::ds=>max (dep d) (cV ds)
end
mutual
noncomputable def beq:D->D->Bool
 | .aB,.aB=>true
 | .bl a,.bl b=>a==b
 | .bl a,.int j=>(if a then 1 else 0)==j
 | .int i,.bl b=>i==(if b then 1 else 0)
 | .int i,.int j=>i==j
 | .str x,.str y=>x==y
 | .tup xs,.tup ys=>iz xs ys
 | .lst xs,.lst ys=>iz xs ys
 |_,_=>false
noncomputable def iz:List D->List D->Bool
 | [],[]=>true
 |x::xs,y::ys=>beq x y&&iz xs ys
 |_,_=>false
end
mutual
theorem m9:∀(d:D),lay d=true->plain d=true
 | .aB,_=>rfl
 | .bl _,_=>rfl
 | .int _,_=>rfl
 | .str _,_=>rfl
 | .tup ds,h=>by simp only[lay,plain] at h |-;exact mZ ds h
 | .lst ds,h=>by simp only[lay,plain] at h |-;exact mZ ds h
 | .bH _,h=>by simp[lay] at h
 | .aj _,h=>by simp[lay] at h
 | .ty _,h=>by simp[lay] at h
 | .bQ _,h=>by simp[lay] at h
theorem mZ:∀(ds:List D),cK ds=true->lr ds=true
 | [],_=>rfl
 |d::ds,h=>by
  simp only[cK,lr,WK] at h |-;exact⟨m9 d h.1,mZ ds h.2⟩
end
mutual
theorem jC:∀(d:D),lay d=true->(py d).canLay0=true/\(py d).depth=dep d
 | .aB,_=>⟨rfl,by simp[py,dep,PyData.depth]⟩
 | .bl _,_=>⟨rfl,by simp[py,dep,PyData.depth]⟩
 | .int _,_=>⟨rfl,by simp[py,dep,PyData.depth]⟩
 | .str _,h=>⟨h,by simp[py,dep,PyData.depth]⟩
 | .tup ds,h=>by
  obtain⟨h1,h2⟩:=rf ds (by simpa [lay] using h);simp only[py,dep,PyData.depth,PyData.canLay0];exact⟨h1,by rw[h2]⟩
 | .lst ds,h=>by
  obtain⟨h1,h2⟩:=rf ds (by simpa [lay] using h);simp only[py,dep,PyData.depth,PyData.canLay0];exact⟨h1,by rw[h2]⟩
 | .bH _,h=>by simp[lay] at h
 | .aj _,h=>by simp[lay] at h
 | .ty _,h=>by simp[lay] at h
 | .bQ _,h=>by simp[lay] at h
theorem rf:∀(ds:List D),cK ds=true->PyData.canLayAll0 (cy ds)=true/\ZH (cy ds)=cV ds
 | [],_=>⟨rfl,rfl⟩
 |d::ds,h=>by
  simp only[cK,WK] at h;obtain⟨a1,a2⟩:=jC d h.1;obtain⟨b1,b2⟩:=rf ds h.2;simp only[cy,cV,PyData.canLayAll0,ZH,a1,b1,a2,b2,Yl,and_self]
end
mutual
theorem pW:∀(d e:D),lay d=true->lay e=true->Yh (py d) (py e)=beq d e
 | .tup xs,.tup ys,h,g=>by
  simp only[py,beq,Yh];exact xX xs ys (by simpa [lay] using h) (by simpa [lay] using g)
 | .lst xs,.lst ys,h,g=>by
  simp only[py,beq,Yh];exact xX xs ys (by simpa [lay] using h) (by simpa [lay] using g)
 | .aB,e,_,g=>by cases e<;>simp_all [py,beq,Yh,lay]
 | .bl _,e,_,g=>by cases e<;>simp_all [py,beq,Yh,lay]
 | .int _,e,_,g=>by cases e<;>simp_all [py,beq,Yh,lay]
 | .str _,e,_,g=>by cases e<;>simp_all [py,beq,Yh,lay]
 | .tup _,.aB,_,_=>by simp[py,beq,Yh]
 | .tup _,.bl _,_,_=>by simp[py,beq,Yh]
 | .tup _,.int _,_,_=>by simp[py,beq,Yh]
 | .tup _,.str _,_,_=>by simp[py,beq,Yh]
 | .tup _,.lst _,_,_=>by simp[py,beq,Yh]
 | .lst _,.aB,_,_=>by simp[py,beq,Yh]
 | .lst _,.bl _,_,_=>by simp[py,beq,Yh]
 | .lst _,.int _,_,_=>by simp[py,beq,Yh]
 | .lst _,.str _,_,_=>by simp[py,beq,Yh]
 | .lst _,.tup _,_,_=>by simp[py,beq,Yh]
 | .bH _,_,h,_=>by simp[lay] at h
 | .aj _,_,h,_=>by simp[lay] at h
 | .ty _,_,h,_=>by simp[lay] at h
 | .bQ _,_,h,_=>by simp[lay] at h
 |_,.bH _,_,h=>by simp[lay] at h
 |_,.aj _,_,h=>by simp[lay] at h
 |_,.ty _,_,h=>by simp[lay] at h
 |_,.bQ _,_,h=>by simp[lay] at h
theorem xX:∀(ds es:List D),cK ds=true->cK es=true->PyData.eqvAll (cy ds) (cy es)=iz ds es
 | [],[],_,_=>rfl
 | [],_::_,_,_=>rfl
 |_::_,[],_,_=>rfl
 |d::ds,e::es,h,g=>by
  simp only[cK,WK] at h g;simp only[cy,iz,PyData.eqvAll,pW d e h.1 g.1,xX ds es h.2 g.2]
end
mutual
theorem DV.py {K:Frag} {w:Wd}:∀{d:D} {v:V},DV K w d v->plain d=true->L2.DV K (λ_=>False) w.H (DI.py d) v
 | .aB,_,h,_=>h
 | .bl _,_,h,_=>h
 | .int _,_,h,_=>h
 | .str _,_,h,_=>h
 | .tup ds,v,h,p=>by
  simp only[DV] at h;obtain⟨a,xs,e,hq,r⟩:=h;simp only[DI.py,L2.DV];exact⟨a,xs,e,hq,au.py r (by simpa [plain] using p)⟩
 | .lst ds,v,h,p=>by
  simp only[DV] at h;obtain⟨a,xs,e,hq,r⟩:=h;simp only[DI.py,L2.DV];exact⟨a,xs,e,not_false,hq.2,au.py r (by simpa [plain] using p)⟩
 | .bH aq,v,h,p=>by
  simp only[DV] at h;obtain⟨a,e,hz,hq⟩:=h;simp only[DI.py,L2.DV];exact⟨a,_,e,not_false,hq,aq,rfl,rfl⟩
 | .aj _,_,_,p=>by simp[plain] at p
 | .ty _,_,_,p=>by simp[plain] at p
 | .bQ _,_,_,p=>by simp[plain] at p
theorem au.py {K:Frag} {w:Wd}:∀{ds:List D} {vs:List V},au K w ds vs->lr ds=true->L2.au K (λ_=>False) w.H (DI.cy ds) vs
 | [],_,h,_=>h
 |d::ds,vs,h,p=>by
  simp only[au] at h;obtain⟨v,r,e,h1,h2⟩:=h;simp only[lr,WK] at p;exact⟨v,r,e,DV.py h1 p.1,au.py h2 p.2⟩
end
noncomputable def res (d:D) (s:ae):D:=match d with
 | .aj k=>match s[k]? with
  |some (.lst ds)=>.lst ds
  |_=>d
 |_=>d
theorem DV.res {K:Frag} {w:Wd} {d:D} {v:V} (S:aO K w) (h:DV K w d v) (p:plain (DI.res d w.aG)=true):L2.DV K (λ_=>False) w.H (DI.py (DI.res d w.aG)) v:=by
 cases d with
 |aj k =>
  unfold DI.res at p |-;simp only at p |-
  split at p<;>rename_i hk
  ·rename_i ds
   obtain⟨a,e1,rfl⟩:=h;obtain⟨xs,q1,q2⟩:=S.cell k a _ e1 hk;simp only[DI.py,L2.DV];exact⟨a,xs,rfl,not_false,q1,q2.py (by simpa [plain] using p)⟩
  ·simp[plain] at p
 |_=>exact h.py p
noncomputable def oE:D->Bool
 | .str _=>true
 |_=>false
theorem Qk {d:D} (h:oE d=true):∃x,d=.str x:=by cases d<;>first|exact⟨_,rfl⟩|cases h
noncomputable def jE (x y:D):Option Bool:=if (oE x&&oE y)=true then some (beq x y) else if (lay x&&lay y&&decide (min (dep x) (dep y)<=100))=true then some (beq x y) else none
noncomputable def aS (x y:D) (s:ae):Res D:=match jE (res x s) (res y s) with
 |some b=>ok (.bl b) s
 |none=>none
noncomputable def fE (x y:D) (s:ae):Res D:=match jE (res x s) (res y s) with
 |some b=>ok (.bl (!b)) s
 |none=>none
theorem Fy {K:Frag} {w:Wd} {x y:D} {v u:V} {b:Bool} (S:aO K w) (hx:DV K w x v) (hy:DV K w y u) (h:jE (res x w.aG) (res y w.aG)=some b) :
  (zW v u=true/\decide (v=u)=b)\/∃(d e:ZR),L2.DV K (λ_=>False) w.H d v/\L2.DV K (λ_=>False) w.H e u/\d.canLay0=true/\e.canLay0=true/\min d.depth e.depth<=100/\Yh d e=b:=by
 have str:∀{d:D} {v:V},oE (res d w.aG)=true->DV K w d v->∃x,res d w.aG=.str x/\v=.str x:=λ{d v} hs hd=>by
  obtain⟨x,e⟩:=Qk hs
  cases d with
  |str y=>cases e;exact⟨x,rfl,hd⟩
  |aj k =>
   unfold res at e;simp only at e
   split at e<;>cases e
  |_=>cases e
 unfold jE at h;split at h
 ·rename_i hs
  rw[WK] at hs;obtain⟨a,ea,rfl⟩:=str hs.1 hx;obtain⟨c,ec,rfl⟩:=str hs.2 hy;rw[ea,ec] at h;exact .inl ⟨rfl,by rw[<- Option.some.inj h];exact yo⟩
 split at h
 ·rename_i hl
  right;simp only[WK,decide_eq_true_eq] at hl;obtain⟨⟨l1,l2⟩,l3⟩:=hl;obtain⟨p1,p2⟩:=jC _ l1;obtain⟨q1,q2⟩:=jC _ l2;exact⟨_,_,hx.res S (m9 _ l1),hy.res S (m9 _ l2),p1,q1,by rw[p2,q2];exact l3,by rw[pW _ _ l1 l2];exact Option.some.inj h⟩
 ·cases h
section
variable {X:Cx} {Ξ:Wd->bq->Prop}
theorem dX {k:Nat} (hr:cI k X.A):bE X (Yg .Eq) (rO X.K Ξ aS):=by
 rintro pins s σ H x y v u Q I rx ry ⟨w,dx,dy,rfl,S,hx,hy,h⟩;unfold aS at h;split at h
 ·rename_i b hb
  rcases Fy S hx hy hb with ⟨h1,h2⟩ | ⟨d,e,h1,h2,h3,h4,h5,h6⟩
  ·exact Rm pins s σ w.H x y v u Q I rx ry ⟨h1,by rw[h2];exact aI S h _ rfl⟩
  exact Qc hr pins s σ w.H x y v u Q I rx ry ⟨d,e,_,h1,h2,h3,h4,h5,by simp only[WH,if_false];rw[h6];exact aI S h _ rfl⟩
 ·exact h.elim
theorem mC {k:Nat} (hr:cI k X.A):bE X (Yg .NotEq) (rO X.K Ξ fE):=by
 rintro pins s σ H x y v u Q I rx ry ⟨w,dx,dy,rfl,S,hx,hy,h⟩;unfold fE at h;split at h
 ·rename_i b hb
  rcases Fy S hx hy hb with ⟨h1,h2⟩ | ⟨d,e,h1,h2,h3,h4,h5,h6⟩
  ·exact Rn pins s σ w.H x y v u Q I rx ry ⟨h1,by rw[h2];exact aI S h _ rfl⟩
  exact Qd hr pins s σ w.H x y v u Q I rx ry ⟨d,e,_,h1,h2,h3,h4,h5,by simp only[if_true];rw[h6];exact aI S h _ rfl⟩
 ·exact h.elim
end
end DI
namespace DI
open PySem L2
noncomputable def bI (r:Option D) (s:ae):Res D:=match r with
 |some d=>ok d s
 |none=>none
theorem fv {K:Frag} {Ξ:Wd->bq->Prop} {w:Wd} {r:Option D} {k:Wd->D->Prop} (h:Out K Ξ w (bI r w.aG) k):∃d,r=some d/\Out K Ξ w (ok d w.aG) k:=by
 unfold bI at h;split at h
 ·exact⟨_,rfl,h⟩
 ·exact h.elim
noncomputable def nV (xs ys:List D):Bool:=decide (xs.length+ys.length<=WX)
noncomputable def nW:D->D->Option D
 | .int i,.int j=>some (.int (i+j))
 | .tup xs,.tup ys=>if nV xs ys=true then some (.tup (xs++ys)) else none
 | .lst xs,.lst ys=>if nV xs ys=true then some (.lst (xs++ys)) else none
 | .str x,.str y=>if decide (x.length+y.length<=WX)=true then some (.str (x++y)) else none
 |_,_=>none
noncomputable def cj (x y:D) (s:ae):Res D:=bI (nW (res x s) (res y s)) s
noncomputable def HX:D->D->Option D
 | .int i,.int j=>some (.int (i-j))
 |_,_=>none
noncomputable def nH (x y:D) (s:ae):Res D:=bI (HX x y) s
noncomputable def rR (i j:Int):Bool:=(decide (-(2 ^ 64)<i)&&decide (i<2 ^ 64))||(decide (-(2 ^ 64)<j)&&decide (j<2 ^ 64))
noncomputable def Ak:D->D->Option D
 | .int i,.int j=>if rR i j=true then some (.int (i*j)) else none
 | .tup xs,.int k=>if (!xs.isEmpty&&decide (1<=k)&&decide (xs.length*k.toNat<=WX))=true then some (.tup (WM k.toNat xs).flatten) else none
 | .lst xs,.int k=>if (decide (-(2 ^ 63)<=k)&&decide (k<2 ^ 63)&&decide (xs.length*k.toNat<=WX))=true then some (.lst (WM k.toNat xs).flatten) else none
 |_,_=>none
noncomputable def iQ (x y:D) (s:ae):Res D:=bI (Ak x y) s
noncomputable def Al:D->D->Option D
 | .int i,.int j=>if decide (0<j)=true then some (.int (i % j)) else none
 |_,_=>none
noncomputable def lF (x y:D) (s:ae):Res D:=bI (Al x y) s
noncomputable def Am:D->D->Option D
 | .int i,.int j=>if (decide (0<j)&&decide (j<1073741824))=true then some (.int (i / j)) else none
 |_,_=>none
noncomputable def rS (x y:D) (s:ae):Res D:=bI (Am x y) s
noncomputable def An:D->D->Option D
 | .int i,.int j=>if (decide (0<=j)&&decide (j<=1000000)&&decide (i.natAbs<2 ^ 64))=true then some (.int (i ^ j.toNat)) else none
 |_,_=>none
noncomputable def vW (x y:D) (s:ae):Res D:=bI (An x y) s
noncomputable def HY:D->Option D
 | .int i=>some (.int (-i))
 |_=>none
noncomputable def lG (x:D) (s:ae):Res D:=bI (HY x) s
theorem au.flat {K:Frag} {w:Wd} {ds:List D} {vs:List V} (h:au K w ds vs):∀n:Nat,au K w (WM n ds).flatten (WM n vs).flatten
 |0=>rfl
 |n+1=>by
  rw[Yz,Yz,Y9,Y9];exact au.append h (au.flat h n)
theorem gX {K:Frag} {w:Wd} {d:D} {v:V} {ds:List D} (S:aO K w) (h:DV K w d v) (e:res d w.aG=.lst ds):∃a xs,v=.ref a/\w.H a=some (.lst xs)/\au K w ds xs:=by
 unfold res at e;split at e
 ·rename_i k
  split at e
  ·rename_i es hk
   cases e;obtain⟨a,e1,rfl⟩:=h;obtain⟨xs,q1,q2⟩:=S.cell k a _ e1 hk;exact⟨a,xs,rfl,q1,q2⟩
  ·cases e
 ·subst e
  simp only[DV] at h;obtain⟨a,xs,e,hq,r⟩:=h;exact⟨a,xs,e,hq.2,r⟩
theorem ei {d e:D} {s:ae} (h:res d s=e) (hl:∀ds,e≠.lst ds):d=e:=by
 unfold res at h;split at h
 ·split at h
  ·exact absurd h.symm (hl _)
  ·exact h
 ·exact h
section
variable {X:Cx} {Ξ:Wd->bq->Prop}
theorem lQ {K:Frag} {w:Wd} {ds:List D} {vs:List V} {Q:VK} (S:aO K w) (aw:au K w ds vs) (h:Out K Ξ w (ok (D.tup ds) w.aG) λw' d=>∀v,DV K w' d v->Q v w'.H):kj K w.H vs Q:=λa H' e hq =>
 h (w.same H') (Fw.same e).le (S.same e) rfl (.ref a) ⟨a,vs,rfl,hq,(Fw.same e).le.all aw⟩
theorem wA {K:Frag} {w:Wd} {ds:List D} {vs:List V} {Q:VK} (S:aO K w) (aw:au K w ds vs) (h:Out K Ξ w (ok (D.lst ds) w.aG) λw' d=>∀v,DV K w' d v->Q v w'.H):∀p,w.H p=none->Q (.ref p) (upd w.H p (.lst vs)):=λp hp =>
 h (w.grow p (.lst vs)) (Fw.grow hp).le (S.grow hp) rfl (.ref p) ⟨p,vs,rfl,⟨(show ¬ w.Z p from nv S hp),dP⟩,(Fw.grow hp).le.all aw⟩
theorem Ql {K:Frag} {w:Wd} {ds:List D} {vs:List V} {Q:VK} (S:aO K w) (aw:au K w ds vs) (h:Out K Ξ w (ok (D.tup ds) w.aG) λw' d=>∀v,DV K w' d v->Q v w'.H):∀p,w.H p=none->Q (.ref p) (upd w.H p (.tup vs)):=λp hp =>
 h (w.grow p (.tup vs)) (Fw.grow hp).le (S.grow hp) rfl (.ref p) ⟨p,vs,rfl,aZ.of dP,(Fw.grow hp).le.all aw⟩
theorem fS:bE X (YB .Add) (rO X.K Ξ cj):=by
 rintro pins s σ H x y v u Q I rx ry ⟨w,dx,dy,rfl,S,hx,hy,h⟩;obtain⟨d,e,h⟩:=fv h;unfold nW at e;split at e
 ·rename_i i j e1 e2
  rw[ei e1 (by intro _ z;cases z)] at hx;rw[ei e2 (by intro _ z;cases z)] at hy;cases e;cases hx;cases hy;exact PN pins s σ w.H _ _ v u Q I rx ry ⟨i,j,rfl,rfl,aI S h _ rfl⟩
 ·rename_i xs ys e1 e2
  rw[ei e1 (by intro _ z;cases z)] at hx;rw[ei e2 (by intro _ z;cases z)] at hy;split at e
  ·rename_i hl
   cases e;simp only[DV] at hx hy;obtain⟨a,as,rfl,ha,i9⟩:=hx;obtain⟨b,bs,rfl,hb,tM⟩:=hy;exact Og pins s σ w.H _ _ v u Q I rx ry ⟨a,b,as,bs,rfl,rfl,ha,hb,by rw[<- i9.length,<- tM.length];exact of_decide_eq_true hl,lQ S (i9.append tM) h⟩
  ·cases e
 ·rename_i xs ys e1 e2
  split at e
  ·rename_i hl
   cases e;obtain⟨a,as,rfl,ha,i9⟩:=gX S hx e1;obtain⟨b,bs,rfl,hb,tM⟩:=gX S hy e2;exact P6 pins s σ w.H _ _ v u Q I rx ry ⟨a,b,as,bs,rfl,rfl,ha,hb,by rw[<- i9.length,<- tM.length];exact of_decide_eq_true hl,wA S (i9.append tM) h⟩
  ·cases e
 ·rename_i i j e1 e2
  rw[ei e1 (by intro _ z;cases z)] at hx;rw[ei e2 (by intro _ z;cases z)] at hy;split at e
  ·rename_i hl
   cases e;cases hx;cases hy;exact KQ pins s σ w.H _ _ v u Q I rx ry ⟨i,j,rfl,rfl,of_decide_eq_true hl,aI S h _ rfl⟩
  ·cases e
 ·cases e
theorem vX:bE X (YB .Sub) (rO X.K Ξ nH):=by
 rintro pins s σ H x y v u Q I rx ry ⟨w,dx,dy,rfl,S,hx,hy,h⟩;obtain⟨d,e,h⟩:=fv h;unfold HX at e;split at e
 ·rename_i i j
  cases e;cases hx;cases hy;exact PQ pins s σ w.H _ _ v u Q I rx ry ⟨i,j,rfl,rfl,aI S h _ rfl⟩
 ·cases e
theorem rT:bE X (YB .Mult) (rO X.K Ξ iQ):=by
 rintro pins s σ H x y v u Q I rx ry ⟨w,dx,dy,rfl,S,hx,hy,h⟩;obtain⟨d,e,h⟩:=fv h;unfold Ak at e;split at e
 ·rename_i i j
  split at e
  ·rename_i hm
   cases e;cases hx;cases hy;refine PR pins s σ w.H _ _ v u Q I rx ry ⟨i,j,rfl,rfl,?_,aI S h _ rfl⟩;unfold wj;simpa [rR] using hm
  ·cases e
 ·rename_i xs k
  split at e
  ·rename_i hm
   cases e;cases hy;simp only[WK,decide_eq_true_eq] at hm;simp only[DV] at hx;obtain⟨a,as,rfl,ha,i9⟩:=hx;have hl:=i9.length;refine Ou pins s σ w.H _ _ v u Q I rx ry ⟨a,as,k,rfl,rfl,ha,?_,hm.1.2,by rw[<- hl];exact hm.2,lQ S (i9.flat _) h⟩;intro z;subst z
   cases xs with
   |nil=>simp at hm
   |cons _ _=>cases hl
  ·cases e
 ·rename_i xs k
  split at e
  ·rename_i hm
   cases e;cases hy;simp only[WK,decide_eq_true_eq] at hm;simp only[DV] at hx;obtain⟨a,as,rfl,ha,i9⟩:=hx;exact P7 pins s σ w.H _ _ v u Q I rx ry ⟨a,k,as,rfl,rfl,ha.2,hm.1.1,hm.1.2,by rw[<- i9.length];exact hm.2,wA S (i9.flat _) h⟩
  ·cases e
 ·cases e
theorem qd:bE X (YB .Mod) (rO X.K Ξ lF):=by
 rintro pins s σ H x y v u Q I rx ry ⟨w,dx,dy,rfl,S,hx,hy,h⟩;obtain⟨d,e,h⟩:=fv h;unfold Al at e;split at e
 ·rename_i i j
  split at e
  ·rename_i hm
   cases e;cases hx;cases hy;exact PU pins s σ w.H _ _ v u Q I rx ry ⟨i,j,rfl,rfl,of_decide_eq_true hm,aI S h _ rfl⟩
  ·cases e
 ·cases e
theorem Hj:bE X (YB .FloorDiv) (rO X.K Ξ rS):=by
 rintro pins s σ H x y v u Q I rx ry ⟨w,dx,dy,rfl,S,hx,hy,h⟩;obtain⟨d,e,h⟩:=fv h;unfold Am at e;split at e
 ·rename_i i j
  split at e
  ·rename_i hm
   simp only[WK,decide_eq_true_eq] at hm;cases e;cases hx;cases hy;exact N2 pins s σ w.H _ _ v u Q I rx ry ⟨i,j,rfl,rfl,hm,aI S h _ rfl⟩
  ·cases e
 ·cases e
theorem RQ:bE X (YB .Pow) (rO X.K Ξ vW):=by
 rintro pins s σ H x y v u Q I rx ry ⟨w,dx,dy,rfl,S,hx,hy,h⟩;obtain⟨d,e,h⟩:=fv h;unfold An at e;split at e
 ·rename_i i j
  split at e
  ·rename_i hm
   simp only[WK,decide_eq_true_eq] at hm;cases e;cases hx;cases hy;exact PV pins s σ w.H _ _ v u Q I rx ry ⟨i,j,rfl,rfl,⟨hm.1.1,hm.1.2,hm.2⟩,aI S h _ rfl⟩
  ·cases e
 ·cases e
theorem vY:sP X (unaryOp .USub) (rU X.K Ξ lG):=by
 rintro pins s σ H x v Q I rx ⟨w,dx,rfl,S,hx,h⟩;obtain⟨d,e,h⟩:=fv h;unfold HY at e;split at e
 ·rename_i i
  cases e;cases hx;exact Gh pins s σ w.H _ v Q I rx ⟨i,rfl,aI S h _ rfl⟩
 ·cases e
noncomputable def qp (p:Int->Int->Bool):D->D->Option D
 | .int i,.int j=>some (.bl (p i j))
 |_,_=>none
noncomputable def sf (x y:D) (s:ae):Res D:=bI (qp (λi j=>decide (i<=j)) x y) s
noncomputable def sg (x y:D) (s:ae):Res D:=bI (qp (λi j=>decide (j<i)) x y) s
noncomputable def wB (x y:D) (s:ae):Res D:=bI (qp (λi j=>decide (j<=i)) x y) s
theorem H0:bE X (Yg .LtE) (rO X.K Ξ sf):=by
 rintro pins s σ H x y v u Q I rx ry ⟨w,dx,dy,rfl,S,hx,hy,h⟩;obtain⟨d,e,h⟩:=fv h;unfold qp at e;split at e
 ·rename_i i j
  cases e;cases hx;cases hy;exact Ro pins s σ w.H _ _ v u Q I rx ry ⟨i,j,rfl,rfl,aI S h _ rfl⟩
 ·cases e
theorem H9:bE X (Yg .Gt) (rO X.K Ξ sg):=by
 rintro pins s σ H x y v u Q I rx ry ⟨w,dx,dy,rfl,S,hx,hy,h⟩;obtain⟨d,e,h⟩:=fv h;unfold qp at e;split at e
 ·rename_i i j
  cases e;cases hx;cases hy;exact Rp pins s σ w.H _ _ v u Q I rx ry ⟨i,j,rfl,rfl,aI S h _ rfl⟩
 ·cases e
theorem Tq:bE X (Yg .GtE) (rO X.K Ξ wB):=by
 rintro pins s σ H x y v u Q I rx ry ⟨w,dx,dy,rfl,S,hx,hy,h⟩;obtain⟨d,e,h⟩:=fv h;unfold qp at e;split at e
 ·rename_i i j
  cases e;cases hx;cases hy;exact Rq pins s σ w.H _ _ v u Q I rx ry ⟨i,j,rfl,rfl,aI S h _ rfl⟩
 ·cases e
noncomputable def gU (d i:D) (s:ae):Option D:=match res d s,i with
 | .lst ds,.int i=>dJ ds i
 | .tup ds,.int i=>dJ ds i
 | .bQ ns,.int i=>(dJ ns i).map D.int
 | .str x,.int i=>if decide (x.length<=WX)=true then (dJ x.cps.toList i).map λc=>.str ⟨#[c]⟩ else none
 |_,_=>none
noncomputable def ao (x y:D) (s:ae):Res D:=bI (gU x y s) s
theorem au.at {K:Frag} {w:Wd} {ds:List D} {vs:List V} {i:Int} {d:D} (h:au K w ds vs) (e:dJ ds i=some d):∃v,dJ vs i=some v/\DV K w d v:=by
 unfold dJ at e |-;rw[h.length] at e
 cases hi:fm vs.length i with
 |none=>rw[hi] at e;cases e
 |some j =>
  rw[hi] at e;exact h.get' j d e
theorem Tr:sU X (rO X.K Ξ ao):=by
 rintro value slice pins s σ H x y v u Q I rx ry ⟨w,dx,dy,rfl,S,hx,hy,h⟩ hs;obtain⟨d,e,h2⟩:=fv h;clear h;unfold gU at e;split at e
 ·rename_i ds i e1
  cases hy;obtain⟨a,xs,rfl,ha,aw⟩:=gX S hx e1;obtain⟨z,ez,dz⟩:=aw.at e;exact Fj value slice pins s σ w.H _ _ v u Q I rx ry ⟨a,xs,i,z,rfl,rfl,ba.of ha,ez,aI S h2 _ dz⟩ hs
 ·rename_i ds i e1
  cases hy;rw[ei e1 (by intro _ z;cases z)] at hx;simp only[DV] at hx;obtain⟨a,xs,rfl,ha,aw⟩:=hx;obtain⟨z,ez,dz⟩:=aw.at e;exact P1 value slice pins s σ w.H _ _ v u Q I rx ry ⟨a,xs,i,z,rfl,rfl,ha,ez,aI S h2 _ dz⟩ hs
 ·rename_i ns i e1
  cases hy;rw[ei e1 (by intro _ z;cases z)] at hx;simp only[DV] at hx;obtain⟨a,rfl,ha⟩:=hx
  cases hn:dJ ns i with
  |none=>rw[hn] at e;cases e
  |some n =>
   rw[hn] at e;cases e;refine Fj value slice pins s σ w.H _ _ v u Q I rx ry ⟨a,ns.map V.int,i,.int n,rfl,rfl,ha.sq,?_,aI S h2 _ rfl⟩ hs;unfold dJ at hn |-;rw[WJ]
   cases hj:fm ns.length i with
   |none=>rw[hj] at hn;cases hn
   |some j =>
    rw[hj] at hn;show (ns.map V.int)[j]?=some (.int n);rw[W6,show ns[j]?=some n from hn];rfl
 ·rename_i z i e1
  cases hy;rw[ei e1 (by intro _ z;cases z)] at hx;cases hx;split at e
  ·rename_i hl
   cases hc:dJ z.cps.toList i with
   |none=>rw[hc] at e;cases e
   |some c =>
    rw[hc] at e;cases e;exact P2 value slice pins s σ w.H _ _ v u Q I rx ry ⟨z,i,c,rfl,rfl,of_decide_eq_true hl,hc,aI S h2 _ rfl⟩ hs
  ·cases e
 ·cases e
theorem aQ {a b:Expr} {pos:Pos} {f g:Env->ae->Res D} (ha:PE X a (tE X.K Ξ f)) (hb:PE X b (tE X.K Ξ g)) (hs:Fi b:=by intro _ _;rfl):PE X (.Subscript a b pos) (tE X.K Ξ (e2 ao f g)):=cD (Rz Tr ha hb hs) vi
noncomputable def si (d:D) (s:ae):Option D:=match res d s with
 | .lst ds=>some (.int ds.length)
 | .tup ds=>some (.int ds.length)
 | .bQ ns=>some (.int ns.length)
 | .str x=>if decide (x.length<=WX)=true then some (.int x.length) else none
 |_=>none
noncomputable def dY (ds:List D) (s:ae):Res D:=match ds with
 | [d]=>bI (si d s) s
 |_=>none
theorem ny {K:Frag} {w:Wd} {d:D} {vs:List V} (h:au K w [d] vs):∃v,vs=[v]/\DV K w d v:=by
 obtain⟨v,r,rfl,dv,dr⟩:=h;have e:r=[]:=dr;subst e;exact⟨v,rfl,dv⟩
theorem nA {K:Frag} {w:Wd} {d e:D} {vs:List V} (h:au K w [d,e] vs):∃v u,vs=[v,u]/\DV K w d v/\DV K w e u:=by
 obtain⟨v,r,rfl,dv,h⟩:=h;obtain⟨u,rfl,du⟩:=ny h;exact⟨v,u,rfl,dv,du⟩
theorem lH:cz X (.builtin "len") (rC X.K Ξ dY):=by
 rintro pins s σ H xs us Q I r ⟨w,ds,rfl,S,aw,h⟩;unfold dY at h;split at h
 ·obtain⟨v,rfl,dv⟩:=ny aw
  obtain⟨d,e,h⟩:=fv h;unfold si at e;split at e
  ·rename_i ys e1
   cases e;obtain⟨a,xs,rfl,ha,aw⟩:=gX S dv e1;exact xq pins s σ w.H _ us Q I r ⟨a,xs,rfl,.inl (ba.of ha),by rw[<- aw.length];exact aI S h _ rfl⟩
  ·rename_i ys e1
   cases e;rw[ei e1 (by intro _ z;cases z)] at dv;simp only[DV] at dv;obtain⟨a,xs,rfl,ha,aw⟩:=dv;exact xq pins s σ w.H _ us Q I r ⟨a,xs,rfl,.inr ha,by rw[<- aw.length];exact aI S h _ rfl⟩
  ·rename_i ns e1
   cases e;rw[ei e1 (by intro _ z;cases z)] at dv;simp only[DV] at dv;obtain⟨a,rfl,ha⟩:=dv;exact xq pins s σ w.H _ us Q I r ⟨a,ns.map V.int,rfl,.inl ha.sq,by rw[WJ];exact aI S h _ rfl⟩
  ·rename_i z e1
   rw[ei e1 (by intro _ z;cases z)] at dv;cases dv;split at e
   ·rename_i hl
    cases e;exact J0 pins s σ w.H _ us Q I r ⟨z,rfl,of_decide_eq_true hl,aI S h _ rfl⟩
   ·cases e
  ·cases e
 ·exact h.elim
noncomputable def ig:List D->Option (List Bool)
 | []=>some []
 | .bl b::ds=>(ig ds).map λr=>b::r
 |_::_=>none
theorem yU:∀{ds:List D} {bs:List Bool},ig ds=some bs->ds=bs.map D.bl
 | [],bs,h=>by cases h;rfl
 | .bl b::ds,bs,h=>by
  simp only[ig] at h
  cases hd:ig ds with
  |none=>rw[hd] at h;cases h
  |some r=>rw[hd] at h;cases h;rw[yU hd];rfl
 | .aB::_,_,h=>by cases h
 | .int _::_,_,h=>by cases h
 | .str _::_,_,h=>by cases h
 | .tup _::_,_,h=>by cases h
 | .lst _::_,_,h=>by cases h
 | .bH _::_,_,h=>by cases h
 | .aj _::_,_,h=>by cases h
 | .ty _::_,_,h=>by cases h
 | .bQ _::_,_,h=>by cases h
theorem OC {bs:List Bool}:ig (bs.map D.bl)=some bs:=by
 induction bs with
 |nil=>rfl
 |cons b bs ih=>simp only[W4,ig,ih,YC]
noncomputable def mE (ds:List D) (s:ae):Res D:=match ds with
 | [d]=>match res d s with
  | .lst es=>bI ((ig es).map λbs=>.bl (bs.all id)) s
  |_=>none
 |_=>none
noncomputable def qq (ds:List D) (s:ae):Res D:=match ds with
 | [d]=>match res d s with
  | .lst es=>bI ((ig es).map λbs=>.bl (bs.any id)) s
  |_=>none
 |_=>none
theorem vZ (hc:X.calm=true):cz X (.builtin "all") (rC X.K Ξ mE):=by
 rintro pins s σ H xs us Q I r ⟨w,ds,rfl,S,aw,h⟩;unfold mE at h;split at h
 ·obtain⟨v,rfl,dv⟩:=ny aw
  split at h
  ·rename_i es e1
   obtain⟨d,e,h⟩:=fv h
   cases hb:ig es with
   |none=>rw[hb] at e;cases e
   |some bs =>
    rw[hb] at e;cases e;obtain⟨a,xs,rfl,ha,aw⟩:=gX S dv e1;rw[yU hb] at aw;rw[aw.yy] at ha;exact MS hc pins s σ w.H _ us Q I r ⟨a,bs,rfl,ba.of ha,aI S h _ rfl⟩
  ·exact h.elim
 ·exact h.elim
theorem Hk (hc:X.calm=true):cz X (.builtin "any") (rC X.K Ξ qq):=by
 rintro pins s σ H xs us Q I r ⟨w,ds,rfl,S,aw,h⟩;unfold qq at h;split at h
 ·obtain⟨v,rfl,dv⟩:=ny aw
  split at h
  ·rename_i es e1
   obtain⟨d,e,h⟩:=fv h
   cases hb:ig es with
   |none=>rw[hb] at e;cases e
   |some bs =>
    rw[hb] at e;cases e;obtain⟨a,xs,rfl,ha,aw⟩:=gX S dv e1;rw[yU hb] at aw;rw[aw.yy] at ha;exact MT hc pins s σ w.H _ us Q I r ⟨a,bs,rfl,ba.of ha,aI S h _ rfl⟩
  ·exact h.elim
 ·exact h.elim
noncomputable def nI (ds:List D) (s:ae):Res D:=match ds with
 | [.int i,.int j]=>ok (.int (if j > i then j else i)) s
 |_=>none
noncomputable def rV (ds:List D) (s:ae):Res D:=match ds with
 | [.int i,.int j]=>ok (.int (if j<i then j else i)) s
 |_=>none
theorem GC (hc:X.calm=true):cz X (.builtin "max") (rC X.K Ξ nI):=by
 rintro pins s σ H xs us Q I r ⟨w,ds,rfl,S,aw,h⟩;unfold nI at h;split at h
 ·rename_i i j
  obtain⟨v,u,rfl,dv,du⟩:=nA aw;cases dv;cases du;exact Lx hc pins s σ w.H _ us Q I r ⟨i,j,rfl,aI S h _ rfl⟩
 ·exact h.elim
theorem Qm (hc:X.calm=true):cz X (.builtin "min") (rC X.K Ξ rV):=by
 rintro pins s σ H xs us Q I r ⟨w,ds,rfl,S,aw,h⟩;unfold rV at h;split at h
 ·rename_i i j
  obtain⟨v,u,rfl,dv,du⟩:=nA aw;cases dv;cases du;exact Ly hc pins s σ w.H _ us Q I r ⟨i,j,rfl,aI S h _ rfl⟩
 ·exact h.elim
noncomputable def dB (ds:List D) (s:ae):Res D:=match ds with
 | [d]=>match res d s with
  | .lst es=>ok (.tup es) s
  | .tup es=>ok (.tup es) s
  |_=>none
 |_=>none
theorem j8:cz X (.type "tuple") (rC X.K Ξ dB):=by
 rintro pins s σ H xs us Q I r ⟨w,ds,rfl,S,aw,h⟩;unfold dB at h;split at h
 ·obtain⟨v,rfl,dv⟩:=ny aw
  split at h
  ·rename_i es e1
   obtain⟨a,xs,rfl,ha,aw⟩:=gX S dv e1;exact Ct pins s σ w.H _ us Q I r ⟨a,xs,rfl,.inl ⟨ba.of ha,Ql S aw h⟩⟩
  ·rename_i es e1
   rw[ei e1 (by intro _ z;cases z)] at dv;have oz:=dv;simp only[DV] at dv;obtain⟨a,xs,rfl,ha,aw⟩:=dv;exact Ct pins s σ w.H _ us Q I r ⟨a,xs,rfl,.inr ⟨ha,aI S h _ oz⟩⟩
  ·exact h.elim
 ·exact h.elim
end
end DI
namespace DI
open PySem L2
noncomputable def qe (n:Nat) (x:D) (ds:List D):Bool:=lay x&&cK ds&&decide (dep x<=n)
noncomputable def inD (x:D) (ds:List D):Option Bool:=if qe 100 x ds=true then some (ds.any λy=>beq y x) else none
noncomputable def kh (d:D) (s:ae):Option (List D):=match res d s with
 | .lst ds=>some ds
 | .tup ds=>some ds
 |_=>none
noncomputable def bU (x y:D) (s:ae):Res D:=match kh y s with
 |some ds=>bI ((inD x ds).map D.bl) s
 |none=>none
noncomputable def cq (x y:D) (s:ae):Res D:=match kh y s with
 |some ds=>bI ((inD x ds).map λb=>D.bl (!b)) s
 |none=>none
theorem ED {K:Frag} {w:Wd} {d:D} {v:V} {ds:List D} (S:aO K w) (h:DV K w d v) (e:kh d w.aG=some ds):∃a xs,v=.ref a/\(w.H a=some (.lst xs)\/aZ K w.H a xs)/\au K w ds xs:=by
 unfold kh at e;split at e
 ·rename_i es e1
  cases e;obtain⟨a,xs,rfl,ha,aw⟩:=gX S h e1;exact⟨a,xs,rfl,.inl ha,aw⟩
 ·rename_i es e1
  cases e;rw[ei e1 (by intro _ z;cases z)] at h;simp only[DV] at h;obtain⟨a,xs,rfl,ha,aw⟩:=h;exact⟨a,xs,rfl,.inr ha,aw⟩
 ·cases e
section
variable {X:Cx} {Ξ:Wd->bq->Prop} {pins:List (Addr×Obj)} {σ:St} {s:WI}
theorem yV {x:D} (lx:lay x=true):∀{ds:List D},cK ds=true->((cy ds).any λy=>Yh y (py x))=ds.any λy=>beq y x
 | [],_=>rfl
 |d::ds,h=>by
  simp only[cK,WK] at h;simp only[cy,List.any_cons,pW d x h.1 lx,yV lx h.2]
theorem GD {x:D} {ds:List D} {b:Bool} (h:inD x ds=some b):lay x=true/\cK ds=true/\dep x<=100/\(ds.any λy=>beq y x)=b:=by
 unfold inD qe at h;split at h
 ·rename_i hl
  simp only[WK,decide_eq_true_eq] at hl;exact⟨hl.1.1,hl.1.2,hl.2,Option.some.inj h⟩
 ·cases h
theorem fV {k:Nat} (hr:cI k X.A):bE X (Yg .In) (rO X.K Ξ bU):=by
 rintro pins s σ H x y v u Q I rx ry ⟨w,dx,dy,rfl,S,hx,hy,h⟩;unfold bU at h;split at h
 ·rename_i ds hd
  obtain⟨d,e,h⟩:=fv h
  cases hb:inD dx ds with
  |none=>rw[hb] at e;cases e
  |some b =>
   rw[hb] at e;cases e;obtain⟨l1,l2,l3,l4⟩:=GD hb;obtain⟨p1,p2⟩:=jC _ l1;obtain⟨q1,q2⟩:=rf _ l2;obtain⟨bs,rd⟩:=(hx.py (m9 _ l1)).reads I rx;have hu:X.A.units+1+min (ZH (cy ds)) (py dx).depth<cLine:=by
    have:=hr.un;rw[p2];omega
   obtain⟨a,xs,rfl,ha,aw⟩:=ED S hy hd;have fin:EP X pins σ Q (.bool ((cy ds).any λy=>Yh y (py dx))) s:=⟨.bl b,w.H,I,by rw[yV l1 l2,l4];rfl,aI S h _ rfl⟩
   rcases ha with ha|ha
   ·obtain⟨cs,rc⟩:=(show L2.DV X.K (λ_=>False) w.H (.list (cy ds)) (.ref a) by simp only[L2.DV];exact⟨a,xs,rfl,not_false,ha,aw.py (mZ _ l2)⟩).reads I ry
    exact SeqAt.in_list_reads rc rd q1 p1 hu fin
   ·obtain⟨cs,rc⟩:=(show L2.DV X.K (λ_=>False) w.H (.tuple (cy ds)) (.ref a) by simp only[L2.DV];exact⟨a,xs,rfl,ha,aw.py (mZ _ l2)⟩).reads I ry
    exact SeqAt.in_tuple_reads rc rd q1 p1 hu fin
 ·exact h.elim
theorem j9 {k:Nat} (hr:cI k X.A):bE X (Yg .NotIn) (rO X.K Ξ cq):=by
 rintro pins s σ H x y v u Q I rx ry ⟨w,dx,dy,rfl,S,hx,hy,h⟩;unfold cq at h;split at h
 ·rename_i ds hd
  obtain⟨d,e,h⟩:=fv h
  cases hb:inD dx ds with
  |none=>rw[hb] at e;cases e
  |some b =>
   rw[hb] at e;cases e;obtain⟨l1,l2,l3,l4⟩:=GD hb;obtain⟨p1,p2⟩:=jC _ l1;obtain⟨q1,q2⟩:=rf _ l2;obtain⟨bs,rd⟩:=(hx.py (m9 _ l1)).reads I rx;have hu:X.A.units+1+min (ZH (cy ds)) (py dx).depth<cLine:=by
    have:=hr.un;rw[p2];omega
   obtain⟨a,xs,rfl,ha,aw⟩:=ED S hy hd;have fin:EP X pins σ Q (.bool (!(cy ds).any λy=>Yh y (py dx))) s:=⟨.bl (!b),w.H,I,by rw[yV l1 l2,l4];rfl,aI S h _ rfl⟩
   rcases ha with ha|ha
   ·obtain⟨cs,rc⟩:=(show L2.DV X.K (λ_=>False) w.H (.list (cy ds)) (.ref a) by simp only[L2.DV];exact⟨a,xs,rfl,not_false,ha,aw.py (mZ _ l2)⟩).reads I ry
    exact SeqAt.notIn_list_reads rc rd q1 p1 hu fin
   ·obtain⟨cs,rc⟩:=(show L2.DV X.K (λ_=>False) w.H (.tuple (cy ds)) (.ref a) by simp only[L2.DV];exact⟨a,xs,rfl,ha,aw.py (mZ _ l2)⟩).reads I ry
    exact SeqAt.notIn_tuple_reads rc rd q1 p1 hu fin
 ·exact h.elim
noncomputable def tP (K:Frag) (Ξ:Wd->bq->Prop) (f:Env->ae->Res (Option Int)):TO:=fun σ H Q=>∃w env,w.H=H/\aO K w/\bT K w env σ/\Out K Ξ w (f env w.aG) λw' i=>Q i w'.H
noncomputable def oF:Env->ae->Res (Option Int):=λ_ s=>ok none s
noncomputable def nX (f:Env->ae->Res D):Env->ae->Res (Option Int):=λenv s=>ar (f env s) λd s=>match d with
 | .int i=>ok (some i) s
 |_=>none
variable {e a b:Expr} {lo hi:Option Expr} {pos p2 p3 p4:Pos} {f g:Env->ae->Res D}
theorem GF {lo:Option Expr} {t t':TO} (h:PO X lo t) (i:∀ σ H Q,t' σ H Q->t σ H Q):PO X lo t':=λpins s σ H Q I hq=>h pins s σ H Q I (i σ H Q hq)
theorem Ia:PO X none (tP X.K Ξ oF):=GF N9 fun σ H Q aE=>by
 obtain⟨w,env,eH,S,eo,h⟩:=aE;subst eH;exact aI S h
theorem Hl (he:PE X e (tE X.K Ξ f)):PO X (some e) (tP X.K Ξ (nX f)):=GF (Oa he) fun σ H Q aE=>by
 obtain⟨w,env,eH,S,eo,h⟩:=aE;subst eH;refine⟨w,env,rfl,S,eo,(Out.ar h).mono λw1 d l1 S1 h1 v dv=>?_⟩
 cases d with
 |int i=>exact⟨i,dv,aI S1 h1⟩
 |_=>exact h1.elim
noncomputable def cutD (xs:List D) (lo hi:Option Int):List D:=(xs.drop (HT.aR xs.length 0 lo)).take (HT.aR xs.length xs.length hi-HT.aR xs.length 0 lo)
noncomputable def nB (d:D) (lo hi:Option Int) (s:ae):Res D:=match res d s with
 | .tup ds=>ok (.tup (cutD ds lo hi)) s
 | .lst ds=>ok (.lst (cutD ds lo hi)) s
 |_=>none
noncomputable def oG (f:Env->ae->Res D) (l h:Env->ae->Res (Option Int)):Env->ae->Res D:=λenv s=>ar (f env s) λd s=>ar (l env s) λlo s=>ar (h env s) λhi s=>nB d lo hi s
noncomputable def UA (K:Frag) (Ξ:Wd->bq->Prop):V->Option Int->Option Int->Hp->VK->Prop:=λx lo hi H Q=>∃w dx,w.H=H/\aO K w/\DV K w dx x/\Out K Ξ w (nB dx lo hi w.aG) λw' d=>∀v,DV K w' d v->Q v w'.H
theorem Qn:sT X (UA X.K Ξ):=by
 rintro pins s σ H x v vl vu lo hi sl Q I rx hs pl pu ⟨w,dx,rfl,S,hx,h⟩;unfold nB at h;split at h
 ·rename_i ds e1
  rw[ei e1 (by intro _ z;cases z)] at hx;simp only[DV] at hx;obtain⟨a,xs,rfl,ha,aw⟩:=hx;refine Of pins s σ w.H _ v vl vu lo hi sl Q I rx hs pl pu ⟨a,xs,rfl,ha,lQ S ?_ h⟩;unfold cutD jK;rw[aw.length];exact(aw.drop _).take _
 ·rename_i ds e1
  obtain⟨a,xs,rfl,ha,aw⟩:=gX S hx e1;refine Oc pins s σ w.H _ v vl vu lo hi sl Q I rx hs pl pu ⟨a,xs,rfl,ba.of ha,wA S ?_ h⟩;unfold cutD jK;rw[aw.length];exact(aw.drop _).take _
 ·exact h.elim
theorem Ib {fl fh:Env->ae->Res (Option Int)} (he:PE X e (tE X.K Ξ f)) (hl:PO X lo (tP X.K Ξ fl)) (hu:PO X hi (tP X.K Ξ fh)):PE X (.Subscript e (.Slice lo hi none p2) pos) (tE X.K Ξ (oG f fl fh)) :=
 cD (MO Qn he hl hu) fun σ H Q aE=>by
  obtain⟨w,env,eH,S,eo,h⟩:=aE;subst eH;exact⟨w,env,rfl,S,eo,(Out.ar h).mono λw1 d l1 S1 h1 v dv=>⟨w1,env,rfl,S1,eo.le l1,(Out.ar h1).mono λw2 i l2 S2 h2=>⟨w2,env,rfl,S2,eo.le (l1.trans l2),(Out.ar h2).mono λw3 j l3 S3 h3=>⟨w3,d,rfl,S3,(l2.trans l3) _ _ dv,h3⟩⟩⟩⟩
noncomputable def wC (d:D) (s:ae):Res D:=match d with
 | .tup ds=>ok (.tup ds.reverse) s
 |_=>none
theorem RR (he:PE X e (tE X.K Ξ f)):PE X (.Subscript e (.Slice none none (some (.UnaryOp .USub (.Constant (.int 1) 0 p4) p3)) p2) pos) (tE X.K Ξ (e1 wC f)):=cD (Qe he) fun σ H Q aE=>by
 obtain⟨w,env,eH,S,eo,h⟩:=aE;subst eH;refine⟨w,env,rfl,S,eo,(Out.ar h).mono λw1 d l1 S1 h1 v dv=>?_⟩;unfold wC at h1;split at h1
 ·simp only[DV] at dv
  obtain⟨a,xs,rfl,ha,aw⟩:=dv;exact⟨a,xs,rfl,ha,lQ S1 aw.reverse h1⟩
 ·exact h1.elim
noncomputable def fW (d x:D) (s:ae):Res D:=match d with
 | .aj k=>match s[k]? with
  |some (.lst ds)=>if decide (ds.length<WX)=true then ok .aB (s.set k (.lst (ds++[x]))) else none
  |_=>none
 |_=>none
noncomputable def gv (d:D) (s:ae):Bool:=match d with
 | .aj k=>match s[k]? with
  |some (.lst _)=>true
  |_=>false
 |_=>false
noncomputable def eJ (f g:Env->ae->Res D):Env->ae->Res D:=λenv s=>ar (f env s) λd s=>if gv d s=true then ar (g env s) λx s=>fW d x s else none
theorem OD {K:Frag} {w:Wd} {d:D} {v:V} (S:aO K w) (dv:DV K w d v) (h:gv d w.aG=true):∃k a ds xs,d=.aj k/\v=.ref a/\w.ρ[k]?=some a/\w.aG[k]?=some (.lst ds)/\w.H a=some (.lst xs)/\au K w ds xs:=by
 unfold gv at h;split at h
 ·rename_i k
  split at h
  ·rename_i ds hk
   obtain⟨a,e1,rfl⟩:=dv;obtain⟨xs,q1,q2⟩:=S.cell k a _ e1 hk;exact⟨k,a,ds,xs,rfl,rfl,e1,hk,q1,q2⟩
  ·cases h
 ·cases h
theorem Qo {K:Frag} {w:Wd} {d y:D} {v u:V} {q:Wd->D->Prop} (S:aO K w) (dv:DV K w d v) (du:DV K w y u) (h:Out K Ξ w (fW d y w.aG) q):∃a xs,v=.ref a/\w.H a=some (.lst xs)/\xs.length<WX/\∃w',w'.H=upd w.H a (.lst (xs++[u]))/\q w' .aB:=by
 unfold fW at h;split at h
 ·rename_i k
  split at h
  ·rename_i ds hk
   split at h
   ·rename_i hl
    obtain⟨a,e1,rfl⟩:=dv;obtain⟨xs,q1,q2⟩:=S.cell k a _ e1 hk;have nd:(Cell.lst ds)≠.dead:=by intro z;cases z
    have le:=(Fw.put (K:=K) (o:=.lst (xs++[u])) (c:=.lst (ds++[y])) S e1 hk nd).le;refine⟨a,xs,rfl,q1,by rw[<- q2.length];exact of_decide_eq_true hl,w.put k a (.lst (xs++[u])) (.lst (ds++[y])),rfl,?_⟩;exact h _ le (S.Ah e1 hk nd ⟨_,dP,le.all (q2.append (au.one du))⟩) rfl
   ·exact h.elim
  ·exact h.elim
 ·exact h.elim
theorem lJ {o:Expr} {apos dU:Pos} (ho:PE X o (tE X.K Ξ f)) (ha:PE X a (tE X.K Ξ g))
  (zt:attributeBase o "append" X.env (eval o X.env)=eval o X.env:=by rfl)
  (zX:((Z5 dU (Xb [a] X.env)).all (λx=>!x.1)&&(backToKw dU (keywordEach [] X.env)).all (λx=>x.1.isSome)
   && decide (([a]:List Expr).length+([]:List Keyword).length+(if ([]:List Keyword).isEmpty then 0 else 1)<30))=true:=by rfl)
  (zu:(apos.endLine==dU.line)=true:=by rfl) (hs:Xb [a] X.env=(false,eval a X.env)::Xb [] X.env:=by rfl) (yR:(Z5 dU (Xb [] X.env)).any (·.1)=false:=by rfl) :
  PE X (.Call (.Attribute o "append" apos) [a] [] dU) (tE X.K Ξ (eJ f g)) :=
 cD (RB PySem.F.plainAttrs_list PySem.F.slot_list_append PySem.F.type_list_append LA ho (k9 ha nu hs) zt zX zu hs yR) fun σ H Q aE=>by
  obtain⟨w,env,eH,S,eo,h⟩:=aE;subst eH;refine⟨w,env,rfl,S,eo,(Out.ar h).mono λw1 d l1 S1 h1 v dv=>?_⟩;split at h1
  ·rename_i hl
   obtain⟨k,p,ds,xs,rfl,rfl,e1,e2,e3,e4⟩:=OD S1 dv hl;refine⟨.inl ⟨rfl,xs,ba.of e3⟩,w1,env,rfl,S1,eo.le l1,(Out.ar h1).mono λw2 y l2 S2 h2 u du=>?_⟩;obtain⟨a',ys,ea,q1,q2,w3,eH,q3⟩:=Qo S2 (l2 _ _ dv) du h2;refine⟨a',ys,u,ea,rfl,q1,q2,?_⟩;rw[<- eH];exact q3 _ rfl
  ·exact h1.elim
noncomputable def gw (d i x:D) (s:ae):Option ae:=match d,i with
 | .aj k,.int n=>match s[k]? with
  |some (.lst ds)=>(fm ds.length n).map λj=>s.set k (.lst (ds.set j x))
  |_=>none
 |_,_=>none
noncomputable def gy (f o i:Env->ae->Res D):Env->ae->Res Fl:=λenv s=>ar (f env s) λx s=>ar (o env s) λd s=>ar (i env s) λn s=>match gw d n x s with
 |some s'=>ok (.nx env) s'
 |none=>none
theorem Qp {K:Frag} {w:Wd} {d i x:D} {v n u:V} {s':ae} (S:aO K w) (dv:DV K w d v) (dn:DV K w i n) (du:DV K w x u) (h:gw d i x w.aG=some s'):∃a xs k j,v=.ref a/\n=.int k/\w.H a=some (.lst xs)/\fm xs.length k=some j/\∃w',w'.H=upd w.H a (.lst (xs.set j u))/\w'.aG=s'/\Le K w w'/\aO K w':=by
 unfold gw at h;split at h
 ·rename_i k m
  split at h
  ·rename_i ds hk
   cases hj:fm ds.length m with
   |none=>rw[hj] at h;cases h
   |some j =>
    rw[hj] at h;cases h;obtain⟨a,e1,rfl⟩:=dv;obtain⟨xs,q1,q2⟩:=S.cell k a _ e1 hk;have nd:(Cell.lst ds)≠.dead:=by intro z;cases z
    have le:=(Fw.put (K:=K) (o:=.lst (xs.set j u)) (c:=.lst (ds.set j x)) S e1 hk nd).le;exact⟨a,xs,m,j,rfl,dn,q1,by rw[<- q2.length];exact hj,w.put k a (.lst (xs.set j u)) (.lst (ds.set j x)),rfl,rfl,le,S.Ah e1 hk nd ⟨_,dP,le.all (q2.set du j)⟩⟩
  ·cases h
 ·cases h
theorem mx {o i:Expr} {gQ:Pos} {fo fi:Env->ae->Res D} (he:PE X e (tE X.K Ξ f)) (ho:PE X o (tE X.K Ξ fo)) (hi:PE X i (tE X.K Ξ fi))
  (ha:∀v,aaT (.Subscript o i gQ) X.env v=(do
   let ov <- aai [v] (eval o X.env)
   let iv <- aai [v,ov] (eval i X.env)
   aaU gQ
   aai [v,ov,iv] (setItem ov iv v)
   release [v,ov,iv] []):=by intro _;rfl)
  (hs:Zh [.Subscript o i gQ] e pos.line X.env=pure false:=by rfl) (hw:Zi [.Subscript o i gQ] e X.env=pure none:=by rfl)
  (h1:(YU [.Subscript o i gQ] X.env).map (·.2)=[aaT (.Subscript o i gQ) X.env]:=by rfl):PS X (.Assign [.Subscript o i gQ] e pos) (tS X.K Ξ (gy f fo fi)) :=
 iN (yQ he (Gf ho hi set_list ha) hs hw h1) λD0 σ H aE=>by
  obtain⟨w,env,eH,S,eo,h⟩:=aE;subst eH;refine⟨w,env,rfl,S,eo,(Out.ar h).mono λw1 x l1 S1 h1 u du=>?_⟩;refine⟨w1,env,rfl,S1,eo.le l1,(Out.ar h1).mono λw2 d l2 S2 h2 v dv=>?_⟩;refine⟨w2,env,rfl,S2,eo.le (l1.trans l2),(Out.ar h2).mono λw3 n l3 S3 h3 m dm=>?_⟩
  cases hd:gw d n x w3.aG with
  |none=>rw[hd] at h3;exact h3.elim
  |some s' =>
   rw[hd] at h3;obtain⟨a,xs,k,j,e1,e2,q1,q2,w4,eH,es,le,S4⟩:=Qp S3 (l3 _ _ dv) dm ((l2.trans l3) _ _ du) hd;refine⟨a,xs,k,j,e1,e2,q1,q2,?_⟩;rw[<- eH];exact h3 w4 le S4 es σ (eo.le (l1.trans (l2.trans (l3.trans le))))
end
end DI
namespace DI
open PySem L2
noncomputable def kd (d:D) (s:ae):Option Kn:=match res d s with
 | .aB=>some .aB
 | .bl _=>some .bl
 | .int _=>some .int
 | .str _=>some .str
 | .tup _=>some .tup
 | .lst _=>some .lst
 | .bH _=>some .bH
 |_=>none
theorem Hm {K:Frag} {w:Wd} {d:D} {v:V} {k:Kn} (S:aO K w) (h:DV K w d v) (e:kd d w.aG=some k):mQ K w.H v k:=by
 unfold kd at e
 split at e<;>rename_i e1<;>first | (cases e;done) | (try cases e)
 ·rw[ei e1 (by intro _ z;cases z)] at h;cases h;trivial
 ·rw[ei e1 (by intro _ z;cases z)] at h;cases h;trivial
 ·rw[ei e1 (by intro _ z;cases z)] at h;cases h;trivial
 ·rw[ei e1 (by intro _ z;cases z)] at h;cases h;trivial
 ·rw[ei e1 (by intro _ z;cases z)] at h
  simp only[DV] at h;obtain⟨a,xs,rfl,ha,_⟩:=h;exact⟨xs,ha⟩
 ·obtain⟨a,xs,rfl,ha,_⟩:=gX S h e1
  exact⟨xs,ba.of ha⟩
 ·rw[ei e1 (by intro _ z;cases z)] at h
  simp only[DV] at h;obtain⟨a,rfl,_,ha⟩:=h;exact⟨_,ha⟩
noncomputable def Hn (T:String):Bool:=T=="int"||T=="bool"||T=="str"||T=="tuple"||T=="list"
noncomputable def cF (ds:List D) (s:ae):Res D:=match ds with
 | [d,.ty T]=>if Hn T=true then bI ((kd d s).map λk=>.bl (qk k T)) s else none
 |_=>none
section
variable {X:Cx} {Ξ:Wd->bq->Prop} {e a b:Expr} {es:List Expr} {pos:Pos} {f g:Env->ae->Res D} {fa:Env->ae->Res (List D)}
theorem jk:cz X (.builtin "isinstance") (rC X.K Ξ cF):=by
 rintro pins s σ H xs us Q I r ⟨w,ds,rfl,S,aw,h⟩;unfold cF at h;split at h
 ·rename_i d T
  obtain⟨v,u,rfl,dv,du⟩:=nA aw;have eu:u=.ty T:=du;subst eu;split at h
  ·rename_i hT
   obtain⟨d',e,h⟩:=fv h
   cases hk:kd d w.aG with
   |none=>rw[hk] at e;cases e
   |some k =>
    rw[hk] at e;cases e;have tN:=Hm S dv hk;simp only[Hn,Z9,beq_iff_eq] at hT
    rcases hT with (((rfl|rfl)|rfl)|rfl)|rfl
    ·exact J1 pins s σ w.H _ us Q I r ⟨v,k,rfl,tN,aI S h _ rfl⟩
    ·exact JO pins s σ w.H _ us Q I r ⟨v,k,rfl,tN,aI S h _ rfl⟩
    ·exact J2 pins s σ w.H _ us Q I r ⟨v,k,rfl,tN,aI S h _ rfl⟩
    ·exact JE pins s σ w.H _ us Q I r ⟨v,k,rfl,tN,aI S h _ rfl⟩
    ·exact JP pins s σ w.H _ us Q I r ⟨v,k,rfl,tN,aI S h _ rfl⟩
  ·exact h.elim
 ·exact h.elim
theorem jo {x:Str} {T:String} (hv:XA x=some (.type T)) (hg:Gl X x) (hm:X.mg x=none) (hn:x≠"__name__":=by decide) (hd:(x==("__debug__":Str))=false:=by decide):PE X (.Name x pos) (tE X.K Ξ (eC (.ty T))):=rP (v:=.ty T) (yn hg hm hv rfl hn hd) λ_=>rfl
theorem eY {x:Str} {i:Int} (g:∃t,X.mg x=some (.int i t)) (hg:Gl X x) (hd:(x==("__debug__":Str))=false:=by decide):PE X (.Name x pos) (tE X.K Ξ (eC (.int i))):=by
 obtain⟨t,e⟩:=g;exact rP (v:=.int i) (NW hg e ⟨t,rfl⟩ hd) λ_=>rfl
noncomputable def sj (d:D) (s:ae):Res D:=bI ((kd d s).map λk=>.bl (decide (k=.tup)||decide (k=.lst))) s
theorem OE {p p1 p2 p3:Pos} {x1} (ha:PE X a (tE X.K Ξ f)) (hg:Gl X "isinstance") (hm:X.mg "isinstance"=none) (hv:XA "isinstance"=some (.builtin "isinstance")) (h1:PE X (.Name "tuple" p1) (tC (.ty "tuple"))) (h2:PE X (.Name "list" p2) (tC (.ty "list")))
  (he:Xb (a::[.Tuple [.Name "tuple" p1,.Name "list" p2] x1 p3]) X.env=(false,eval a X.env)::Xb [.Tuple [.Name "tuple" p1,.Name "list" p2] x1 p3] X.env:=by rfl) :
  PE X (.Call (.Name "isinstance" p) [a,.Tuple [.Name "tuple" p1,.Name "list" p2] x1 p3] [] pos) (tE X.K Ξ (e1 sj f)) :=
 cD (xS Km hg hm hv (k9 ha (k9 (MR (k9 h1 (k9 h2 nu))) nu) he) (by decide) (by decide) he) fun σ H Q aE=>by
  obtain⟨w,env,eH,S,eo,h⟩:=aE;subst eH;refine⟨w,env,rfl,S,eo,(Out.ar h).mono λw1 d l1 S1 h1 v dv=>?_⟩;refine⟨["tuple","list"],rfl,(by show 2<=WX;decide),λp hp=>?_⟩;obtain⟨d',e,h1⟩:=fv h1
  cases hk:kd d w1.aG with
  |none=>rw[hk] at e;cases e
  |some k =>
   rw[hk] at e;cases e;have S2:=S1.grow (o:=.ext (qb p ["tuple","list"])) hp;have l2:=(Fw.grow (K:=X.K) (o:=.ext (qb p ["tuple","list"])) hp).le;exact⟨v,k,p,rfl,Hm (w:=w1.grow p _) S2 (l2 _ _ dv) hk,dP,h1 _ l2 S2 rfl _ rfl⟩
noncomputable def rW (d:D):Bool:=plain d&&(py d).showable&&(!(py d).hasDict||(match py d with | .tuple ds=>qm ds | .dict _=>true | _=>false))&&decide ((py d).depth<=100)&&decide ((py d).shown.length<=WX)
noncomputable def nJ (ds:List D) (s:ae):Res D:=match ds with
 | [d]=>if rW (res d s)=true then ok (.str (py (res d s)).shown) s else none
 |_=>none
theorem GG {k:Nat} (hr:cI k X.A):cz X (.builtin "repr") (rC X.K Ξ nJ):=by
 rintro pins s σ H xs us Q I r ⟨w,ds,rfl,S,aw,h⟩;unfold nJ at h;split at h
 ·rename_i d
  obtain⟨v,rfl,dv⟩:=ny aw;split at h
  ·rename_i hk
   simp only[rW,WK,decide_eq_true_eq] at hk;obtain⟨⟨⟨⟨h1,h2⟩,h3⟩,h4⟩,h5⟩:=hk;have dp:=dv.res S h1;have fin:=aI S h _ rfl;generalize hp:py (res d w.aG)=P at *
   cases P with
   |tuple ps =>
    refine K7 hr pins s σ w.H _ us Q I r ⟨v,ps,_,rfl,dp,h2,?_,h4,h5,fin⟩;simpa using h3
   |dict aq=>exact DL hr pins s σ w.H _ us Q I r ⟨v,_,_,rfl,dp,h2,.inr rfl,h4,h5,fin⟩
   |_ =>
    refine DL hr pins s σ w.H _ us Q I r ⟨v,_,_,rfl,dp,h2,.inl ?_,h4,h5,fin⟩;simpa using h3
  ·exact h.elim
 ·exact h.elim
noncomputable def nK:List D->Option (List Int)
 | []=>some []
 | .int i::ds=>(nK ds).map λr=>i::r
 |_::_=>none
theorem EE:∀{ds:List D} {ns:List Int},nK ds=some ns->ds=ns.map D.int
 | [],ns,h=>by cases h;rfl
 | .int b::ds,ns,h=>by
  simp only[nK] at h
  cases hd:nK ds with
  |none=>rw[hd] at h;cases h
  |some r=>rw[hd] at h;cases h;rw[EE hd];rfl
 | .aB::_,_,h=>by cases h
 | .bl _::_,_,h=>by cases h
 | .str _::_,_,h=>by cases h
 | .tup _::_,_,h=>by cases h
 | .lst _::_,_,h=>by cases h
 | .bH _::_,_,h=>by cases h
 | .aj _::_,_,h=>by cases h
 | .ty _::_,_,h=>by cases h
 | .bQ _::_,_,h=>by cases h
theorem LO {ns:List Int}:nK (ns.map D.int)=some ns:=by
 induction ns with
 |nil=>rfl
 |cons b bs ih=>simp only[W4,nK,ih,YC]
noncomputable def ko (i:Int):List Int->List Int
 | []=>[i]
 |j::r=>if i<j then i::j::r else if i=j then j::r else j::ko i r
noncomputable def gr:List Int->List Int
 | []=>[]
 |i::r=>ko i (gr r)
theorem xY {i k:Int}:∀{l:List Int},k∈ko i l↔k=i\/k∈l
 | []=>by simp[ko]
 |j::r=>by
  unfold ko;split
  ·simp
  ·split
   ·rename_i h;subst h;simp
   ·rw[W3,xY,W3]
    constructor
    ·rintro (h|h|h)
     ·exact .inr (.inl h)
     ·exact .inl h
     ·exact .inr (.inr h)
    ·rintro (h|h|h)
     ·exact .inr (.inl h)
     ·exact .inl h
     ·exact .inr (.inr h)
theorem C3 {i:Int}:∀{l:List Int},l.Pairwise (· < ·)->(ko i l).Pairwise (· < ·)
 | [],_=>by simp[ko]
 |j::r,h=>by
  obtain⟨h1,h2⟩:=Xx.mp h;unfold ko;split
  ·rename_i eZ
   refine Xx.mpr ⟨λk hk=>?_,h⟩
   rcases W3.mp hk with rfl|hk
   ·exact eZ
   ·have:=h1 k hk;omega
  ·split
   ·exact h
   ·refine Xx.mpr ⟨λk hk=>?_,C3 h2⟩
    rcases xY.mp hk with rfl|hk
    ·omega
    ·exact h1 k hk
theorem qX {k:Int}:∀{l:List Int},k∈gr l↔k∈l
 | []=>by simp[gr]
 |i::r=>by simp[gr,xY,qX]
theorem CH:∀(l:List Int),(gr l).Pairwise (· < ·)
 | []=>List.Pairwise.nil
 |i::r=>C3 (CH r)
theorem Cu:∀{l m:List Int},l.Pairwise (· < ·)->m.Pairwise (· < ·)->(∀k,k∈l↔k∈m)->l=m
 | [],[],_,_,_=>rfl
 | [],j::m,_,_,h=>by have:=(h j).mpr WR;cases this
 |i::l,[],_,_,h=>by have:=(h i).mp WR;cases this
 |i::l,j::m,hl,hm,h=>by
  obtain⟨l1,l2⟩:=Xx.mp hl;obtain⟨m1,m2⟩:=Xx.mp hm;have e:i=j:=by
   rcases W3.mp ((h i).mp WR) with e|e
   ·exact e
   ·rcases W3.mp ((h j).mpr WR) with e'|e'
    ·exact e'.symm
    ·have:=m1 i e;have:=l1 j e';omega
  subst e;congr 1;refine Cu l2 m2 λk=>?_;constructor
  ·intro hk
   rcases W3.mp ((h k).mp (WT _ hk)) with e|e
   ·subst e;have:=l1 k hk;omega
   ·exact e
  ·intro hk
   rcases W3.mp ((h k).mpr (WT _ hk)) with e|e
   ·subst e;have:=m1 k hk;omega
   ·exact e
noncomputable def pF (d:D) (s:ae):Res D:=match d with
 | .lst ds=>match nK ds with
  |some ns=>if decide (ns.length<64)=true then ok (.lst ((gr ns).map D.int)) s else none
  |none=>none
 |_=>none
theorem Lb {p p2 jN:Pos} (ha:PE X a (tE X.K Ξ f)) (hc:X.calm=true) (hg:Gl X "sorted") (hm:X.mg "sorted"=none) (hv:XA "sorted"=some (.builtin "sorted")) (A5:Gl X "set") (A6:X.mg "set"=none) (UB:XA "set"=some (.type "set"))
  (he:Xb [a] X.env=(false,eval a X.env)::Xb [] X.env:=by rfl) (dj:(Z5 jN (Xb [] X.env)).any (·.1)=false:=by rfl)
  (wZ:Xb [.Call (.Name "set" p2) [a] [] jN] X.env=(false,eval (.Call (.Name "set" p2) [a] [] jN) X.env)::Xb [] X.env:=by rfl) (Tt:(Z5 pos (Xb [] X.env)).any (·.1)=false:=by rfl) :
  PE X (.Call (.Name "sorted" p) [.Call (.Name "set" p2) [a] [] jN] [] pos) (tE X.K Ξ (e1 pF f)) :=
 cD (xS (J4 hc) hg hm hv (k9 (xF (K6 hc) A5 A6 UB (k9 ha nu he) (by decide) (by decide) he dj) nu wZ) (by decide) (by decide) wZ Tt) fun σ H Q aE=>by
  obtain⟨w,env,eH,S,eo,h⟩:=aE;subst eH;refine⟨w,env,rfl,S,eo,(Out.ar h).mono λw1 d l1 S1 h1 v dv=>?_⟩;unfold pF at h1;split at h1
  ·rename_i ds
   split at h1
   ·rename_i ns hn
    split at h1
    ·rename_i hl
     have hl:=of_decide_eq_true hl;simp only[DV] at dv;obtain⟨p,xs,rfl,hp,aw⟩:=dv;rw[EE hn] at aw;rw[aw.Ez] at hp;refine⟨p,ns,rfl,hp.sq,by omega,λq hq=>?_⟩;refine⟨q,ns,rfl,dP,hl,λl ms sV hs hk=>?_⟩;have e:=Cu hs (CH ns) λk=>(hk k).trans qX.symm;subst e;have A7:(w1.grow q (.ext (kn X.prog X.w q ns))).H l=none:=sV;have S2:=S1.grow (o:=.ext (kn X.prog X.w q ns)) hq;exact h1 ((w1.grow q (.ext (kn X.prog X.w q ns))).grow l (.lst ((gr ns).map V.int))) ((Fw.grow hq).le.trans (Fw.grow A7).le) (S2.grow A7) rfl (.ref l) ⟨l,_,rfl,⟨(show ¬ (w1.grow q (.ext (kn X.prog X.w q ns))).Z l from nv S2 A7),dP⟩,au.ints _⟩
    ·exact h1.elim
   ·exact h1.elim
  ·exact h1.elim
noncomputable def sk (i j:Nat) (fa:Env->ae->Res (List D)):Env->ae->Res Fl:=λenv s=>ar (fa env s) λds s=>match ds with
 | [x,y]=>ok (.nx ((env.set i (some x)).set j (some y))) s
 |_=>none
theorem Qq (i j:Nat) {x y:Str} {px py pt:Pos} {kt k2 hZ} (hc:X.calm=true) (hN:X.N.Nodup) (ha:PA X [a,b] (tA X.K Ξ fa)) (hi:X.N[i]?=some x:=by rfl) (hj:X.N[j]?=some y:=by rfl) (eZ:i≠j:=by decide)
  (hx:X.env.scope.names.lookup x=some .local:=by rfl) (hy:X.env.scope.names.lookup y=some .local:=by rfl)
  (hw:Zi [.Tuple [.Name x px,.Name y py] kt pt] (.Tuple [a,b] k2 hZ) X.env=pure (some [x,y]):=by rfl)
  (hs:Zh [.Tuple [.Name x px,.Name y py] kt pt] (.Tuple [a,b] k2 hZ) pos.line X.env=pure false:=by rfl) :
  PS X (.Assign [.Tuple [.Name x px,.Name y py] kt pt] (.Tuple [a,b] k2 hZ) pos) (tS X.K Ξ (sk i j fa)):=iN (PK hc hN hi hj eZ hx hy ha hw hs) λD0 σ H aE=>by
 obtain⟨w,env,eH,S,eo,h⟩:=aE;subst eH;refine⟨w,env,rfl,S,eo,(Out.ar h).mono λw1 ds l1 S1 h1 vs aw=>?_⟩;split at h1
 ·obtain⟨v,u,rfl,dv,du⟩:=nA aw
  exact⟨v,u,rfl,aI S1 h1 _ (((eo.le l1).set dv i).set du j)⟩
 ·exact h1.elim
end
end DI
namespace L2
open PySem PySem.Spec PyProof.Rows
structure DS (Y:Cx) (D:Addr) (pins:List (Addr×Obj)):Prop where
 loc:D≠Y.env.locals
 fs:D∉Y.fs
 new:Y.dg.heap.objs.size<=D
 cell:∀x c,Y.env.cells.lookup x=some c->c≠D
 pin:∀p∈Y.pn++pins,p.1≠D
structure oH (Y:Cx) (D:Addr) (nt:Nat) (caps:St) (pins:List (Addr×Obj)) (o:St) (H:Hp) (s:WI) (acc:List V):Prop where
 inv:Inv Y pins (o++caps) H s
 len:o.length=nt
 lst:∃ys,s.heap.PlainList D ys/\Vals acc ys.toList
 free:H D=none
 kD:acc.length<=WX
noncomputable abbrev iA:=St->Hp->List V->(St->List V->Hp->Prop)->Prop
def sm (Y:Cx) (D:Addr) (nt:Nat) (caps:St) (c:Code) (m:Sem abc) (ta:iA):Prop :=
 ∀(pins:List (Addr×Obj)) (o:St) (H:Hp) (s:WI) (acc:List V) (Q:St->List V->Hp->Prop),DS Y D pins->oH Y D nt caps pins o H s acc->ta (o++caps) H acc Q ->
  wpAny (model Y.prog Y.w) Y.A m (λfn s'=>fn=.again c/\∃o' H' fJ,oH Y D nt caps pins o' H' s' fJ/\Q (o'++caps) fJ H') (λ_ _=>False) s
def CA (J:It) (g:TG) (tf:TT) (ta:iA) (τ:St) (acc:List V) (H:Hp) (Q:St->List V->Hp->Prop):Prop:=∃W:Nat->Nat->St->List V->Hp->Prop,(∃m,W 0 m τ acc H) /\
 ∀i m τ acc H2,W i m τ acc H2->(J.stop i H2/\Q τ acc H2) \/
  (J.go i H2/\∃N:St->List V->Hp->Prop,(∀ cN fJ H',N cN fJ H'->∃m',m' < m/\W (i+1) m' cN fJ H') /\
   ∀x H3,J.qA i H2 x H3->g x τ H3 fun ou H4=>tf ou H4 λb H5=>if b=true then ta ou H5 acc N else N ou acc H5)
noncomputable def Ho (te:TE):iA:=fun τ H acc Q=>acc.length+1<=WX/\te τ H λv H'=>Q τ (acc++[v]) H'
noncomputable def Hq (wi:TI) (g:TG) (tf:TT) (ta:iA):iA:=fun τ H acc Q=>wi τ H λJ H1=>CA J g tf ta τ acc H1 Q
section
variable {Y:Cx} {D:Addr} {nt:Nat} {caps:St}
theorem DS.obj {pins:List (Addr×Obj)} {o:St} {H:Hp} {s:WI} {acc:List V} (ds:DS Y D pins) (B:oH Y D nt caps pins o H s acc):∃oD ys nn,s.heap.get? D=some oD/\oD={ cls:=.type "list",data:=.seq ys nn }/\Vals acc ys.toList/\Inv Y (pins++[(D,oD)]) (o++caps) H s:=by
 obtain⟨ys,⟨nn,ho⟩,rv⟩:=B.lst;refine⟨_,ys,nn,ho,rfl,rv,B.inv.kZ λp hp=>?_⟩
 rcases XX.mp hp with z|z
 ·exact B.inv.pin p (WU _ z)
 ·have e:p=(D,{ cls:=.type "list",data:=.seq ys nn }):=by simpa using z
  subst e;exact⟨ho,B.free,ds.loc,ds.fs,λv z=>by cases z⟩
theorem xZ {el:Expr} {te:TE} {c:Code} (hx:Y.xe=λ_ _=>False) (hE:PE Y el te):sm Y D nt caps c ((do let _ <- call (.builtin "list.append") [.ref D,<- eval el Y.env]:Sem Unit) >>= λ_=>again c) (Ho te):=by
 intro pins o H s acc Q ds B h;obtain⟨hz,h⟩:=h;obtain⟨oD,ys,nn,ho,eo,rv,I⟩:=ds.obj B;have q:=hE _ s _ H _ I h;rw[hx] at q;refine WD (WD (aK q λy s8 h8=>?_));obtain⟨v,H8,I8,r8,q9⟩:=h8;have pD:=I8.pin (D,oD) (WU _ (WU _ (by simp)));have A8:s8.heap.PlainList D ys:=⟨nn,by rw[<- eo];exact pD.1⟩;have A9:ys.size<=WX:=by
  have e:=rv.length;simp only[Xj] at e;omega
 refine WD (wpAny_list_append_plain (hsz:=A9) A8 λh9 Ba w6=>WG (WG ⟨rfl,?_⟩));have Bb:Inv Y pins (o++caps) H8 s8:=I8.kW
 have I9:Inv Y pins (o++caps) H8 { s8 with heap:=h9,toks:=s8.toks }:=Bb.turned (it:=D) (λb o hb e=>(w6.2 b hb).trans e) pD.2.1 ds.loc (.inr ds.new) ds.cell ds.pin
 refine⟨o,H8,acc++[v],⟨I9,B.len,⟨ys.push y,Ba,?_⟩,pD.2.1,by rw[Xw];simpa using hz⟩,q9⟩;rw[aar];exact Vals.append rv (.cons r8 .nil)
theorem Dr {e tg:Expr} {tests:List Expr} {d:Nat} {it:Addr} {J:It} {fp:List Addr} {tn:Nat->Heap->Prop} {g:TG} {tf:TT} {ta:iA} {act:Sem abc} {p0:Pos} {pins:List (Addr×Obj)} {o:St} {H:Hp} {s:WI} {acc:List V} {Q:St->List V->Hp->Prop} (hx:Y.xe=λ_ _=>False) (hc:Y.calm=true)
  (T:Turn Y.prog Y.w Y.K tg J fp it tn) (UC:tn 0 s.heap) (hf:∀b∈fp,fT Y pins H b) (lV:D∉fp) (hG:PG Y tg g) (fM:lS g nt) (hF:PF Y tests tf) (hA:sm Y D nt caps (.compLoop e d (.ref it) (.ref D) Y.env) act ta) (ds:DS Y D pins) (B:oH Y D nt caps pins o H s acc) (hq:(Code.compLoop e d (.ref it) (.ref D) Y.env).quiet=true)
  (Tu:∀(M:Model) (A:Xv) (Q':Fin->WI->Prop) (E':Value->WI->Prop) (s':WI),wpAny (model Y.prog Y.w) A (compTurn e d (.ref it) (.ref D) Y.env) Q' (λ_ _=>False) s'->wpAny (model Y.prog Y.w) (A.under (.compLoop e d (.ref it) (.ref D) Y.env)) ((model Y.prog Y.w).den (.compLoop e d (.ref it) (.ref D) Y.env)) Q' E' s')
  (ht:compTurn e d (.ref it) (.ref D) Y.env=(do
   aaU p0
   match <- Zy (.ref it) with
   |none=>pure (.done .next)
   |some v =>
    Y8 tg (.ref it) v
    aaT tg Y.env v
    let mut ok:=true
    for c in tests do
     if ok then ok <- isTrue c Y.env (eval c Y.env)
    if ok then act else again (.compLoop e d (.ref it) (.ref D) Y.env)))
  (h:CA J g tf ta (o++caps) acc H Q) :
  aaV (model Y.prog Y.w) Y.A (.compLoop e d (.ref it) (.ref D) Y.env) (λr s'=>r=.ok .next/\∃o' H' fJ,oH Y D nt caps pins o' H' s' fJ/\Q (o'++caps) fJ H') s:=by
 obtain⟨W,⟨m0,w0⟩,turn⟩:=h;have lW:∀{H':Hp} {pl:List (Addr×Obj)},(∀b∈fp,H' b=none)->(∀p∈pl,p.1∉fp)->∀b∈fp,fT Y (pins++pl) H' b:=λ{H' pl} hn hp b hb=>by
  obtain⟨_,f1,oI,f3,f4,f5⟩:=hf b hb;refine⟨hn b hb,f1,oI,f3,f4,λp tO=>?_⟩
  rcases XX.mp tO with z|z
  ·exact f5 p (X8 _ z)
  ·rcases XX.mp z with z|z
   ·exact f5 p (WU _ z)
   ·exact λe=>hp p z (e ▸ hb)
 refine codeAny_loop hq (λn s'=>∃i acc o H',oH Y D nt caps pins o H' s' acc/\tn i s'.heap/\(∀b∈fp,H' b=none)/\W i n (o++caps) acc H') (λn s3 hJ=>?_) m0 ⟨0,acc,o,H,B,UC,λb hb=>(hf b hb).1,w0⟩;obtain⟨i,acc,o3,H3,B3,mI,mJ,w3⟩:=hJ;refine Tu (model Y.prog Y.w) _ _ _ _ ?_;rw[ht];obtain⟨oD,ys,nn,ho,eo,mW,tQ⟩:=ds.obj B3;have oJ:∀p∈[(D,oD)],p.1∉fp:=λp hp=>by
  have e:p=(D,oD):=by simpa using hp
  subst e;exact lV
 have qG:∀{pl:List (Addr×Obj)} {cN:St} {H':Hp} {s':WI},Inv Y (pins++[(D,oD)]++pl) cN H' s'->s'.heap.PlainList D ys/\H' D=none:=λ{pl cN H' s'} I'=>by
  have q:=I'.pin (D,oD) (WU _ (X8 _ (WU _ (by simp))));exact⟨⟨nn,by rw[<- eo];exact q.1⟩,q.2.1⟩
 refine WD (Zg (WD ?_))
 rcases turn i n _ acc H3 w3 with ⟨stop,q⟩ | ⟨go,N',hN,step⟩
 ·have hd:=T.done Y rfl rfl rfl hc i _ s3 _ H3 (λ_ _=>False) tQ (lW mJ oJ) mI stop
  refine aK hd λr s4 h4=>?_;obtain⟨hr,I4⟩:=h4;subst hr;obtain⟨Bc,n4⟩:=qG (pl:=[]) (by simpa using I4);exact WG ⟨rfl,o3,H3,acc,⟨I4.kW,B3.len,⟨ys,Bc,mW⟩,n4,B3.kD⟩,q⟩
 ·have hd:=T.item Y rfl rfl rfl hc i _ s3 _ H3 (λ_ _=>False) tQ (lW mJ oJ) mI go
  refine aK hd λr s4 h4=>?_;obtain⟨u,hr,h4⟩:=h4;subst hr;refine WD (aK h4 λ_ s5 h5=>?_);obtain⟨x,H5,I5,r5,y5,jQ,sM⟩:=h5;have sO:=I5.pinned (lW sM oJ) (T.obj _ _ jQ);have q5:=hG _ s5 _ H5 x u _ sO r5 (fM x o3 _ H5 _ B3.len (step x H5 y5));rw[hx] at q5;refine WD (aK q5 λ_ s6 h6=>?_);obtain⟨qH,H6,I6,⟨o6,tR,wD⟩,q6⟩:=h6;have q7:=hF _ s6 qH H6 _ I6 q6;rw[hx] at q7;refine WD (aK q7 λb s7 h7=>?_);obtain⟨H7,I7,q7⟩:=h7;subst wD;obtain⟨w9,n7⟩:=qG I7;have Bd:Inv Y (pins++me fp s5.heap) (o6++caps) H7 s7:=I7.kZ λp hp=>by
   rcases XX.mp hp with z|z
   ·exact I7.pin p (WU _ (X8 _ (X8 _ z)))
   ·exact I7.pin p (WU _ (WU _ z))
  have so:∀{cN:St} {H':Hp} {s':WI},Inv Y (pins++me fp s5.heap) cN H' s'->tn (i+1) s'.heap/\∀b∈fp,H' b=none:=λ{cN H' s'} I'=>by
   refine⟨T.keep _ _ _ jQ λb hb o e=>(I'.pin (b,o) (WU _ (WU _ (pw hb e)))).1,λb hb=>?_⟩;obtain⟨o,e,_⟩:=T.obj _ _ jQ b hb;exact(I'.pin (b,o) (WU _ (WU _ (pw hb e)))).2.1
  cases b with
  |false =>
   rw[if_neg WV] at q7;obtain⟨m',hm,w7⟩:=hN _ _ _ q7;obtain⟨t7,f7⟩:=so Bd;exact WG ⟨rfl,m',hm,i+1,acc,o6,H7,⟨Bd.kW,tR,⟨ys,w9,mW⟩,n7,B3.kD⟩,t7,f7,w7⟩
  |true =>
   rw[if_pos rfl] at q7;have UD:DS Y D (pins++me fp s5.heap):=⟨ds.loc,ds.fs,ds.new,ds.cell,λp hp=>by
    rcases XX.mp hp with z|z
    ·exact ds.pin p (X8 _ z)
    ·rcases XX.mp z with z|z
     ·exact ds.pin p (WU _ z)
     ·exact λe=>lV (e ▸ (DE z).1)⟩
   refine aK (hA _ o6 H7 s7 acc N' UD ⟨Bd,tR,⟨ys,w9,mW⟩,n7,B3.kD⟩ q7) λfn s8 h8=>?_;obtain⟨UE,o8,H8,Tv,B8,q8⟩:=h8;subst UE;obtain⟨m',hm,w8⟩:=hN _ _ _ q8;obtain⟨t8,f8⟩:=so B8.inv;exact⟨rfl,m',hm,i+1,Tv,o8,H8,⟨B8.inv.kW,B8.len,B8.lst,B8.free,B8.kD⟩,t8,f8,w8⟩
end
end L2
namespace L2
open PySem PySem.Spec PyProof.Rows
theorem GH {P:Xf} {w:World} {el:Expr} {gens:List Comprehension} {sc:Scope} {ps:Pos} {d:Nat} {ia av:Value} {ce:Env} (A:Xv) (Q':Fin->WI->Prop) (E':Value->WI->Prop) (s':WI)
  (h:wpAny (model P w) A (compTurn (.ListComp el gens sc ps) d ia av ce) Q' (λ_ _=>False) s'):wpAny (model P w) (A.under (.compLoop (.ListComp el gens sc ps) d ia av ce)) ((model P w).den (.compLoop (.ListComp el gens sc ps) d ia av ce)) Q' E' s':=by
 show wpAny _ A ((compTurn (.ListComp el gens sc ps) d ia av ce).onRaise (λx=>do noteFrame x ce;theTreesLotGoes x)) _ _ s'
 exact wpAny_noted (Yy h (λ_ _ q=>q) λ_ _ z=>z.elim)
theorem Nc {P:Xf} {w:World} {A:Xv} {R:Result->WI->Prop} {s:WI} {el target iter:Expr} {ifs:List Expr} {gens:List Comprehension} {sc:Scope} {ps:Pos} {d:Nat} {it acc:Value} {env:Env} (hd:gens[d]?=some ⟨target,iter,ifs,0⟩)
  (h0:aaV (model P w) A (.compLoop (.ListComp el gens sc ps) d it acc env) R s)
  (h:wpAny (model P w) A (pyIter it) (λjW s'=>aaV (model P w) A (.compLoop (.ListComp el gens sc ps) d jW acc env) R s') (λ_ _=>False) s) :
  aaV (model P w) A (.compStart (.ListComp el gens sc ps) d it acc env) R s:=by
 refine aaZ ?_
 show wpAny _ _ ((compStart (.ListComp el gens sc ps) d it acc env).onRaise (λx=>do noteFrame x env;aaU theWindowsPlace)) _ _ s
 refine wpAny_notedAt ?_;have hV:(clausesOf (.ListComp el gens sc ps))[d]?=some ⟨target,iter,ifs,0⟩:=hd;unfold compStart;rw[hV];show wpAny _ _ (ask >>= _) _ _ s;refine WD (YX (wpAny_ite ?_));split
 ·first
   |exact WD (WG (WG (And.intro rfl h0)))
   |exact WG (And.intro rfl h0)
 ·refine WD (YV ?_)
  show wpAny _ _ (aaU iter.pos >>= _) _ _ s;exact WD (Zg (WD (Yy h (λjW s' h'=>WG (And.intro rfl h')) λ_ _ x=>x.elim)))
section
variable {Y:Cx} {D:Addr} {nt:Nat} {caps:St}
theorem uV {el tg src:Expr} {gens:List Comprehension} {sc:Scope} {ps:Pos} {tests:List Expr} {d:Nat} {wi:TI} {g:TG} {tf:TT} {ta:iA} {act:Addr->Sem abc} {c:Code} (hx:Y.xe=λ_ _=>False) (hc:Y.calm=true) (hd:gens[d]?=some ⟨tg,src,tests,0⟩)
  (hi:PI Y tg src wi) (hG:PG Y tg g) (fM:lS g nt) (hF:PF Y tests tf) (hA:∀it:Addr,sm Y D nt caps (.compLoop (.ListComp el gens sc ps) d (.ref it) (.ref D) Y.env) (act it) ta)
  (ht:∀it:Addr,compTurn (.ListComp el gens sc ps) d (.ref it) (.ref D) Y.env=(do
   aaU src.pos
   match <- Zy (.ref it) with
   |none=>pure (.done .next)
   |some v =>
    Y8 tg (.ref it) v
    aaT tg Y.env v
    let mut ok:=true
    for c in tests do
     if ok then ok <- isTrue c Y.env (eval c Y.env)
    if ok then act it else again (.compLoop (.ListComp el gens sc ps) d (.ref it) (.ref D) Y.env)))
  (hs:∀x,Xo src Y.env x=pure x) :
  sm Y D nt caps c (do
   let x <- eval src Y.env
   aaU src.pos
   let x <- Xo src Y.env x
   let _ <- runOwn (.compStart (.ListComp el gens sc ps) d (<- aai [x] (pyIter x)) (.ref D) Y.env) Y.env
   again c) (Hq wi g tf ta):=by
 intro pins o H s acc Q ds B h;obtain⟨oD,ys,nn,ho,eo,rv,I⟩:=ds.obj B;have q:=hi _ s _ H _ I h;rw[hx] at q;refine WD (aK q λv s1 h1=>WD (Zg ?_));rw[hs];refine WD (WG (WD (Yf (aK h1 λia s2 h2=>?_))));obtain⟨it,fp,tn,J,H2,e,I2,T,js,f2,ca⟩:=h2;subst e;have pD:=I2.pin (D,oD) (WU _ (WU _ (by simp)));have lV:D∉fp:=λz=>(f2 D z).2.2.2.2.2 (D,oD) (WU _ (WU _ (by simp))) rfl;have oI:∀b∈fp,fT Y pins H2 b:=λb hb=>by
  obtain⟨a1,a2,a3,a4,a5,a6⟩:=f2 b hb;refine⟨a1,a2,a3,a4,a5,λp hp=>a6 p ?_⟩
  rcases XX.mp hp with z|z
  ·exact X8 _ z
  ·exact WU _ (X8 _ z)
 have B2:oH Y D nt caps pins o H2 s2 acc:=⟨I2.kW,B.len,⟨ys,⟨nn,by rw[<- eo];exact pD.1⟩,rv⟩,pD.2.1,B.kD⟩;have loop:=Dr (e:=.ListComp el gens sc ps) (d:=d) hx hc T js oI lV hG fM hF (hA it) ds B2 rfl (λ_ A Q' E' s' h=>GH A Q' E' s' h) (ht it) ca;refine WD (wpAny_runOwn ?_);refine Ze (Nc hd loop (T.self _ _ _ _ _ js loop)) λr s' hr=>?_;obtain⟨e,q⟩:=hr;subst e;exact WG ⟨rfl,q⟩
end
noncomputable def yW (wi:TI) (nt:Nat) (cap:List Nat) (g:TG) (tf:TT) (ta:iA):TE:=fun σ H Q=>wi σ H λJ H1=>CA J g tf ta (WM nt none++mm cap σ) [] H1 λ_ acc H2=>∀D,H2 D=none->Q (.ref D) (upd H2 D (.lst acc))
section
variable {X:Cx}
theorem x6 {el tg src:Expr} {tests:List Expr} {rest:List Comprehension} {sc:Scope} {ps:Pos} {N:List Str} {nt:Nat} {cap:List Nat} {wi:TI} {g:TG} {tf:TT} {ta:iA} {act:Env->Addr->Addr->Sem abc} (hc:X.calm=true) (S:pQ X sc N nt cap) (fM:lS g nt) (hi:PI X tg src wi)
  (hY:∀(cl:List (Str×Addr)) (C:Addr) (s:WI) (H:Hp) (ex:List Addr) (pn:List (Addr×Obj)),PG (cM X N sc cl C s H ex pn) tg g/\PF (cM X N sc cl C s H ex pn) tests tf/\∀D caps it,sm (cM X N sc cl C s H ex pn) D nt caps (.compLoop (.ListComp el (⟨tg,src,tests,0⟩::rest) sc ps) 0 (.ref it) (.ref D) (compEnvC sc cl C X.env)) (act (compEnvC sc cl C X.env) D it) ta)
  (ht:∀(it D:Addr) (ce:Env),compTurn (.ListComp el (⟨tg,src,tests,0⟩::rest) sc ps) 0 (.ref it) (.ref D) ce=(do
   aaU src.pos
   match <- Zy (.ref it) with
   |none=>pure (.done .next)
   |some v =>
    Y8 tg (.ref it) v
    aaT tg ce v
    let mut ok:=true
    for c in tests do
     if ok then ok <- isTrue c ce (eval c ce)
    if ok then act ce D it else again (.compLoop (.ListComp el (⟨tg,src,tests,0⟩::rest) sc ps) 0 (.ref it) (.ref D) ce)))
  (hs:∀x,Xo src X.env x=pure x:=by intro _;rfl):PE X (.ListComp el (⟨tg,src,tests,0⟩::rest) sc ps) (yW wi nt cap g tf ta):=by
 intro pins s σ H Q I h;obtain⟨cl,zy,dM⟩:=Gp (env:=X.env) (sc:=sc) λn hn=>I.ok.has n (S.frees _ hn rfl).2;rw[eval_ListComp];refine wpAny_comprehension_free (use:=none) rfl hs zy S.kind S.names (aK (hi pins s σ H _ I h) λxv s1 h1=>aK h1 λia s2 h2=>?_);obtain⟨it,fp,tn,J,H2,e,I2,T,js,f2,ca⟩:=h2;subst e;refine W8 (wpAny_newFunctionEnv S.Gq (by intro y hy;simp at hy) (λh3 jO qr=>?_) S.kind);dsimp only at jO qr |-;generalize hD:s2.heap.objs.size=D at jO qr |-;generalize hG:s2.heap.push { cls:=.type "list",dict:=none,data:=.seq ([]:List Value).toArray }=G at jO qr |-;generalize Be:G.objs.size=C at jO qr |-;have hC:C=D+1:=by rw[<- Be,<- hG,XU,hD]
 have oK:D≠C:=by omega
 have gA:s2.heap.objs.size<=D:=Nat.le_of_eq hD;have hU:s2.heap.objs.size<=C:=by omega
 have old:∀b o,s2.heap.get? b=some o->h3.get? b=some o:=λb o e=>qr.extBut b o (Xe (WL (WS e) hU)) (WE _ (hG ▸ WE _ e));have km:h3.PlainList D #[]:=⟨_,qr.extBut _ _ oK (WE _ (hG ▸ hD ▸ WN _ rfl))⟩;have i6:∀b∈fp,b<s2.heap.objs.size:=λb hb=>by
  obtain⟨o,e,_⟩:=T.obj _ _ js b hb;exact WS e
 have IB:=I2.block (t':=s2.toks+([]:List (Str×Value)).length) S dM f2 i6 old hU ⟨_,jO⟩;have Bf:D∉gR X.stack:=λz=>by
  rcases W3.mp (I2.lh D z) with e|e
  ·exact absurd (WL I2.lt gA) (by rw[e];exact Xk _)
  ·exact I2.r6 gA e
 have lV:D∉fp:=λz=>absurd (WL (i6 D z) gA) (Xk _);have yX:∀x c,cl.lookup x=some c->c≠D:=λx c e z=>by
  obtain⟨v,o,ho,_⟩:=I2.cell x c ((dM x c).mp e).2;exact absurd (WL (WS ho) (by rw[z];exact gA)) (Xk _)
 have zz:∀p∈X.pn++pins,p.1≠D:=λp hp z=>absurd (WL (WS (I2.pin p hp).1) (by rw[z];exact gA)) (Xk _);have fin:∀(s':WI) (τ:St) (H':Hp) (acc:List V) (ys:Array Value),Inv (cM X N sc cl C s2 H2 fp (X.pn++pins)) [] τ H' s'->s'.heap.PlainList D ys->Vals acc ys.toList->H' D=none->acc.length<=WX->(∀D,H' D=none->Q (.ref D) (upd H' D (.lst acc))) ->
   compPost (model X.prog X.w) X.A X.xe none (EP X pins σ Q) (.ref D) C (.ok .next) s':=by
  intro s' τ H' acc ys I' pl rv hn hz q;obtain⟨m,hm,_⟩:=id I'.loc;refine⟨m,hm,λh' sb=>?_⟩;have Ao:cA X.prog X.w H' h':=I'.aM.but I'.free sb;obtain⟨n,ho⟩:=pl;have dZ:h'.get? D=some { cls:=.type "list",data:=.seq ys n }:=(sb.2 D oK).trans ho;have new:dD X.prog X.w (upd H' D (.lst acc)) h' D (.lst acc):=⟨hz,ys.toList,n,rv,by simpa using dZ⟩;have u:=(I'.base.but hU sb).adopt (o:=.lst acc) gA hn
  refine⟨.ref D,upd H' D (.lst acc),I2.zp (s':={ s' with heap:=h' }) (ch:=fp) I'.os u (Ao.adopt hn new) I'.bare (λb hb=>?_),rfl,q D hn⟩
  obtain⟨_,f1,_,f3,f4,f5⟩:=f2 b hb;exact⟨f3,f1,f4,f5⟩
 have lW:∀b∈fp,fT (cM X N sc cl C s2 H2 fp (X.pn++pins)) [] H2 b:=λb hb=>by
  obtain⟨f0,f1,oI,f3,f4,f5⟩:=f2 b hb;refine⟨f0,Xe (WL (i6 b hb) hU),λz=>?_,.inl hb,λx c e=>f4 x c ((dM x c).mp e).2,λp tO=>?_⟩
  ·rcases W3.mp (I2.lh b z) with e|e
   ·exact f1 e
   ·exact oI e
  ·exact f5 p (by simpa using tO)
 obtain⟨Bg,Bh,UG⟩:=hY cl C s2 H2 fp (X.pn++pins);have loop:=Dr (Y:=cM X N sc cl C s2 H2 fp (X.pn++pins)) (D:=D) (nt:=nt) (caps:=mm cap σ) (e:=.ListComp el (⟨tg,src,tests,0⟩::rest) sc ps) (d:=0) (pins:=[]) (o:=WM nt none) (acc:=[]) rfl hc T
  (T.keep _ _ _ js λb _ o e=>old b o e) lW lV Bg fM Bh (UG D _ it) ⟨oK,Bf,gA,yX,λp hp=>zz p (by simpa using hp)⟩ ⟨IB,by simp,⟨#[],km,.nil⟩,I2.aM.fresh gA,X1 _⟩ rfl (λ_ A Q' E' s' h=>GH A Q' E' s' h) (ht it D _) ca
 have Hr:=Ze loop (R':=compPost (model X.prog X.w) X.A X.xe none (EP X pins σ Q) (.ref D) C) λr s' hr=>by
  obtain⟨e,o',H',fJ,B',q'⟩:=hr;subst e;obtain⟨ys,pl,rv⟩:=B'.lst;exact fin s' _ H' fJ ys B'.inv pl rv B'.free B'.kD q'
 exact codeAny_compStart_list Hr (T.self _ _ _ _ _ (T.keep _ _ _ js λb _ o e=>old b o e) Hr)
end
end L2
namespace DI
open PySem L2
theorem iL:XA "isinstance"=some (.builtin "isinstance"):=by decide +kernel
theorem RS:XA "int"=some (.type "int"):=by decide +kernel
theorem yY:XA "bool"=some (.type "bool"):=by decide +kernel
theorem gn:XA "tuple"=some (.type "tuple"):=by decide +kernel
theorem rF:XA "list"=some (.type "list"):=by decide +kernel
theorem RT:XA "set"=some (.type "set"):=by decide +kernel
theorem v5:XA "all"=some (.builtin "all"):=by decide +kernel
theorem Hs:XA "any"=some (.builtin "any"):=by decide +kernel
theorem lK:XA "len"=some (.builtin "len"):=by decide +kernel
theorem GI:XA "repr"=some (.builtin "repr"):=by decide +kernel
theorem Ht:XA "max"=some (.builtin "max"):=by decide +kernel
theorem RU:XA "min"=some (.builtin "min"):=by decide +kernel
theorem x8:XA "sorted"=some (.builtin "sorted"):=by decide +kernel
structure Gd (K:Frag) (mg:Str->Option Value) (x:Str) (st:Stmt) (ps:List Str) (f:Addr) (fd:Xg):Prop where
 mg:mg x=some (.ref f)
 fn:ot K x x st f fd
 b:Binds K fd ps []
theorem RV {P:Xf} {w:World} {K:Frag} {mg:Str->Option Value} {base:Heap} {k:Nat} {f:Addr} {fd:Xg} {ps:List Str} {g:List D->ae->Res D} (h:∀ds s,g ds s=none):aW P w K mg base bb k f fd ps (bu K g) :=
 ⟨λvs H Q E h'=>by obtain⟨w,ds,_,_,_,q⟩:=h';rw[h] at q;exact q.elim,λA outer s H args us vs Q E _ _ _ _ h'=>by obtain⟨w,ds,_,_,_,q⟩:=h';rw[h] at q;exact q.elim⟩
noncomputable def v7 (K:Frag):Sp:=λvs H Q _=>∃(a:Addr) (ns:List Int),vs=[.ref a]/\ba K H a (ns.map V.int)/\ns.length<=63/\∀H',Q (.bl true) H'
theorem Qr {P:Xf} {w:World} {K:Frag} {mg:Str->Option Value} {base:Heap} {k:Nat} {f:Addr} {fd:Xg} {x:Str} {g:List D->ae->Res D} (F:aW P w K mg base bb k f fd [x] (bu K g))
  (h:∀ns:List Int,ns.length<=63->∃s,g [.bQ ns] []=some (.ok (.bl true),s)):aW P w K mg base bb k f fd [x] (v7 K):=F.imp λvs H Q E ⟨a,ns,e,hS,hl,q⟩=>by
 subst e;obtain⟨s,hs⟩:=h ns hl;have nz:∀b,¬ (⟨[],[],H⟩:Wd).Z b:=λb ⟨k,c,e1,_,_⟩=>by simp at e1
 refine⟨⟨[],[],H⟩,[.bQ ns],rfl,⟨rfl,aa7,λk a e=>by simp at e,λk a c e=>by simp at e⟩,au.one ⟨a,rfl,?_⟩,?_⟩
 ·rcases hS with hS|hS
  ·exact .inl ⟨nz a,hS⟩
  ·exact .inr hS
 ·show Out K bR _ (g [.bQ ns] []) _
  rw[hs];intro w' _ _ _ v dv;have e:v=.bl true:=dv;subst e;exact q _
end DI
namespace DI
open PySem L2
noncomputable def fX (g:D->Env->Option Env) (t:Env->ae->Res Bool) (act:Env->ae->Res (List D)) (jJ:Env):List D->ae->Res (List D)
 | [],s=>ok [] s
 |d::ds,s=>match g d jJ with
  |none=>none
  |some env=>ar (ne (t env s)) λb s=>if b=true then ar (ne (act env s)) λxs s=>ar (fX g t act jJ ds s) λys s=>ok (xs++ys) s
   else fX g t act jJ ds s
noncomputable def emit (f:Env->ae->Res D):Env->ae->Res (List D):=λenv s=>ar (f env s) λx s=>ok [x] s
noncomputable def more (it:Env->ae->Res (List D)) (g:D->Env->Option Env) (t:Env->ae->Res Bool) (act:Env->ae->Res (List D)):Env->ae->Res (List D):=λenv s=>ar (it env s) λds s=>fX g t act env ds s
noncomputable def rG (nt:Nat) (cap:List Nat) (it:Env->ae->Res (List D)) (g:D->Env->Option Env) (t:Env->ae->Res Bool) (act:Env->ae->Res (List D)):Env->ae->Res D:=λenv s =>
 ar (it env s) λds s=>ar (ne (fX g t act (WM nt none++dE cap env) ds s)) λxs s=>gp xs (ok (.lst xs) s)
def Sl (g:D->Env->Option Env) (sl:List Nat):Prop:=∀d env aC,g d env=some aC->aC.length=env.length/\∀i,i∉sl->aC[i]?=env[i]?
theorem rl (i:Nat):Sl (gN i) [i]:=λd env aC h=>by
 have e:env.set i (some d)=aC:=Option.some.inj h;subst e;refine⟨XZ ..,λj hj=>?_⟩;rw[Xa (λz=>hj (by simp[z]))]
theorem Hu:∀(is:List Nat) (ds:List D) (env aC:Env),gO (is.map gN) ds env=some aC->aC.length=env.length/\∀i,i∉is->aC[i]?=env[i]?
 | [],[],env,aC,h=>by
  have e:env=aC:=Option.some.inj h;rw[e];exact⟨rfl,λ_ _=>rfl⟩
 | [],_::_,_,_,h=>by cases h
 |_::_,[],_,_,h=>by cases h
 |j::is,d::ds,env,aC,h=>by
  have h':gO (is.map gN) ds (env.set j (some d))=some aC:=h;obtain⟨h1,h2⟩:=Hu is ds _ aC h';refine⟨by rw[h1,XZ],λi hi=>?_⟩;rw[h2 i (λz=>hi (WT _ z)),Xa (λz=>hi (by rw[z];exact WR ..))]
theorem vE (is:List Nat):Sl (gT (is.map gN)) is:=λd env aC h=>by
 cases d with
 |tup ds=>exact Hu is ds env aC h
 |_=>cases h
theorem len_same {g:D->Env->Option Env} {sl:List Nat} {d:D} {env aC:Env} (hs:Sl g sl) (hg:g d env=some aC):aC.length=env.length:=(hs d env aC hg).1
def gg (sl:List Nat) (env:Env):Prop:=∀i∈sl,∀d,env[i]?≠some (some d)
theorem bT.back {K:Frag} {w:Wd} {env aC:Env} {σ:St} {g:D->Env->Option Env} {sl:List Nat} {d:D} (hs:Sl g sl) (hf:gg sl env) (hg:g d env=some aC) (hl:env.length=σ.length) (h:bT K w aC σ):bT K w env σ :=
 ⟨hl,λi x e=>by
  by_cases hi:i∈sl
  ·exact absurd e (hf i hi x)
  ·exact h.val i x (by rw[(hs d env aC hg).2 i hi];exact e)⟩
def qf (K:Frag) (Pre:Env->Prop) (ta:iA) (act:Env->ae->Res (List D)):Prop:=∀(w:Wd) (env:Env) (τ:St) (acc:List V) (accD xs:List D) (s':ae) (Q:St->List V->Hp->Prop),Pre env->aO K w->bT K w env τ->au K w accD acc ->
 act env w.aG=some (.ok xs,s')->acc.length+xs.length<=WX->(∀w' cN vs,Le K w w'->aO K w'->w'.aG=s'->bT K w' env cN->au K w' (accD++xs) vs->Q cN vs w'.H)->ta τ w.H acc Q
theorem pG {α β:Type} {r:Res α} {k:α->ae->Res β} {b:β} {s':ae} (h:ar r k=some (.ok b,s')):∃a s,r=some (.ok a,s)/\k a s=some (.ok b,s'):=by
 match r,h with
 |some (.ok a,s),h=>exact⟨a,s,rfl,h⟩
theorem yB {α:Type} {r:Res α} {a:α} {s:ae} (h:ne r=some (.ok a,s)):r=some (.ok a,s):=by
 match r,h with
 |some (.ok b,s2),h=>exact h
theorem xw {K:Frag} {f:Env->ae->Res D}:qf K (λ_=>True) (Ho (tE K bR f)) (emit f):=by
 intro w env τ acc accD xs s' Q _ S eo da h hl hQ;obtain⟨x,s1,h1,h2⟩:=pG h;cases h2;refine⟨by simpa using hl,w,env,rfl,S,eo,?_⟩;rw[h1];intro w' le S' e' v dv;exact hQ w' τ (acc++[v]) le S' e' (eo.le le) (au.append (le.all da) (au.one dv))
theorem xI {K:Frag} {Pre:Env->Prop} {g0:TG} {g:D->Env->Option Env} {nt:Nat} {sl:List Nat} {t:Env->ae->Res Bool} {act:Env->ae->Res (List D)} {ta:iA} {env:Env} {w1:Wd} {J:It} {ds xs accD:List D} {s':ae} {τ:St} {acc:List V} {Q:St->List V->Hp->Prop}
  (T:Tg K g0 g nt) (hs:Sl g sl) (hf:gg sl env) (hp:∀d aC,g d env=some aC->Pre aC) (hA:qf K Pre ta act) (hJ:oA K w1 J ds) (S1:aO K w1) (eo:bT K w1 env τ) (da:au K w1 accD acc)
  (h:fX g t act env ds w1.aG=some (.ok xs,s')) (hl:acc.length+xs.length<=WX) (hQ:∀w' cN vs,Le K w1 w'->aO K w'->w'.aG=s'->bT K w' env cN->au K w' (accD++xs) vs->Q cN vs w'.H) :
  CA J g0 (tT K bR t) ta τ acc w1.H Q:=by
 refine⟨λi m τ acc H'=>m=ds.length-i/\i<=ds.length/\∃w' accD xs,w'.H=H'/\Le K w1 w'/\aO K w'/\bT K w' env τ/\au K w' accD acc/\fX g t act env (ds.drop i) w'.aG=some (.ok xs,s')/\acc.length+xs.length<=WX /\
   (∀w2 cN vs,Le K w' w2->aO K w2->w2.aG=s'->bT K w2 env cN->au K w2 (accD++xs) vs->Q cN vs w2.H),
  ⟨ds.length,rfl,X1 _,w1,accD,xs,rfl,Le.refl _,S1,eo,da,h,hl,hQ⟩,?_⟩
 rintro i m τ acc H' ⟨rfl,hi,w',accD,xs,rfl,l',S',gH,xa,h',mY,mR⟩;by_cases bp:i<ds.length
 ·right
  obtain⟨fM,hy⟩:=(hJ w' l' S' i).1 _ (WQ bp);rw[Y3 bp] at h';simp only[fX] at h'
  cases hg:g ds[i] env with
  |none=>rw[hg] at h';cases h'
  |some gP =>
   rw[hg] at h';obtain⟨b,s2,hb,h2⟩:=pG h';have hb:=yB hb;refine⟨fM,fun τ acc H2=>∃w' accD xs,w'.H=H2/\Le K w1 w'/\aO K w'/\bT K w' env τ/\au K w' accD acc/\fX g t act env (ds.drop (i+1)) w'.aG=some (.ok xs,s')/\acc.length+xs.length<=WX /\
    (∀w2 cN vs,Le K w' w2->aO K w2->w2.aG=s'->bT K w2 env cN->au K w2 (accD++xs) vs->Q cN vs w2.H),fun ou mB H2 q=>⟨ds.length-(i+1),by omega,rfl,bp,q⟩,λx H3 y=>?_⟩
   obtain⟨w2,rfl,l2,S2,es,dv⟩:=hy x H3 y;refine T.imp _ _ _ _ ⟨w2,env,ds[i],gP,rfl,S2,gH.le l2,dv,hg,fun i4 i8=>⟨w2,gP,rfl,S2,i8,?_⟩⟩;have hlen:∀{f6:St},f6.length=i4.length->gP.length=f6.length:=λe=>by rw[i8.len,e]
   have el:env.length=gP.length\/True:=.inr trivial;rw[es,hb];intro w3 l3 S3 e3
   cases b with
   |true =>
    rw[if_pos rfl] at h2 |-;obtain⟨ys,s3,xb,h3⟩:=pG h2;have xb:=yB xb;obtain⟨zs,s4,hz,h4⟩:=pG h3;cases h4;rw[<- e3] at xb;refine hA w3 gP i4 acc accD ys s3 _ (hp _ _ hg) S3 (i8.le l3) ((l2.trans l3).all xa) xb (by rw[Xw] at mY;omega) λw4 Wr vs l4 S4 e4 IZ Ic=>?_;have lv:=Ic.length;refine⟨w4,accD++ys,zs,rfl,l'.trans (l2.trans (l3.trans l4)),S4,IZ.back hs hf hg ?_,Ic,by rw[e4];exact hz,?_,λw5 Bi Bj l5 S5 e5 Bk Ap=>mR w5 Bi Bj (l2.trans (l3.trans (l4.trans l5))) S5 e5 Bk (by rw[<- X3];exact Ap)⟩
    ·rw[<- IZ.len]
     exact(len_same hs hg).symm
    ·rw[Xw] at mY lv
     have:=xa.length;omega
   |false =>
    rw[if_neg WV] at h2 |-;exact⟨w3,accD,xs,rfl,l'.trans (l2.trans l3),S3,(i8.le l3).back hs hf hg (by rw[<- i8.len];exact(len_same hs hg).symm),(l2.trans l3).all xa,by rw[e3];exact h2,mY,λw5 Bi Bj l5 S5 e5 Bk Ap=>mR w5 Bi Bj (l2.trans (l3.trans l5)) S5 e5 Bk Ap⟩
 ·left
  have e:i=ds.length:=by omega
  subst e;rw[aaJ] at h';cases h';exact⟨(hJ w' l' S' _).2 (Nat.le_refl _),mR w' τ acc (Le.refl _) S' rfl gH (by rw[Yb];exact xa)⟩
theorem uB {K:Frag} {Pre Pre':Env->Prop} {g0:TG} {g:D->Env->Option Env} {nt:Nat} {sl:List Nat} {it:Env->ae->Res (List D)} {t:Env->ae->Res Bool} {act:Env->ae->Res (List D)} {ta:iA} (T:Tg K g0 g nt) (hs:Sl g sl) (hA:qf K Pre ta act)
  (h1:∀env,Pre' env->gg sl env) (h2:∀d env aC,Pre' env->g d env=some aC->Pre aC):qf K Pre' (Hq (dq K bR it) g0 (tT K bR t) ta) (more it g t act):=by
 intro w env τ acc accD xs s' Q hp S eo da h hl hQ;obtain⟨ds,s1,hd,h3⟩:=pG h;refine⟨w,env,rfl,S,eo,?_⟩;rw[hd];intro w1 l1 S1 e1 J hJ;exact xI T hs (h1 env hp) (λd aC hg=>h2 d env aC hp hg) hA hJ S1 (eo.le l1) (l1.all da) (by rw[e1];exact h3) hl λw' cN vs l' S' e' gH aw=>hQ w' cN vs (l1.trans l') S' e' gH aw
theorem DZ {K:Frag} {Ξ:Wd->bq->Prop} {Pre:Env->Prop} {nt:Nat} {cap:List Nat} {it:Env->ae->Res (List D)} {g0:TG} {g:D->Env->Option Env} {sl:List Nat} {t:Env->ae->Res Bool} {act:Env->ae->Res (List D)} {ta:iA} (T:Tg K g0 g nt) (hs:Sl g sl) (i7:∀i∈sl,i<nt) (hA:qf K Pre ta act)
  (hp:∀d caps aC,g d (WM nt none++caps)=some aC->Pre aC) (σ:St) (H:Hp) (Q:VK) :
  tE K Ξ (rG nt cap it g t act) σ H Q->yW (dq K Ξ it) nt cap g0 (tT K bR t) ta σ H Q:=by
 rintro ⟨w,env,rfl,S,eo,h⟩;refine⟨w,env,rfl,S,eo,(Out.ar h).mono λw1 ds l1 S1 h1 J hJ=>?_⟩
 cases hr:fX g t act (WM nt none++dE cap env) ds w1.aG with
 |none=>rw[hr] at h1;exact h1.elim
 |some r =>
  obtain⟨r,s'⟩:=r;rw[hr] at h1
  cases r with
  |error x=>exact h1.elim
  |ok xs =>
   have h1:Out K Ξ w1 (gp xs (ok (D.lst xs) s')) (λw' d=>∀v,DV K w' d v->Q v w'.H):=h1;obtain⟨hz,h1⟩:=ng h1;have eb:=(eo.le l1).block nt cap (WM nt none) (by simp);refine xI T hs (λi hi d e=>?_) (λd aC hg=>hp d _ aC hg) hA hJ S1 eb (accD:=[]) rfl hr (by simpa using hz) λw' cN vs l' S' e' gH aw p oM=>?_
   ·rw[W0 (by simpa using i7 i hi),X5,if_pos (i7 i hi)] at e
    cases e
   ·exact h1 (w'.grow p (.lst vs)) (l'.trans (Fw.grow oM).le) (S'.grow oM) e' (.ref p) ⟨p,vs,rfl,⟨(show ¬ w'.Z p from nv S' oM),dP⟩,(Fw.grow oM).le.all aw⟩
theorem gg.of {nt:Nat} {g:D->Env->Option Env} {sl cC:List Nat} (hs:Sl g sl) (hd:∀i∈cC,i<nt/\i∉sl) {d:D} {caps aC:Env} (hg:g d (WM nt none++caps)=some aC):gg cC aC:=λi hi x e=>by
 obtain⟨h1,h2⟩:=hd i hi;rw[(hs _ _ _ hg).2 i h2,W0 (by simpa using h1),X5,if_pos h1] at e;cases e
theorem gg.on {g:D->Env->Option Env} {sl cC:List Nat} (hs:Sl g sl) (hd:∀i∈cC,i∉sl) {d:D} {env aC:Env} (hf:gg cC env) (hg:g d env=some aC):gg cC aC:=λi hi x e=>by
 rw[(hs _ _ _ hg).2 i (hd i hi)] at e;exact hf i hi x e
section
variable {X:Cx} {Ξ:Wd->bq->Prop} {el tg src gI fF qI nY:Expr} {tests iw rH:List Expr} {sc:Scope} {ps pos:Pos} {N:List Str} {nt:Nat} {cap:List Nat} {it f9 xc:Env->ae->Res (List D)} {gd kG Bl:D->Env->Option Env} {g0 oO I0:TG} {sl cC tU:List Nat} {ft iD Ja:Env->ae->Res Bool} {f:Env->ae->Res D}
noncomputable abbrev GJ (nt:Nat) (cap:List Nat) (it:Env->ae->Res (List D)) (g:D->Env->Option Env) (t:Env->ae->Res Bool) (f9:Env->ae->Res (List D)) (g2:D->Env->Option Env) (t2:Env->ae->Res Bool) (f:Env->ae->Res D):Env->ae->Res D:=rG nt cap it g t (more f9 g2 t2 (emit f))
noncomputable abbrev GK (nt:Nat) (cap:List Nat) (it:Env->ae->Res (List D)) (g:D->Env->Option Env) (t:Env->ae->Res Bool) (f9:Env->ae->Res (List D)) (g2:D->Env->Option Env) (t2:Env->ae->Res Bool) (xc:Env->ae->Res (List D)) (g3:D->Env->Option Env) (t3:Env->ae->Res Bool) (f:Env->ae->Res D):Env->ae->Res D:=rG nt cap it g t (more f9 g2 t2 (more xc g3 t3 (emit f)))
noncomputable def apart (nt:Nat) (sl cC:List Nat):Bool:=cC.all (λi=>decide (i<nt)&&!sl.contains i)
theorem l9 {nt:Nat} {sl cC:List Nat} (h:apart nt sl cC=true):∀i∈cC,i<nt/\i∉sl:=λi hi=>by
 have:=XO.mp h i hi;simp only[WK,decide_eq_true_eq,X4,List.contains_eq_mem,decide_eq_false_iff_not] at this;exact this
noncomputable abbrev Aq (e el:Expr) (d:Nat):PySem.Env->Addr->Addr->Sem abc:=λce D it=>(do let _ <- call (.builtin "list.append") [.ref D,<- eval el ce]:Sem Unit) >>= λ_=>again (.compLoop e d (.ref it) (.ref D) ce)
noncomputable abbrev wF (e src:Expr) (d:Nat):PySem.Env->Addr->Addr->Sem abc:=λce D it=>do
 let x <- eval src ce
 aaU src.pos
 let x <- Xo src ce x
 let _ <- runOwn (.compStart e (d+1) (<- aai [x] (pyIter x)) (.ref D) ce) ce
 again (.compLoop e d (.ref it) (.ref D) ce)
theorem OF (hc:X.calm=true) (S:pQ X sc N nt cap) (T:Tg X.K g0 gd nt) (fG:Sl gd sl) (T2:Tg X.K oO kG nt) (cB:Sl kG cC) (hi:PI X tg src (dq X.K Ξ it))
  (hY:∀(cl:List (Str×Addr)) (C:Addr) (s:WI) (H:Hp) (ex:List Addr) (pn:List (Addr×Obj)),PG (cM X N sc cl C s H ex pn) tg g0/\PF (cM X N sc cl C s H ex pn) tests (tT X.K bR ft)/\PI (cM X N sc cl C s H ex pn) gI fF (dq X.K bR f9)/\PG (cM X N sc cl C s H ex pn) gI oO/\PF (cM X N sc cl C s H ex pn) iw (tT X.K bR iD)/\PE (cM X N sc cl C s H ex pn) el (tE X.K bR f))
  (mS:apart nt sl cC=true:=by rfl) (mT:apart nt [] sl=true:=by rfl)
  (hs:∀x,Xo src X.env x=pure x:=by intro _;rfl) (tV:∀ce x,Xo fF ce x=pure x:=by intro _ _;rfl):PE X (.ListComp el [⟨tg,src,tests,0⟩,⟨gI,fF,iw,0⟩] sc ps) (tE X.K Ξ (GJ nt cap it gd ft f9 kG iD f)) :=
 cD (x6 (act:=wF (.ListComp el [⟨tg,src,tests,0⟩,⟨gI,fF,iw,0⟩] sc ps) fF 0) hc S T.iF hi (λcl C s H ex pn=>by
   obtain⟨y1,y2,y3,y4,y5,y6⟩:=hY cl C s H ex pn;exact⟨y1,y2,λD caps it=>uV (d:=1) (act:=λjW=>Aq (.ListComp el [⟨tg,src,tests,0⟩,⟨gI,fF,iw,0⟩] sc ps) el 1 _ D jW) rfl hc rfl y3 y4 T2.iF y5 (λjW=>xZ rfl y6) (λ_=>rfl) (tV _)⟩) (λ_ _ _=>rfl) hs)
  (DZ (Pre:=gg cC) T fG (λi hi=>(l9 mT i hi).1) (uB T2 cB xw (λ_ h=>h) (λ_ _ _ _ _=>trivial)) λd caps aC hg=>gg.of fG (l9 mS) hg)
theorem OG (hc:X.calm=true) (S:pQ X sc N nt cap) (T:Tg X.K g0 gd nt) (fG:Sl gd sl) (T2:Tg X.K oO kG nt) (cB:Sl kG cC) (T3:Tg X.K I0 Bl nt) (UH:Sl Bl tU) (hi:PI X tg src (dq X.K Ξ it))
  (hY:∀(cl:List (Str×Addr)) (C:Addr) (s:WI) (H:Hp) (ex:List Addr) (pn:List (Addr×Obj)),PG (cM X N sc cl C s H ex pn) tg g0/\PF (cM X N sc cl C s H ex pn) tests (tT X.K bR ft)/\PI (cM X N sc cl C s H ex pn) gI fF (dq X.K bR f9)/\PG (cM X N sc cl C s H ex pn) gI oO/\PF (cM X N sc cl C s H ex pn) iw (tT X.K bR iD) /\
   PI (cM X N sc cl C s H ex pn) qI nY (dq X.K bR xc)/\PG (cM X N sc cl C s H ex pn) qI I0/\PF (cM X N sc cl C s H ex pn) rH (tT X.K bR Ja)/\PE (cM X N sc cl C s H ex pn) el (tE X.K bR f))
  (mS:apart nt sl cC=true:=by rfl) (UI:apart nt sl tU=true:=by rfl) (UJ:apart nt cC tU=true:=by rfl) (mT:apart nt [] sl=true:=by rfl)
  (hs:∀x,Xo src X.env x=pure x:=by intro _;rfl) (tV:∀ce x,Xo fF ce x=pure x:=by intro _ _;rfl) (UK:∀ce x,Xo nY ce x=pure x:=by intro _ _;rfl):PE X (.ListComp el [⟨tg,src,tests,0⟩,⟨gI,fF,iw,0⟩,⟨qI,nY,rH,0⟩] sc ps) (tE X.K Ξ (GK nt cap it gd ft f9 kG iD xc Bl Ja f)) :=
 cD (x6 (act:=wF (.ListComp el [⟨tg,src,tests,0⟩,⟨gI,fF,iw,0⟩,⟨qI,nY,rH,0⟩] sc ps) fF 0) hc S T.iF hi (λcl C s H ex pn=>by
   obtain⟨y1,y2,y3,y4,y5,y6,y7,y8,y9⟩:=hY cl C s H ex pn;exact⟨y1,y2,λD caps it=>uV (d:=1) (act:=λjW=>wF (.ListComp el [⟨tg,src,tests,0⟩,⟨gI,fF,iw,0⟩,⟨qI,nY,rH,0⟩] sc ps) nY 1 _ D jW) rfl hc rfl y3 y4 T2.iF y5 (λjW=>uV (d:=2) (act:=λf9=>Aq (.ListComp el [⟨tg,src,tests,0⟩,⟨gI,fF,iw,0⟩,⟨qI,nY,rH,0⟩] sc ps) el 2 _ D f9) rfl hc rfl y6 y7 T3.iF y8 (λf9=>xZ rfl y9) (λ_=>rfl) (UK _)) (λ_=>rfl) (tV _)⟩) (λ_ _ _=>rfl) hs)
  (DZ (Pre:=λenv=>gg cC env/\gg tU env) T fG (λi hi=>(l9 mT i hi).1) (uB T2 cB (uB (Pre':=gg tU) T3 UH xw (λ_ h=>h) (λ_ _ _ _ _=>trivial)) (λ_ h=>h.1) (λd env aC h hg=>gg.on cB (λi hi=>(l9 UJ i hi).2) h.2 hg)) λd caps aC hg=>⟨gg.of fG (l9 mS) hg,gg.of fG (l9 UI) hg⟩)
end
end DI
namespace L2
open PySem PySem.Spec PyProof.Rows
end L2
namespace HT
open PySem PyProof.Rows
def Ar (A:Xv) (s:WI) (y x:Value) (b:Bool):Prop:=∀(prog:Xf) (w:World) (E:Value->WI->Prop) (Q:Value->WI->Prop),Q (.bool b) s->wpAny (model prog w) A (richCompare .Lt y x) Q E s
inductive iO (A:Xv) (s:WI):List Value->List Value->Bool->Prop where
 |nn:iO A s [] [] false
 |nc (y:Value) (ys:List Value):iO A s [] (y::ys) true
 |cn (x:Value) (xs:List Value):iO A s (x::xs) [] false
 |eq {x y:Value} {xs ys:List Value} {b:Bool}:SeqAt.EqAt A s x y true->iO A s xs ys b->iO A s (x::xs) (y::ys) b
 |lt {x y:Value} {xs ys:List Value} {b:Bool}:SeqAt.EqAt A s x y false->Ar A s x y b->iO A s (x::xs) (y::ys) b
section
open PySem.SeqAt
open PySem.AutoSeq1 (wpAny_loadPart')
open PySem.MeetsSeq PySem.MeetsSeq2 PySem.MeetsSeq3
theorem Lc (l b:Addr) (items lu:Array Value) (n n2:Nat) (dd mM:Option Addr) (sl cC:Array (Option Value)) (kH:Bool) :
  Meets (YS.«tuple.__lt__» ⟨[.ref l,.ref b],[]⟩)
   (λA R s=>s.heap.get? l=some { cls:=.type "tuple",dict:=dd,data:=.seq items n,slots:=sl }/\s.heap.get? b=some { cls:=.type "tuple",dict:=mM,data:=.seq lu n2,slots:=cC } /\
    iO A.in1 s items.toList lu.toList kH/\R (.ok (.ret (.bool kH))) s) :=
 .of_wp λprog w A R s h=>by
  obtain⟨hp,g,d,tk,os⟩:=s;obtain⟨hl,hb,hA,h⟩:=h;have f2:=AutoSeq1.sub_tuple_tuple
  wp_walk using wpAny_loadPart' hl,wpAny_loadPart' hb,wpAny_forIn_list _ (λrest b s'=>b.1=none/\s'=⟨hp,g,d,tk,os⟩/\∃(vs ws:List Value),rest=vs.zip ws /\
   iO A.in1 ⟨hp,g,d,tk,os⟩ vs ws kH/\vs.length+lu.size=ws.length+items.size) _
  case turn =>
   rintro ⟨y,x⟩ rest b s' ⟨fq,rfl,vs,ws,hz,ha,hlen⟩
   cases ha with
   |nn=>cases hz
   |nc _ _=>cases hz
   |cn _ _=>cases hz
   |eq he hr =>
    rw[Yc] at hz
    injection hz with Bm Hv
    injection Bm with hy hx
    subst hy hx;simp only[W5] at hlen;refine WD (he prog w _ _ ?_)
    wp_walk
    exact⟨rfl,rfl,_,_,Hv,hr,by omega⟩
   |lt he hr =>
    rw[Yc] at hz
    injection hz with Bm Hv
    injection Bm with hy hx
    subst hy hx;refine WD (he prog w _ _ ?_);have UL:=hr prog w
    wp_walk using UL
    exact⟨_,rfl,by simpa using h⟩
  case fin =>
   rintro ⟨b1,b2⟩ s' ⟨fq,rfl,vs,ws,hz,ha,hlen⟩;simp only at fq;subst fq;have hv:kH=decide (items.size<lu.size):=by
    cases ha with
    |nn=>simp only[W9] at hlen;exact(decide_eq_false (by omega)).symm
    |nc _ _=>simp only[W9,W5] at hlen;exact(decide_eq_true (by omega)).symm
    |cn _ _=>simp only[W9,W5] at hlen;exact(decide_eq_false (by omega)).symm
    |eq _ _=>rw[Yc] at hz;cases hz
    |lt _ _=>rw[Yc] at hz;cases hz
   rw[hv] at h
   wp_walk
   exact⟨_,rfl,by simpa [Builtin.Tuple.tupleCompareSizes] using h⟩
  case h =>
   exact⟨rfl,rfl,items.toList,lu.toList,rfl,hA,by simp only[Xj];omega⟩
end
end HT
namespace HT
open PySem PyProof.Rows PySem.SeqAt PySem.MeetsSeq
section
variable {prog:Xf} {w:World} {A:Xv} {E:Value->WI->Prop} {s:WI}
theorem Fz {l b:Addr} {items lu:Array Value} {kH:Bool} {Q:Value->WI->Prop} (hl:IsTup s.heap l items) (hb:IsTup s.heap b lu) (hA:∀A':Xv,A'.units<=A.units+4->iO A' s items.toList lu.toList kH)
  (hu:A.units<cLine) (h:Q (.bool kH) s):wpAny (model prog w) A (richCompare .Lt (.ref l) (.ref b)) Q E s:=by
 obtain⟨⟨cls,dd,data,sl⟩,ho,hc,n,hd⟩:=id hl;obtain⟨⟨HR,mM,data2,cC⟩,ju,mO,n2,hd2⟩:=id hb;simp only at hc hd mO hd2;subst hc hd mO hd2;refine richCompare_meets_room (op:=.Lt) ⟨_,ho,rfl⟩ ⟨_,ju,rfl⟩ PySem.F.slot_tuple_lt PySem.F.entry_tuple_lt (PySem.F.args_tuple_lt_2 _ _) (Lc l b items lu n n2 dd mM sl cC kH)
  ⟨ho,ju,hA _ ?_,show Value.bool kH≠Value.notImplemented/\Q (.bool kH) s from ⟨(λx=>nomatch x),h⟩⟩ hu
 show A.units+1<=A.units+4;omega
end
end HT
namespace DI
open PySem L2 HT
mutual
noncomputable def iG:D->D->Option Bool
 | .int i,.int j=>some (decide (i<j))
 | .str x,.str y=>some (decide (x.cps.toList<y.cps.toList))
 | .tup xs,.tup ys=>iV xs ys
 |_,_=>none
noncomputable def iV:List D->List D->Option Bool
 | [],[]=>some false
 | [],_::_=>some true
 |_::_,[]=>some false
 |x::xs,y::ys=>if beq x y=true then iV xs ys else iG x y
end
section
variable {X:Cx} {Ξ:Wd->bq->Prop} {pins:List (Addr×Obj)} {σ:St} {s:WI} {w:Wd}
theorem RW (I:Inv X pins σ w.H s) (A:Xv) {x y:D} {v u:V} {vx vy:Value} (lx:lay x=true) (ly:lay y=true) (hu:A.units+dep x<cLine) (hx:DV X.K w x v) (hy:DV X.K w y u) (rx:RelV v vx) (ry:RelV u vy):SeqAt.EqAt A s vx vy (beq x y):=by
 obtain⟨as,r1⟩:=(hx.py (m9 _ lx)).reads I rx;obtain⟨bs,r2⟩:=(hy.py (m9 _ ly)).reads I ry;obtain⟨p1,p2⟩:=jC _ lx;obtain⟨q1,q2⟩:=jC _ ly;have:=SeqAt.eqAt_reads _ _ A s vx vy as bs r1 r2 p1 q1 (by rw[p2];omega);rw[pW _ _ lx ly] at this;exact this
mutual
theorem Hw (I:Inv X pins σ w.H s):∀(A:Xv) (x y:D) (b:Bool) (v u:V) (vx vy:Value),iG x y=some b->lay x=true->lay y=true->A.units+5*dep x+5<cLine->DV X.K w x v->DV X.K w y u->RelV v vx->RelV u vy->Ar A s vx vy b
 |A,.int i,.int j,b,v,u,vx,vy,h,_,_,_,hx,hy,rx,ry=>by
  cases h;cases hx;cases hy;obtain⟨t,rfl⟩:=rx;obtain⟨t',rfl⟩:=ry;intro prog w E Q q;exact Er A s i t j t' prog w E Q q
 |A,.str i,.str j,b,v,u,vx,vy,h,_,_,hu,hx,hy,rx,ry=>by
  cases h;cases hx;cases hy;obtain⟨t,rfl⟩:=rx;obtain⟨t',rfl⟩:=ry;intro prog w E Q q;exact(PyProof.Rows.lt_str q:wpAny (model prog w) A (Yg .Lt (.str i t) (.str j t')) Q E s)
 |A,.tup xs,.tup ys,b,v,u,vx,vy,h,lx,ly,hu,hx,hy,rx,ry=>by
  simp only[iG] at h;simp only[DV] at hx hy;obtain⟨a,as,rfl,ha,i9⟩:=hx;obtain⟨c,cs,rfl,hc,UM⟩:=hy;cases rx;cases ry;obtain⟨its,r1,p1,_⟩:=I.tuple ha;obtain⟨nR,r2,p2,_⟩:=I.tuple hc;intro prog w' E Q q;simp only[dep] at hu;exact Fz p1 p2 (λA' Ws=>by
   have:=GN I A' xs ys b as cs its nR h (by simpa [lay] using lx) (by simpa [lay] using ly) (by omega) i9 UM r1 r2;simpa using this) (by omega) q
 |_,.aB,_,_,_,_,_,_,h,_,_,_,_,_,_,_=>by cases h
 |_,.bl _,_,_,_,_,_,_,h,_,_,_,_,_,_,_=>by cases h
 |_,.lst _,_,_,_,_,_,_,h,_,_,_,_,_,_,_=>by cases h
 |_,.bH _,_,_,_,_,_,_,h,_,_,_,_,_,_,_=>by cases h
 |_,.aj _,_,_,_,_,_,_,h,_,_,_,_,_,_,_=>by cases h
 |_,.ty _,_,_,_,_,_,_,h,_,_,_,_,_,_,_=>by cases h
 |_,.bQ _,_,_,_,_,_,_,h,_,_,_,_,_,_,_=>by cases h
 |_,.int _,.aB,_,_,_,_,_,h,_,_,_,_,_,_,_=>by cases h
 |_,.int _,.bl _,_,_,_,_,_,h,_,_,_,_,_,_,_=>by cases h
 |_,.int _,.str _,_,_,_,_,_,h,_,_,_,_,_,_,_=>by cases h
 |_,.int _,.tup _,_,_,_,_,_,h,_,_,_,_,_,_,_=>by cases h
 |_,.int _,.lst _,_,_,_,_,_,h,_,_,_,_,_,_,_=>by cases h
 |_,.int _,.bH _,_,_,_,_,_,h,_,_,_,_,_,_,_=>by cases h
 |_,.int _,.aj _,_,_,_,_,_,h,_,_,_,_,_,_,_=>by cases h
 |_,.int _,.ty _,_,_,_,_,_,h,_,_,_,_,_,_,_=>by cases h
 |_,.int _,.bQ _,_,_,_,_,_,h,_,_,_,_,_,_,_=>by cases h
 |_,.str _,.aB,_,_,_,_,_,h,_,_,_,_,_,_,_=>by cases h
 |_,.str _,.bl _,_,_,_,_,_,h,_,_,_,_,_,_,_=>by cases h
 |_,.str _,.int _,_,_,_,_,_,h,_,_,_,_,_,_,_=>by cases h
 |_,.str _,.tup _,_,_,_,_,_,h,_,_,_,_,_,_,_=>by cases h
 |_,.str _,.lst _,_,_,_,_,_,h,_,_,_,_,_,_,_=>by cases h
 |_,.str _,.bH _,_,_,_,_,_,h,_,_,_,_,_,_,_=>by cases h
 |_,.str _,.aj _,_,_,_,_,_,h,_,_,_,_,_,_,_=>by cases h
 |_,.str _,.ty _,_,_,_,_,_,h,_,_,_,_,_,_,_=>by cases h
 |_,.str _,.bQ _,_,_,_,_,_,h,_,_,_,_,_,_,_=>by cases h
 |_,.tup _,.aB,_,_,_,_,_,h,_,_,_,_,_,_,_=>by cases h
 |_,.tup _,.bl _,_,_,_,_,_,h,_,_,_,_,_,_,_=>by cases h
 |_,.tup _,.int _,_,_,_,_,_,h,_,_,_,_,_,_,_=>by cases h
 |_,.tup _,.str _,_,_,_,_,_,h,_,_,_,_,_,_,_=>by cases h
 |_,.tup _,.lst _,_,_,_,_,_,h,_,_,_,_,_,_,_=>by cases h
 |_,.tup _,.bH _,_,_,_,_,_,h,_,_,_,_,_,_,_=>by cases h
 |_,.tup _,.aj _,_,_,_,_,_,h,_,_,_,_,_,_,_=>by cases h
 |_,.tup _,.ty _,_,_,_,_,_,h,_,_,_,_,_,_,_=>by cases h
 |_,.tup _,.bQ _,_,_,_,_,_,h,_,_,_,_,_,_,_=>by cases h
theorem GN (I:Inv X pins σ w.H s):∀(A:Xv) (xs ys:List D) (b:Bool) (vs us:List V) (ps qs:List Value),iV xs ys=some b->cK xs=true->cK ys=true->A.units+5*cV xs+5<cLine->au X.K w xs vs->au X.K w ys us->Vals vs ps->Vals us qs->iO A s ps qs b
 |A,[],[],b,vs,us,ps,qs,h,_,_,_,hx,hy,rx,ry=>by
  cases h;cases hx;cases hy;cases rx;cases ry;exact .nn
 |A,[],y::ys,b,vs,us,ps,qs,h,_,_,_,hx,hy,rx,ry=>by
  cases h;cases hx;cases rx;obtain⟨u,r,rfl,_,_⟩:=hy;cases ry;exact .nc _ _
 |A,x::xs,[],b,vs,us,ps,qs,h,_,_,_,hx,hy,rx,ry=>by
  cases h;cases hy;cases ry;obtain⟨u,r,rfl,_,_⟩:=hx;cases rx;exact .cn _ _
 |A,x::xs,y::ys,b,vs,us,ps,qs,h,lx,ly,hu,hx,hy,rx,ry=>by
  obtain⟨v,r,rfl,dx,dr⟩:=hx;obtain⟨u,r',rfl,dy,UN⟩:=hy;simp only[cK,WK] at lx ly;simp only[cV] at hu;have m1:=Nat.le_max_left (dep x) (cV xs);have m2:=aaK (dep x) (cV xs)
  cases rx with
  |cons rx UO =>
   cases ry with
   |cons ry UP =>
    have he:=RW I A lx.1 ly.1 (by omega) dx dy rx ry;simp only[iV] at h;split at h
    ·rename_i hb
     rw[hb] at he;exact .eq he (GN I A xs ys b _ _ _ _ h lx.2 ly.2 (by omega) dr UN UO UP)
    ·rename_i hb
     rw[Zr] at hb;rw[hb] at he;exact .lt he (Hw I A x y b _ _ _ _ h lx.1 ly.1 (by omega) dx dy rx ry)
end
noncomputable def kq (x y:D) (s:ae):Res D:=if (lay x&&lay y&&decide (dep x<=30))=true then bI ((iG x y).map D.bl) s else none
theorem wG {k:Nat} (hr:cI k X.A):bE X (Yg .Lt) (rO X.K Ξ kq):=by
 rintro pins s σ H x y v u Q I rx ry ⟨w,dx,dy,rfl,S,hx,hy,h⟩;unfold kq at h;split at h
 ·rename_i hl
  simp only[WK,decide_eq_true_eq] at hl;obtain⟨d,e,h⟩:=fv h
  cases hb:iG dx dy with
  |none=>rw[hb] at e;cases e
  |some b =>
   rw[hb] at e;cases e;exact Hw I X.A dx dy b x y v u hb hl.1.1 hl.1.2 (by have:=hr.un;have:=hl.2;have:cLine=9900:=rfl;omega) hx hy rx ry _ _ _ _ ⟨.bl b,w.H,I,rfl,aI S h _ rfl⟩
 ·exact h.elim
end
end DI
namespace DI
open PySem L2
section
variable {X:Cx} {Ξ:Wd->bq->Prop} {e:Expr} {p pos Wt Wu SQ Wf:Pos} {f:Env->ae->Res D}
end
end DI
namespace DI
open PySem L2
noncomputable def qT:List D->ae->Res D:=bc 2 2 (ay (bA (aF (e2 kq (aa 1) (eB dY (af (aa 0) ai)))) (aP (e2 ao (aa 0) (aa 1))) bL) (aP (eC (.int 0))))
noncomputable def uW:List D->ae->Res D:=bc 2 3 (ay (aN (ax qT (af (aa 0) (af (aa 1) ai))) (gN 2)) (aP (eNew (af (eB nI (af (eC (.int 0)) (af (e2 nH (aa 2) (e2 vW (eC (.int 10)) (eC (.int 18)))) ai))) (af (e2 lF (aa 2) (eC (.int 2147483647))) ai)))))
noncomputable def bj:List D->ae->Res D:=bc 2 4 (ay (bA (aF (e2 sg (e2 ao (aa 0) (eC (.int 0))) (eC (.int 0)))) (ay (aN (e2 lF (e2 ao (aa 0) (eC (.int 0))) (aa 1)) (gN 2)) (ay (gy (e2 rS (e2 ao (aa 0) (eC (.int 0))) (aa 1)) (aa 0) (eC (.int 0))) (aP (aa 2)))) bL) (ay (gy (e2 lF (e2 cj (e2 iQ (e2 ao (aa 0) (eC (.int 1))) (eC (.int 48271))) (eC (.int 29))) (eC (.int 2147483647))) (aa 0) (eC (.int 1))) (ay (aN (e2 lF (e2 cj (e2 cj (e2 iQ (e2 ao (aa 0) (eC (.int 1))) (e2 ao (aa 0) (eC (.int 1)))) (e2 iQ (eC (.int 39373)) (e2 ao (aa 0) (eC (.int 1))))) (eC (.int 7))) (eC (.int 2147483629))) (gN 3)) (ay (aN (e2 lF (e2 cj (e2 iQ (aa 3) (aa 3)) (e2 iQ (eC (.int 16807)) (aa 3))) (eC (.int 2147483587))) (gN 3)) (aP (e2 lF (e2 rS (aa 3) (eC (.int 8))) (aa 1)))))))
noncomputable def jz:List D->ae->Res D:=bc 2 3 (ay (aN (e2 cj (eC (.int 1)) (ax bj (af (aa 0) (af (eC (.int 4)) ai)))) (gN 2)) (aP (eB dB (af (aV 1 [0,2] (bM (af (aa 1) ai)) (gN 0) (aF (e2 aS (ax bj (af (aa 1) (af (e2 cj (aa 2) (eC (.int 1))) ai))) (eC (.int 0)))) (aa 0)) ai))))
noncomputable def eD:Nat->List D->ae->Res D
 |0=>λ_ _=>none
 |n+1=>bc 2 2 (ay (bA (cu (e1 sj (aa 1))) (ay (bA (gS (aF (e2 fE (eB cF (af (aa 0) (af (eC (.ty "tuple")) ai))) (eB cF (af (aa 1) (af (eC (.ty "tuple")) ai))))) (aF (e2 fE (eB cF (af (aa 0) (af (eC (.ty "list")) ai))) (eB cF (af (aa 1) (af (eC (.ty "list")) ai)))))) (aP (eC (.bl false))) bL) (aP (cZ (e2 aS (eB dY (af (aa 0) ai)) (eB dY (af (aa 1) ai))) (eB mE (af (aV 2 [] (nU (af (aa 0) (af (aa 1) ai))) (gT [gN 0,gN 1]) ck (ax (eD n) (af (aa 0) (af (aa 1) ai)))) ai))))) bL) (aP (cZ (e2 aS (eB cF (af (aa 0) (af (eC (.ty "bool")) ai))) (eB cF (af (aa 1) (af (eC (.ty "bool")) ai)))) (e2 aS (aa 0) (aa 1)))))
noncomputable def m7:List D->ae->Res D:=bc 1 1 (aP (eB mE (af (aV 2 [] (nU (af (aa 0) (af (oG (aa 0) (nX (eC (.int 1))) oF) ai))) (gT [gN 0,gN 1]) ck (e2 kq (aa 0) (aa 1))) ai)))
noncomputable def xx:List D->ae->Res D:=bc 1 1 (aP (cZ (eB cF (af (aa 0) (af (eC (.ty "int")) ai))) (cZ (nS (eB cF (af (aa 0) (af (eC (.ty "bool")) ai)))) (e2 wB (aa 0) (eC (.int 0))))))
noncomputable def pA:List D->ae->Res D:=bc 2 2 (aP (cZ (ax xx (af (aa 0) ai)) (e2 kq (aa 0) (aa 1))))
noncomputable def qY:List D->ae->Res D:=bc 1 1 (aP (ax pA (af (aa 0) (af (eC (.int (8))) ai))))
noncomputable def qQ:List D->ae->Res D:=bc 1 1 (aP (cZ (eB cF (af (aa 0) (af (eC (.ty "tuple")) ai))) (cZ (eB mE (af (aV 1 [] (aU (aa 0)) (gN 0) ck (ax qY (af (aa 0) ai))) ai)) (ax m7 (af (aa 0) ai)))))
end DI
namespace ST
open PySem PySem.W PyProof.Rows
structure Ord (α:Type) where
 lt:α->α->Bool
 Bn:∀a,lt a a=false
 tr:∀a b c,lt a b=true->lt b c=true->lt a c=true
 tW:∀a b,lt a b=false->lt b a=false->a=b
section
variable {α:Type} (O:Ord α)
def Ord.le (a b:α):Prop:=O.lt b a=false
variable {O}
theorem Ord.le_refl (a:α):O.le a a:=O.Bn a
theorem Ord.le_of_lt {a b:α} (h:O.lt a b=true):O.le a b:=by
 unfold Ord.le
 cases hb:O.lt b a with
 |false=>rfl
 |true=>have:=O.tr _ _ _ h hb;rw[O.Bn] at this;cases this
theorem Ord.qg {a b c:α} (h:O.le a b) (g:O.le b c):O.le a c:=by
 unfold Ord.le at *
 cases hc:O.lt c a with
 |false=>rfl
 |true =>
  cases hb:O.lt a b with
  |true=>have:=O.tr _ _ _ hc hb;rw[g] at this;cases this
  |false =>
   have e:=O.tW a b hb h;subst e;rw[g] at hc;cases hc
theorem Ord.Hx {a b:α} (h:O.le a b) (g:O.le b a):a=b:=O.tW _ _ g h
end
noncomputable def ok {β:Type} (c:Nat->Nat->Bool) (n:Nat):KasT β->(β->Prop)->Prop
 | .ret a,Q=>Q a
 | .ask i j k,Q=>i<n/\j<n/\ok c n (k (c i j)) Q
theorem jA {β:Type} {c:Nat->Nat->Bool} {n:Nat} {Q R:β->Prop}:∀{t:KasT β},ok c n t Q->(∀a,Q a->R a)->ok c n t R
 | .ret a,h,i=>i a h
 | .ask _ _ k,h,i=>⟨h.1,h.2.1,jA (t:=k _) h.2.2 i⟩
theorem pN {β γ:Type} {c:Nat->Nat->Bool} {n:Nat} {f:β->KasT γ} {Q:γ->Prop}:∀{t:KasT β},ok c n t (λa=>ok c n (f a) Q)->ok c n (t.bind f) Q
 | .ret _,h=>h
 | .ask _ _ k,h=>⟨h.1,h.2.1,pN (t:=k _) h.2.2⟩
theorem Hy {β:Type} {c:Nat->Nat->Bool} {n:Nat} {cmp:Nat->Nat->(Bool->WI->Prop)->WI->Prop} {s:WI} (hc:∀i j C,i<n->j<n->C (c i j) s->cmp i j C s) {Q:β->WI->Prop}:∀{t:KasT β},ok c n t (λa=>Q a s)->t.kasWp cmp Q s
 | .ret _,h=>h
 | .ask _ _ k,h=>hc _ _ _ h.1 h.2.1 (Hy hc (t:=k _) h.2.2)
section
variable {α:Type} {O:Ord α} {x:Nat->α} {n:Nat}
noncomputable def ky (x:Nat->α) (p:Array Nat) (i:Nat):α:=x (p.getD i 0)
def Pm (n:Nat) (p:Array Nat):Prop:=p.size=n/\p.toList.Perm (WW n)
def Up (O:Ord α) (f:Nat->α) (k:Nat):Prop:=∀i j,i<j->j<k->O.le (f i) (f j)
def Dn (O:Ord α) (f:Nat->α) (k:Nat):Prop:=∀i j,i<j->j<k->O.le (f j) (f i)
theorem Up.more {f:Nat->α} {k:Nat} (h:Up O f k) (hk:1<=k) (h1:O.le (f (k-1)) (f k)):Up O f (k+1):=λi j eZ hj=>by
 by_cases e:j=k
 ·subst e
  by_cases e':i=j-1
  ·subst e';exact h1
  ·exact Ord.qg (h i (j-1) (by omega) (by omega)) h1
 ·exact h i j eZ (by omega)
theorem Dn.more {f:Nat->α} {k:Nat} (h:Dn O f k) (hk:1<=k) (h1:O.le (f k) (f (k-1))):Dn O f (k+1):=λi j eZ hj=>by
 by_cases e:j=k
 ·subst e
  by_cases e':i=j-1
  ·subst e';exact h1
  ·exact Ord.qg h1 (h i (j-1) (by omega) (by omega))
 ·exact h i j eZ (by omega)
theorem Pm.lt {p:Array Nat} (h:Pm n p) {i:Nat} (hi:i<n):p.getD i 0<n:=by
 have hs:i<p.size:=by rw[h.1];exact hi
 have:p[i]∈p.toList:=by simp
 have e:p.getD i 0=p[i]:=by simp[aan,hs]
 rw[e];exact Xy.mp (h.2.mem_iff.mp this)
theorem Pm.rev {p:Array Nat} (h:Pm n p) (i j:Nat):Pm n (kas_rev p i j):=⟨by rw[kas_rev_size];exact h.1,(Array.perm_iff_toList_perm.mp (mirror_perm p i j _)).trans h.2⟩
theorem Pm.UQ {p:Array Nat} (h:Pm n p) (i j:Nat):Pm n (bubble p i j):=⟨by rw[bubble_size];exact h.1,(Array.perm_iff_toList_perm.mp (bubble_perm p i j)).trans h.2⟩
theorem rm {p q:Array Nat} {i j:Nat} (h:p[i]?=q[j]?):p.getD i 0=q.getD j 0:=by
 rw[Array.getD_eq_getD_getElem?,Array.getD_eq_getD_getElem?,h]
theorem yZ {p:Array Nat} {i j:Nat} (hj:j<=p.size) (k:Nat):ky x (kas_rev p i j) k=if i<=k/\k<j then ky x p (i+j-1-k) else ky x p k:=by
 have e:=getElem?_mirror_all (i:=i) hj k;unfold ky kas_rev
 split<;>rename_i h
 ·rw[if_pos h] at e;rw[rm e]
 ·rw[if_neg h] at e;rw[rm e]
theorem GO {p:Array Nat} {k d:Nat} (hk:k<p.size) (hd:d<=k) (i:Nat):ky x (bubble p k d) i=if i=k-d then ky x p k else if k-d<i/\i<=k then ky x p (i-1) else ky x p i:=by
 have e:=getElem?_bubble hk d hd i;by_cases h:i=k-d
 ·rw[if_pos h] at e |-;exact congrArg x (rm e)
 ·rw[if_neg h] at e |-
  by_cases h2:k-d<i/\i<=k
  ·rw[if_pos h2] at e |-;exact congrArg x (rm e)
  ·rw[if_neg h2] at e |-;exact congrArg x (rm e)
theorem FA {p:Array Nat} {i j:Nat} (hj:j<=p.size) (he:∀k,i<=k->k<j->ky x p k=ky x p (j-1)):ky x (kas_rev p i j)=ky x p:=funext λk=>by
 rw[yZ hj];split
 ·rw[he _ (by omega) (by omega),he k (by omega) (by omega)]
 ·rfl
noncomputable abbrev asks (O:Ord α) (x:Nat->α) (i j:Nat):Bool:=O.lt (x i) (x j)
theorem y0 {p:Array Nat} (hp:Pm n p):∀(f m:Nat),1<=m->m+f<=n->Up O (ky x p) m->ok (asks O x) n (kas_asc p f m) λr=>m<=r/\r<=m+f/\Up O (ky x p) r/\(r<m+f->O.lt (ky x p r) (ky x p (r-1))=true)
 |0,m,h1,h2,hu=>⟨Nat.le_refl _,Nat.le_refl _,hu,λz=>absurd z (Xk _)⟩
 |f+1,m,h1,h2,hu=>by
  refine⟨hp.lt (by omega),hp.lt (by omega),?_⟩
  show ok _ _ (if O.lt (ky x p m) (ky x p (m-1))=true then _ else _) _
  cases hc:O.lt (ky x p m) (ky x p (m-1)) with
  |true =>
   rw[if_pos rfl];exact⟨Nat.le_refl _,by omega,hu,λ_=>hc⟩
  |false =>
   rw[if_neg WV];refine jA (y0 hp f (m+1) (by omega) (by omega) (hu.more h1 hc)) λr hr=>⟨by omega,by omega,hr.2.2.1,λz=>hr.2.2.2 (by omega)⟩
structure DS (O:Ord α) (x:Nat->α) (n:Nat) (p:Array Nat) (m q:Nat):Prop where
 pm:Pm n p
 q1:q+1<=m
 mn:m<=n
 dn:Dn O (ky x p) m
 bl:∀k,m-(q+1)<=k->k<m->ky x p k=ky x p (m-1)
theorem DS.turn {p:Array Nat} {m q:Nat} (D:DS O x n p m q):Pm n (kas_rev p (m-(q+1)) m)/\ky x (kas_rev p (m-(q+1)) m)=ky x p :=
 ⟨D.pm.rev _ _,FA (by rw[D.pm.1];exact D.mn) D.bl⟩
theorem vj:∀(f:Nat) (p:Array Nat) (m q:Nat),m+f<=n->DS O x n p m q->ok (asks O x) n (kas_desc f p m q) λr=>m<=r.2.1/\DS O x n r.1 r.2.1 r.2.2
 |0,p,m,q,_,D=>⟨Nat.le_refl _,D⟩
 |f+1,p,m,q,hm,D=>by
  have q1:=D.q1;refine⟨D.pm.lt (by omega),D.pm.lt (by omega),?_⟩
  show ok _ _ (if O.lt (ky x p m) (ky x p (m-1))=true then _ else _) _
  cases hc:O.lt (ky x p m) (ky x p (m-1)) with
  |true =>
   rw[if_pos rfl];have one:∀p',Pm n p'->ky x p'=ky x p->DS O x n p' (m+1) 0:=λp' h1 h2=>⟨h1,by omega,by omega,by rw[h2];exact D.dn.more (by omega) (Ord.le_of_lt hc),λk k1 k2=>by rw[show k=m+1-1 by omega]⟩;by_cases hq:q > 0
   ·rw[if_pos hq]
    exact jA (vj f _ (m+1) 0 (by omega) (one _ D.turn.1 D.turn.2)) λr hr=>⟨by omega,hr.2⟩
   ·rw[if_neg hq]
    exact jA (vj f _ (m+1) 0 (by omega) (one _ D.pm rfl)) λr hr=>⟨by omega,hr.2⟩
  |false =>
   rw[if_neg WV];refine⟨D.pm.lt (by omega),D.pm.lt (by omega),?_⟩
   show ok _ _ (if O.lt (ky x p (m-1)) (ky x p m)=true then _ else _) _
   cases hd:O.lt (ky x p (m-1)) (ky x p m) with
   |true =>
    rw[if_pos rfl];exact⟨Nat.le_refl _,D⟩
   |false =>
    rw[if_neg WV];have e:ky x p m=ky x p (m-1):=O.tW _ _ hc hd;refine jA (vj f p (m+1) (q+1) (by omega) ⟨D.pm,by omega,by omega,D.dn.more (by omega) (by rw[e];exact Ord.le_refl _),λk k1 k2=>?_⟩) λr hr=>⟨by omega,hr.2⟩;show _=ky x p m;by_cases hk:k=m
    ·rw[hk]
    ·rw[D.bl k (by omega) (by omega),e]
theorem FC {p:Array Nat} {m:Nat} (hp:Pm n p) (h1:1<=m) (hm:m<=n) (hd:Dn O (ky x p) m):ok (asks O x) n (kas_tail3 m n p) λr=>1<=r.1/\r.1<=n/\Pm n r.2/\Up O (ky x r.2) r.1:=by
 refine pN ?_;have hu:Up O (ky x (kas_rev p 0 m)) m:=λi j eZ hj=>by
  rw[yZ (by rw[hp.1];exact hm),yZ (by rw[hp.1];exact hm),if_pos ⟨by omega,by omega⟩,if_pos ⟨by omega,hj⟩];exact hd _ _ (by omega) (by omega)
 exact jA (y0 (hp.rev 0 m) (n-m) m h1 (by omega) hu) λr hr=>⟨by show 1<=r;omega,by show r<=n;omega,hp.rev 0 m,hr.2.2.1⟩
theorem C4 {p:Array Nat} {m:Nat} (hp:Pm n p) (h1:1<=m) (hm:m+1<=n) (hd:Dn O (ky x p) (m+1)):ok (asks O x) n (kas_descPart m n p) λr=>1<=r.1/\r.1<=n/\Pm n r.2/\Up O (ky x r.2) r.1:=by
 refine pN (jA (vj (n-(m+1)) p (m+1) 0 (by omega) ⟨hp,by omega,hm,hd,λk k1 k2=>by rw[show k=m+1-1 by omega]⟩) λr hr=>?_);obtain⟨h2,D⟩:=hr;split
 ·exact FC D.turn.1 (by have:=D.q1;omega) D.mn (by rw[D.turn.2];exact D.dn)
 ·exact FC D.pm (by have:=D.q1;omega) D.mn D.dn
theorem Nd {p:Array Nat} (hp:Pm n p) (hn:1<=n):ok (asks O x) n (kas_count n p) λr=>1<=r.1/\r.1<=n/\Pm n r.2/\Up O (ky x r.2) r.1:=by
 refine pN (jA (y0 hp (n-1) 1 (Nat.le_refl _) (by omega) λi j eZ hj=>by omega) λm hm=>?_);obtain⟨h1,h2,h3,h4⟩:=hm;split
 ·rename_i e
  rw[beq_iff_eq] at e;exact⟨h1,by omega,hp,h3⟩
 ·rename_i e
  have ib:m≠n:=λz=>e (by rw[z];exact beq_self_eq_true n);have hs:=h4 (by omega);split
  ·refine⟨hp.lt (by omega),hp.lt (by omega),?_⟩
   show ok _ _ (if O.lt (ky x p 0) (ky x p (m-1))=true then _ else _) _
   cases hc:O.lt (ky x p 0) (ky x p (m-1)) with
   |true =>
    rw[if_pos rfl];exact⟨h1,by omega,hp,h3⟩
   |false =>
    rw[if_neg WV];have dW:∀k,0<=k->k<m->ky x p k=ky x p (m-1):=λk _ hk=>by
     have a1:O.le (ky x p k) (ky x p (m-1)):=by
      by_cases e:k=m-1
      ·rw[e];exact Ord.le_refl _
      ·exact h3 k (m-1) (by omega) (by omega)
     have a2:O.le (ky x p (m-1)) (ky x p k):=by
      by_cases e:k=0
      ·rw[e];exact hc
      ·exact Ord.qg hc (h3 0 k (by omega) hk)
     exact Ord.Hx a1 a2
    have hk:=FA (x:=x) (p:=p) (i:=0) (j:=m) (by rw[hp.1];omega) dW;refine C4 (hp.rev 0 m) h1 (by omega) ?_;rw[hk];refine Dn.more (λi j eZ hj=>?_) h1 (Ord.le_of_lt hs);rw[dW i (by omega) (by omega),dW j (by omega) hj];exact Ord.le_refl _
  ·refine C4 hp h1 (by omega) (Dn.more (λi j eZ hj=>by omega) h1 (Ord.le_of_lt hs))
theorem x9 {p:Array Nat} {k:Nat} (hp:Pm n p) (hk:k<n) (hu:Up O (ky x p) k):∀(f l r:Nat),r-l<=f->l<=r->r<=k->(∀i,i<l->O.le (ky x p i) (ky x p k))->(∀i,r<=i->i<k->O.le (ky x p k) (ky x p i)) ->
  ok (asks O x) n (kas_place p k f l r) λm=>m<=k/\(∀i,i<m->O.le (ky x p i) (ky x p k))/\(∀i,m<=i->i<k->O.le (ky x p k) (ky x p i))
 |0,l,r,hf,hl,hr,a,b=>⟨by omega,a,λi hi=>b i (by omega)⟩
 |f+1,l,r,hf,hl,hr,a,b=>by
  unfold kas_place;by_cases h:l ≥ r
  ·rw[if_pos h]
   exact⟨by omega,a,λi hi=>b i (by omega)⟩
  ·rw[if_neg h]
   refine⟨hp.lt hk,hp.lt (by omega),?_⟩
   show ok _ _ (if O.lt (ky x p k) (ky x p ((l+r) / 2))=true then _ else _) _
   cases hc:O.lt (ky x p k) (ky x p ((l+r) / 2)) with
   |true =>
    rw[if_pos rfl];refine x9 hp hk hu f l ((l+r) / 2) (by omega) (by omega) (by omega) a λi hi ox=>?_;by_cases e:i=(l+r) / 2
    ·rw[e];exact Ord.le_of_lt hc
    ·exact Ord.qg (Ord.le_of_lt hc) (hu _ _ (by omega) ox)
   |false =>
    rw[if_neg WV];refine x9 hp hk hu f ((l+r) / 2+1) r (by omega) (by omega) hr (λi hi=>?_) b;by_cases e:i=(l+r) / 2
    ·rw[e];exact hc
    ·exact Ord.qg (hu _ _ (by omega) (by omega)) hc
theorem GP:∀(f:Nat) (p:Array Nat) (k:Nat),Pm n p->k+f=n->Up O (ky x p) k->ok (asks O x) n (kas_bin f p k) λq=>Pm n q/\Up O (ky x q) n
 |0,p,k,hp,hk,hu=>⟨hp,by rw[<- hk];exact hu⟩
 |f+1,p,k,hp,hk,hu=>by
  refine pN (jA (x9 hp (by omega) hu k 0 k (by omega) (X1 _) (Nat.le_refl _) (λi hi=>by omega) λi h1 h2=>by omega) λm hm=>?_);obtain⟨h1,h2,h3⟩:=hm;refine GP f _ (k+1) (hp.UQ _ _) (by omega) λi j eZ hj=>?_;have hz:k<p.size:=by rw[hp.1];omega
  have ek:k-(k-m)=m:=by omega
  rw[GO hz (by omega),GO hz (by omega),ek];by_cases i1:i=m
  ·rw[if_pos i1,if_neg (by omega),if_pos (by omega)]
   exact h3 _ (by omega) (by omega)
  ·rw[if_neg i1]
   by_cases i2:m<i/\i<=k
   ·rw[if_pos i2,if_neg (by omega),if_pos (by omega)]
    exact hu _ _ (by omega) (by omega)
   ·rw[if_neg i2]
    by_cases j1:j=m
    ·rw[if_pos j1];exact h2 _ (by omega)
    ·rw[if_neg j1]
     by_cases j2:m<j/\j<=k
     ·rw[if_pos j2]
      by_cases e:i=j-1
      ·rw[e];exact Ord.le_refl _
      ·exact hu _ _ (by omega) (by omega)
     ·rw[if_neg j2];exact hu _ _ eZ (by omega)
theorem OH (hn:1<=n):ok (asks O x) n (kas_sort n) λq=>Pm n q/\Up O (ky x q) n:=by
 refine pN (jA (Nd (p:=aaF (WW n)) ⟨by simp,by simp⟩ hn) λr hr=>?_);obtain⟨h1,h2,h3,h4⟩:=hr;split
 ·rw[Nat.max_eq_left h1]
  exact GP _ _ _ h3 (by omega) h4
 ·rw[show r.1=n by omega] at h4
  exact⟨h3,h4⟩
end
end ST
namespace ST
open PySem PySem.W PyProof.Rows
section
variable {α:Type} {O:Ord α} {x:Nat->α} {prog:Xf} {w:World} {A:Xv} {E:Value->WI->Prop} {s:WI}
def wH (prog:Xf) (w:World) (A:Xv) (O:Ord α) (x:Nat->α) (us:List Value) (t:WI):Prop :=
 wpAny (model prog w) A (keyKind' us.toArray) (fun κ t'=>t'=t/\∀i j (C:Bool->WI->Prop),i<us.length->j<us.length->C (O.lt (x i) (x j)) t->wpAny (model prog w) A (keyLt' κ (us.getD i Value.none) (us.getD j Value.none)) C (λ_ _=>False) t) (λ_ _=>False) t
theorem kD (us:List Value) (h:us.length<2):(us.toArray.zip us.toArray).map (·.2)=((aaF (WW us.length)).toList.map λi=>us.getD i Value.none).toArray:=by
 rcases us with _ | ⟨u,_ | ⟨v,r⟩⟩
 ·exact Array.toList_inj.mp (by simp)
 ·exact Array.toList_inj.mp (by simp)
 ·(simp at h;omega)
theorem J9 {b:Addr} {us:List Value} {m:Nat} {R:abc->WI->Prop} (hb:s.heap.get? b=some (aa4 "list" us.toArray m)) (hz:us.length<64)
  (hk:2<=us.length->∀h1,(∀c o,c≠b->s.heap.get? c=some o->h1.get? c=some o)->wH prog w A O x us { s with heap:=h1 })
  (hR:∀(q:Array Nat) h' e,Pm us.length q->Up O (ky x q) us.length->(∀c o,c≠b->s.heap.get? c=some o->h'.get? c=some o)->h'.get? b=some (aa4 "list" (q.toList.map λi=>us.getD i Value.none).toArray e)->R (.done (.ret .none)) { s with heap:=h' }) :
  wpAny (model prog w) A (YS.«list.sort» ⟨[.ref b],[]⟩) R E s:=by
 have bp:b<s.heap.objs.size:=WS hb;have line:us.length<=WX:=by rw[Zz];omega
 obtain⟨e1,AR⟩:∃e1,(s.heap.update b (YK λ_=>(#[]:Array Value))).get? b=some (aa4 "list" #[] e1):=⟨_,get?_update_seq hb λ_=>#[]⟩;generalize hg:((s.heap.update b (YK λ_=>(#[]:Array Value))).push (aa4 "tuple" us.toArray 0)).push (aa4 "list" #[] 0)=h2;have oP:h2.get? b=some (aa4 "list" #[] e1):=by rw[<- hg];exact WE _ (WE _ AR)
 have old:∀c o,c≠b->s.heap.get? c=some o->h2.get? c=some o:=λc o hc e=>by
  rw[<- hg];exact WE _ (WE _ (by rw[aa2 _ _ _ _ hc];exact e))
 have last:∀(q:Array Nat),Pm us.length q->Up O (ky x q) us.length->R (.done (.ret .none)) { s with heap:=h2.update b (YK λ_=>(q.toList.map λi=>us.getD i Value.none).toArray) }:=λq h1 h3 =>
  hR q _ _ h1 h3 (λc o hc e=>by rw[aa2 _ _ _ _ hc];exact old c o hc e) (get?_update_seq oP λ_=>(q.toList.map λi=>us.getD i Value.none).toArray)
 rw[list_sort_plain];refine WD (listItems_at hb rfl (WD (listUpdate_at hb rfl ?_ (by rw[W2];exact line) (X1 _))));refine WD (seqEpoch_at AR rfl (WD (wpAny_newTuple (WD (wpAny_newList (Yf ?_) (X1 _))) (by show us.length<=_;exact line))))
 show wpAny (model prog w) A _ R E { s with heap:=_ }
 rw[hg];dsimp only;by_cases oQ:us.toArray.size<2
 ·rw[if_pos oQ,if_pos oQ]
  refine WD (WG ?_);rw[StateT.run_pure];refine WD (WG ?_);dsimp only;have eo:(us.toArray.zip us.toArray).map (·.2)=((aaF (WW us.length)).toList.map λi=>us.getD i Value.none).toArray:=by
   exact kD us (by rw[<- W2];exact oQ)
  refine WD (seqEpoch_at oP rfl (WD (listUpdate_at oP rfl ?_ (X1 _) ?_)))
  ·simp only[bne_self_eq_false,WH,if_false]
   show wpAny _ _ _ _ _ { s with heap:=h2.update b (YK λ_=>(us.toArray.zip us.toArray).map (·.2)) }
   rw[eo];refine WG (last _ ⟨by simp,by simp⟩ λi j eZ hj=>?_);rw[W2] at oQ;omega
  ·show ((us.toArray.zip us.toArray).map (·.2)).size<=WX+1
   simp;omega
 ·rw[if_neg oQ,if_neg oQ]
  rw[W2] at oQ;refine WD (Yy (hk (by omega) h2 old) (fun κ t ht=>?_) λ_ _ z=>z.elim);obtain⟨rfl,ht⟩:=ht
  have tree:(kas_sort us.length).kasWp (kas_ask prog w A κ us) (λq t=>t={ s with heap:=h2 }/\Pm us.length q/\Up O (ky x q) us.length) { s with heap:=h2 } :=
   Hy (c:=asks O x) (n:=us.length) (λi j C hi hj hC=>ht i j C hi hj hC) (jA (OH (by omega)) λq hq=>⟨rfl,hq⟩)
  refine WD (Yy (kat_run (Q:=λdI t=>∃q:Array Nat,q.size=us.length/\arrOf dI=q.map (kas_item (us.toArray.zip us.toArray))/\failedOf dI=none/\t={ s with heap:=h2 }/\Pm us.length q/\Up O (ky x q) us.length)
   rfl (by omega) hz (λq dI t a1 a2 a3 a4=>⟨q,a1,a2,a3,a4⟩) tree) ?_ λ_ _ z=>z)
  rintro ⟨⟨⟩,dI⟩ t ⟨q,hq,UR,hf,rfl,h3,h4⟩;dsimp only;rw[kat_snds rfl UR];refine WD (seqEpoch_at oP rfl (WD (listUpdate_at oP rfl ?_ (X1 _) ?_)))
  ·rw[hf]
   simp only[bne_self_eq_false,WH,if_false];exact WG (last q h3 h4)
  ·show ((q.toList.map λi=>us.getD i Value.none).toArray).size<=WX+1
   rw[W2,WJ,Xj,hq];omega
theorem LP {l:Addr} {us:List Value} {Q:Value->WI->Prop} (hl:s.heap.IsList l us.toArray) (hz:us.length<64)
  (hk:2<=us.length->∀h1,(∀c o,s.heap.get? c=some o->h1.get? c=some o)->wH prog w A.in1.in1 O x us { s with heap:=h1 })
  (hQ:∀(q:Array Nat) h' b e,Pm us.length q->Up O (ky x q) us.length->(∀c o,s.heap.get? c=some o->h'.get? c=some o)->s.heap.objs.size<=b->h'.get? b=some (aa4 "list" (q.toList.map λi=>us.getD i Value.none).toArray e)->Q (.ref b) { s with heap:=h' }) :
  wpAny (model prog w) A (call (.builtin "sorted") [.ref l]) Q E s:=by
 have line:us.length<=WX:=by rw[Zz];omega
 refine Calls.call_function_entry kind_sorted plain_sorted entry_sorted (args_sorted1 _) ?_;unfold YS.«sorted»;refine WD (m:=checkCount "sorted" 1 1 _) (WG (WD (collect_list hl (WD (wpAny_newList ?_ line)) line)));generalize hg:((s.heap.push (aa4 "list" #[] 0)).update s.heap.objs.size (YK (·++us.toArray)))=h1;have tD:h1.objs.size=s.heap.objs.size+1:=by rw[<- hg,Heap.size_update,size_push']
 have Ag:∀c o,s.heap.get? c=some o->h1.get? c=some o:=λc o e=>by
  have bp:c<s.heap.objs.size:=WS e;rw[<- hg,aa2 _ _ _ _ (Xe bp)];exact WE _ e
 show wpAny _ _ _ _ _ { s with heap:=h1.push (aa4 "list" us.toArray 0) }
 have hb:(h1.push (aa4 "list" us.toArray 0)).get? h1.objs.size=some (aa4 "list" us.toArray 0):=WN _ rfl;have old:∀c o,s.heap.get? c=some o->c≠h1.objs.size/\(h1.push (aa4 "list" us.toArray 0)).get? c=some o:=λc o e=>by
  have bp:c<s.heap.objs.size:=WS e;exact⟨Xe (by rw[tD];exact Yi bp),WE _ (Ag c o e)⟩
 refine WD (Yf (Xs slot_list_sort ⟨_,hb,rfl⟩ entry_list_sort (J9 hb hz (λz h' ho=>hk z h' λc o e=>ho c o (old c o e).1 (old c o e).2) λq h' e h3 h4 ho hq=>⟨_,rfl,?_⟩) (args_list_sort _)));exact WG ⟨_,rfl,hQ q h' _ e h3 h4 (λc o e=>ho c o (old c o e).1 (old c o e).2) (by show _<=h1.objs.size;rw[tD];exact aat _) hq⟩
end
end ST
namespace ST
open PySem PySem.W PyProof.Rows HT
theorem yC:∀a:List Int,lexLt a a=false:=λa=>by
 induction a with
 |nil=>rfl
 |cons i r ih=>rw[jc,if_pos rfl];exact ih
theorem Qs:∀a b c:List Int,lexLt a b=true->lexLt b c=true->lexLt a c=true:=λa=>by
 induction a with
 |nil =>
  intro b c h g
  cases b with
  |nil=>cases h
  |cons j s=>cases c with
   |nil=>cases g
   |cons k t=>rfl
 |cons i r ih =>
  intro b c h g
  cases b with
  |nil=>cases h
  |cons j s =>
   cases c with
   |nil=>cases g
   |cons k t =>
    rw[jc] at h g |-;by_cases e1:i=j
    ·subst e1
     rw[if_pos rfl] at h;by_cases e2:i=k
     ·rw[if_pos e2] at g |-;exact ih s t h g
     ·rw[if_neg e2] at g |-;exact g
    ·rw[if_neg e1] at h
     have h:=of_decide_eq_true h;by_cases e2:j=k
     ·subst e2
      rw[if_neg e1];exact decide_eq_true h
     ·rw[if_neg e2] at g
      have g:=of_decide_eq_true g;rw[if_neg (by omega)];exact decide_eq_true (by omega)
theorem OI:∀a b:List Int,lexLt a b=false->lexLt b a=false->a=b:=λa=>by
 induction a with
 |nil =>
  intro b h g
  cases b with
  |nil=>rfl
  |cons j s=>cases h
 |cons i r ih =>
  intro b h g
  cases b with
  |nil=>cases g
  |cons j s =>
   rw[jc] at h g;by_cases e:i=j
   ·subst e
    rw[if_pos rfl] at h g;rw[ih s h g]
   ·rw[if_neg e] at h
    rw[if_neg (Zx e)] at g;have h:=of_decide_eq_false h;have g:=of_decide_eq_false g;omega
section
variable {prog:Xf} {w:World} {A:Xv} {E:Value->WI->Prop} {s:WI}
inductive mF (h:Heap):List Value->List (List Int)->Prop where
 |nil:mF h [] []
 |cons {a:Addr} {its:Array Value} {ns:List Int} {us:List Value} {iH:List (List Int)}:IsTup h a its->aal its.toList ns->mF h us iH->mF h (.ref a::us) (ns::iH)
theorem mF.keep {h h':Heap} (k:∀c o,h.get? c=some o->h'.get? c=some o) {us:List Value} {iH:List (List Int)} (t:mF h us iH):mF h' us iH:=by
 induction t with
 |nil=>exact .nil
 |cons a b _ ih =>
  obtain⟨o,ho,r⟩:=a;exact .cons ⟨o,k _ _ ho,r⟩ b ih
theorem mF.at {h:Heap} {us:List Value} {iH:List (List Int)} (t:mF h us iH):∀i,i<us.length->∃a its,us.getD i Value.none=.ref a/\IsTup h a its/\aal its.toList (iH.getD i []):=by
 induction t with
 |nil=>intro i hi;simp at hi
 |cons a b _ ih =>
  intro i hi
  cases i with
  |zero=>exact⟨_,_,rfl,a,b⟩
  |succ i =>
   obtain⟨c,its,e,r⟩:=ih i (by simpa using hi);exact⟨c,its,by simpa using e,r⟩
inductive tX:List (Option Value)->List (List Int)->Prop where
 |nil:tX [] []
 |aB {fs:List (Option Value)} {iH:List (List Int)}:tX fs iH->tX (none::fs) ([]::iH)
 |one {fs:List (Option Value)} {iH:List (List Int)} {n:Int} {t:Tok} {r:List Int}:tX fs iH->tX (some (.int n t)::fs) ((n::r)::iH)
noncomputable def ins {α:Type} (O:Ord α) (a:α):List α->List α
 | []=>[a]
 |b::r=>if O.lt b a=true then b::ins O a r else a::b::r
noncomputable def jl {α:Type} (O:Ord α):List α->List α
 | []=>[]
 |a::r=>ins O a (jl O r)
end
section
variable {α:Type} {O:Ord α}
theorem EF (a:α) (l:List α):(ins O a l).Perm (a::l):=by
 induction l with
 |nil=>exact .refl _
 |cons b r ih =>
  unfold ins;split
  ·exact(List.Perm.cons b ih).trans (List.Perm.swap a b r)
  ·exact .refl _
theorem uH (l:List α):(jl O l).Perm l:=by
 induction l with
 |nil=>exact .refl _
 |cons a r ih=>exact(EF a _).trans (ih.cons a)
theorem Qt (a:α) (l:List α) (h:l.Pairwise O.le):(ins O a l).Pairwise O.le:=by
 induction l with
 |nil=>exact aac _ _
 |cons b r ih =>
  obtain⟨h1,h2⟩:=Xx.mp h;unfold ins
  split<;>rename_i hb
  ·refine Xx.mpr ⟨λc hc=>?_,ih h2⟩
   rcases W3.mp ((EF a r).mem_iff.mp hc) with e|e
   ·rw[e];exact Ord.le_of_lt hb
   ·exact h1 c e
  ·have hb:O.le a b:=by rw[Zr] at hb;exact hb
   refine Xx.mpr ⟨λc hc=>?_,h⟩
   rcases W3.mp hc with e|e
   ·rw[e];exact hb
   ·exact Ord.qg hb (h1 c e)
theorem EG (l:List α):(jl O l).Pairwise O.le:=by
 induction l with
 |nil=>exact .nil
 |cons a r ih=>exact Qt a _ ih
theorem LQ:∀{l m:List α},l.Perm m->l.Pairwise O.le->m.Pairwise O.le->l=m:=by
 intro l
 induction l with
 |nil=>intro m h _ _;exact h.nil_eq
 |cons a r ih =>
  intro m h h1 h2
  cases m with
  |nil=>exact absurd h.length_eq (by simp)
  |cons b t =>
   obtain⟨a1,a2⟩:=Xx.mp h1;obtain⟨b1,b2⟩:=Xx.mp h2;have e:a=b:=by
    rcases W3.mp (h.mem_iff.mp WR) with e|e
    ·exact e
    ·rcases W3.mp (h.mem_iff.mpr WR) with e'|e'
     ·exact e'.symm
     ·exact Ord.Hx (a1 b e') (b1 a e)
   subst e;rw[ih h.cons_inv a2 b2]
theorem LR {xs:List α} {d:α} {q:Array Nat} (hp:Pm xs.length q) (hu:Up O (ky (λi=>xs.getD i d) q) xs.length):q.toList.map (λi=>xs.getD i d)=jl O xs:=by
 refine LQ ?_ ?_ (EG xs)
 ·refine(hp.2.map _).trans ?_
  have:(WW xs.length).map (λi=>xs.getD i d)=xs:=by
   apply YL;intro i;by_cases hi:i<xs.length
   ·simp[hi]
   ·simp[hi,Zp hi]
  rw[this];exact(uH xs).symm
 ·rw[List.pairwise_iff_getElem]
  intro i j hi hj eZ;have l1:(q.toList.map λi=>xs.getD i d).length=xs.length:=by rw[WJ,Xj,hp.1]
  have US:j<q.size:=by rw[hp.1];omega
  have qJ:i<q.size:=by omega
  have:=hu i j eZ (by omega);unfold ky at this;simpa [aan,qJ,US] using this
end
end ST
namespace DI
open PySem L2
section
variable {X:Cx} {Ξ:Wd->bq->Prop} {a e tg:Expr} {p pos:Pos} {f:Env->ae->Res D} {fa:Env->ae->Res (List D)}
noncomputable def nL (n:Nat):List D:=(WW n).map λi:Nat=>D.int ((n:Int)-1-i)
theorem LS (n:Nat):(nL n).length=n:=by simp[nL]
theorem LU (n i:Nat):(nL n)[i]?=if i<n then some (.int ((n:Int)-1-i)) else none:=by
 unfold nL;rw[W6];split
 ·rename_i h;rw[XJ h];rfl
 ·rename_i h;rw[Xt (by simp;omega)];rfl
theorem GQ {K:Frag} {w:Wd} {n:Nat}:oA K w (wu n) (nL n):=λw' l' S' i=>by
 refine⟨λd ed=>?_,λhl=>by rw[LS] at hl;exact hl⟩;rw[LU] at ed;split at ed
 ·cases ed
  exact⟨by assumption,λx H' ⟨e1,e2⟩=>⟨w',e1.symm,Le.refl _,S',rfl,e2⟩⟩
 ·cases ed
noncomputable def Bo (fa:Env->ae->Res (List D)):Env->ae->Res (List D):=λenv s=>ar (fa env s) λds s=>match ds with
 | [.int j]=>if (jj j&&decide (0<=j))=true then ok (nL j.toNat) s else none
 |_=>none
theorem RX {p2 jN:Pos} (hg:Gl X "reversed") (hm:X.mg "reversed"=none) (A5:Gl X "range") (A6:X.mg "range"=none) (ha:PA X [a] (tA X.K Ξ fa))
  (he:Xb [a] X.env=(false,eval a X.env)::Xb [] X.env:=by rfl) (dj:(Z5 jN (Xb [] X.env)).any (·.1)=false:=by rfl)
  (hs:Xb [.Call (.Name "range" p2) [a] [] jN] X.env=[(false,eval (.Call (.Name "range" p2) [a] [] jN) X.env)]:=by rfl)
  (wZ:Xb [.Call (.Name "range" p2) [a] [] jN] X.env=(false,eval (.Call (.Name "range" p2) [a] [] jN) X.env)::Xb [] X.env:=by rfl) :
  PI X tg (.Call (.Name "reversed" p) [.Call (.Name "range" p2) [a] [] jN] [] pos) (dq X.K Ξ (Bo fa)) :=
 pV (Qf hg hm (k9 (xF Kw A5 A6 (by decide +kernel) ha (by decide) (by decide) he dj) nu wZ) hs) fun σ H R aE=>by
  obtain⟨w,env,eH,S,eo,h⟩:=aE;subst eH;refine⟨w,env,rfl,S,eo,(Out.ar h).mono λw1 ds l1 S1 h1 vs aw=>?_⟩;split at h1
  ·rename_i j
   split at h1
   ·rename_i hj
    simp only[jj,WK,decide_eq_true_eq] at hj;obtain⟨v,r,rfl,dv,dr⟩:=aw;have e1:v=.int j:=dv;have e2:r=[]:=dr;subst e1 e2;refine⟨j,rfl,λq hq=>?_⟩;refine⟨q,j.toNat,rfl,?_,by omega,?_⟩
    ·rw[dP,Int.toNat_of_nonneg hj.2]
    ·exact h1 (w1.grow q (.bV 0 j)) (Fw.grow hq).le (S1.grow hq) rfl _ GQ
   ·exact h1.elim
  ·exact h1.elim
end
end DI
namespace L2
open PySem PySem.Spec PyProof.Rows
structure GR (sc:Scope) (cl gJ:List (Str×Addr)) (C:Nat) (h:Heap):Prop where
 old:∀n c,gJ.lookup n=some c->(C<c/\(n,NameKind.cell)∈sc.names/\∃v,h.IsCell c v)\/cl.lookup n=some c
 own:∀n,sc.names.lookup n=some .cell\/(cl.lookup n).isSome=true->∃c,gJ.lookup n=some c
 inj:(∀x y c,cl.lookup x=some c->cl.lookup y=some c->x=y)->(∀x c,cl.lookup x=some c->c<C)->∀x y c,gJ.lookup x=some c->gJ.lookup y=some c->x=y
theorem xJ {x:Str} {c:Addr}:∀(names:List (Str×ZJ)) (n:Nat) (acc:List (Str×Addr)),(ZO n names acc).lookup x=some c->((x,NameKind.cell)∈names/\n<=c)\/acc.lookup x=some c
 | [],n,acc,h=>.inr h
 |(y,k)::r,n,acc,h=>by
  unfold ZO at h;split at h
  ·rename_i hk
   have hk:k=.cell:=by simpa using hk
   subst hk
   rcases xJ r (n+1) _ h with ⟨h1,h2⟩|h1
   ·exact .inl ⟨WT _ h1,by omega⟩
   ·rw[Yx] at h1
    split at h1
    ·rename_i e
     have e:x=y:=by simpa using e
     subst e;cases h1;exact .inl ⟨WR,Nat.le_refl _⟩
    ·exact .inr h1
  ·rcases xJ r n acc h with ⟨h1,h2⟩|h1
   ·exact .inl ⟨WT _ h1,h2⟩
   ·exact .inr h1
theorem xK:∀(names:List (Str×ZJ)) (n:Nat) (acc:List (Str×Addr)),(∀x y c,acc.lookup x=some c->acc.lookup y=some c->x=y)->(∀x c,acc.lookup x=some c->c<n)->∀x y c,(ZO n names acc).lookup x=some c->(ZO n names acc).lookup y=some c->x=y
 | [],n,acc,hi,hb=>hi
 |(z,k)::r,n,acc,hi,hb=>by
  unfold ZO;split
  ·refine xK r (n+1) _ (λx y c h1 h2=>?_) λx c h1=>?_
   ·rw[Yx] at h1 h2
    split at h1
    ·rename_i e1
     split at h2
     ·rename_i e2
      exact(by simpa using e1:x=z).trans (by simpa using e2:y=z).symm
     ·cases h1
      exact absurd (hb y _ h2) (Xk _)
    ·split at h2
     ·cases h2
      exact absurd (hb x _ h1) (Xk _)
     ·exact hi x y c h1 h2
   ·rw[Yx] at h1
    split at h1
    ·cases h1;exact YY _
    ·exact Yi (hb x c h1)
  ·exact xK r n acc hi hb
theorem ya {x:Str} {c:Addr} {lo:Nat}:∀(names:List (Str×ZJ)) (h:Heap) (acc:List (Str×Addr)),lo<=h.objs.size->(∀x c,acc.lookup x=some c->lo<=c->h.IsCell c none)->(ZO h.objs.size names acc).lookup x=some c->lo<=c->(pushCells h names).IsCell c none
 | [],h,acc,_,ha,e,hl=>ha x c e hl
 |(z,k)::r,h,acc,IJ,ha,e,hl=>by
  unfold ZO at e;unfold pushCells;split at e
  ·rename_i hk
   rw[if_pos hk];have hz:(h.push { cls:=.type "cell",data:=.cell none }).objs.size=h.objs.size+1:=XU ..;refine ya (lo:=lo) r _ ((z,h.objs.size)::acc) (by omega) (λy d hy hd=>?_) (by rw[hz];exact e) hl;rw[Yx] at hy;split at hy
   ·cases hy
    exact⟨_,WN _ rfl,rfl⟩
   ·exact(ha y d hy hd).keeps λb o q=>WE _ q
  ·rename_i hk
   rw[if_neg hk];exact ya r h acc IJ ha e hl
theorem JU {M:Model} {A:Xv} {E:Value->WI->Prop} {s:WI} {scope:Scope} {globals:Addr} {cl:List (Str×Addr)} {qual:Str} {env:Env} {bi:Addr} {Q:Env->WI->Prop}
  (hQ:∀gJ h3,((∀x c,cl.lookup x=some c->c<s.heap.objs.size)->GR scope cl gJ s.heap.objs.size h3)->h3.Ns s.heap.objs.size (λ_=>none)->(∀b o,s.heap.get? b=some o->h3.get? b=some o)->Q (newEnv scope s.heap.objs.size globals gJ qual none .none (some env) bi) { s with heap:=h3 }) :
  wpAny M A (newFunctionEnv scope globals cl [] qual none .none (some env) bi) Q E s:=by
 simp only[newFunctionEnv,Option.isSome_some,if_true];refine WD (wpAny_alloc ?_)
 refine WD (wpAny_layCells _ (λname kind cells=>by cases UT:kind==NameKind.cell<;>simp[UT]) _ _ _ _ ?_)
 rw[show ({ s with heap:=s.heap.push { cls:=.type "dict",data:=.dict #[] } }:WI).heap.objs.size=s.heap.objs.size+1 from XU ..]
 simp only[List.forIn_nil];refine WD (WG (WG ?_));have hz:(s.heap.push { cls:=.type "dict",data:=.dict #[] }).objs.size=s.heap.objs.size+1:=XU ..;refine hQ (ZO (s.heap.objs.size+1) scope.names cl) _ (λhb=>⟨λn c e=>?_,λn hn=>?_,λhi fq=>xK _ _ _ hi λx c e=>Yi (fq x c e)⟩) ((Heap.Ns.new s.heap (.type "dict")).keeps (pushCells_keeps _ _)) λb o e=>pushCells_keeps _ _ b o (WE _ e)
 ·rcases xJ _ _ _ e with ⟨h1,h2⟩|h1
  ·exact .inl ⟨by omega,h1,none,ya (lo:=s.heap.objs.size+1) scope.names _ cl (by omega) (λx d q hd=>absurd (hb x d q) (Nat.not_lt.mpr (Nat.le_of_succ_le hd))) (by rw[hz];exact e) h2⟩
  ·exact .inr h1
 ·exact Option.isSome_iff_exists.mp (aag scope.names _ cl hn)
noncomputable abbrev ef (X:Cx) (N:List Str) (sc:Scope) (cl:List (Str×Addr)) (C:Addr) (s:WI) (H:Hp) (ex:List Addr) (pn:List (Addr×Obj)):Cx:={ cM X N sc cl C s H ex pn with fn:=λx=>sc.names.lookup x==some .cell }
structure lA (X:Cx) (sc:Scope) (N:List Str) (nt:Nat) (cap:List Nat):Prop where
 kind:sc.kind=.function
 names:∀x∈sc.names,x.2=.local->sc.names.lookup x.1=some .local
 cells:∀x∈sc.names,x.2=.cell->sc.names.lookup x.1=some .cell
 frees:∀x∈sc.names,x.2=.free->sc.names.lookup x.1=some .free/\(X.env.scope.names.lookup x.1=some .cell\/X.env.scope.names.lookup x.1=some .free)
 len:N.length=nt+cap.length
 z9:∀(k:Nat) j,cap[k]?=some j->∃x,X.N[j]?=some x/\N[nt+k]?=some x/\(x,Xu)∈sc.names
section
variable {X:Cx} {sc:Scope} {N:List Str} {nt:Nat} {cap:List Nat} {cl gJ:List (Str×Addr)} {s:WI} {h1:Heap} {H:Hp} {σ:St} {pins:List (Addr×Obj)} {fp:List Addr} {C:Addr} {t':Nat}
theorem Inv.Qu (I:Inv X pins σ H s) (S:lA X sc N nt cap) (dM:∀n c,cl.lookup n=some c↔((n,Xu)∈sc.names/\X.env.cells.lookup n=some c)) (gF:GR sc cl gJ C h1) (hf:∀b∈fp,fT X pins H b) (i6:∀b∈fp,b<s.heap.objs.size)
  (hk:∀b o,s.heap.get? b=some o->h1.get? b=some o) (hC:s.heap.objs.size<=C) (mP:∃m,h1.Ns C m):Inv (ef X N sc gJ C s H fp (X.pn++pins)) [] (ka nt cap σ) H { s with heap:=h1,toks:=t' }:=by
 have rM:∀b∈gR X.stack,b∈X.env.locals::X.fs:=I.lh;have Tw:∀x c,cl.lookup x=some c->c<s.heap.objs.size:=λx c e=>by
  obtain⟨v,o,ho,_⟩:=I.cell x c ((dM x c).mp e).2;exact WS ho
 have zv:∀x,(relabel sc X.env).names.lookup x=some .cell\/(relabel sc X.env).names.lookup x=some .free->(x,Xu)∈sc.names\/sc.names.lookup x=some .cell:=λx hx=>by
  rw[uk] at hx
  cases e:sc.names.lookup x with
  |none=>rw[e] at hx;rcases hx with z|z<;>cases z
  |some k =>
   have hm:(x,k)∈sc.names:=by
    obtain⟨l1,l2,e1,_⟩:=List.lookup_eq_some_iff.mp e;rw[e1];simp
   rw[e] at hx
   cases k with
   |free=>exact .inl hm
   |cell=>exact .inr rfl
   |_=>exfalso;revert hx;simp
 have yr:∀x,(x,Xu)∈sc.names->∃c,X.env.cells.lookup x=some c:=λx hx=>I.ok.has x (S.frees _ hx rfl).2;have Ie:∀x c,(x,Xu)∈sc.names->X.env.cells.lookup x=some c->gJ.lookup x=some c:=λx c hx hc=>by
  have e:=(dM x c).mpr ⟨hx,hc⟩;obtain⟨d,hd⟩:=gF.own x (.inr (by rw[e];rfl))
  rcases gF.old x d hd with ⟨_,q,_⟩|q
  ·have z1:=S.cells _ q rfl
   have z2:=(S.frees _ hx rfl).1;dsimp only at z1 z2;rw[z1] at z2;cases z2
  ·rw[e] at q
   cases q;exact hd
 have ok:Cx.Ok (ef X N sc gJ C s H fp (X.pn++pins)):=by
  refine⟨I.ok.mod,?_,I.ok.glob,I.ok.blt,hC,?_,?_,?_,I.ok.hd,I.ok.frames,.inl rfl,?_,I.bs,W7 I.ok.jr I.sz,?_,?_,I.stack,I.ym⟩
  ·exact S.kind
  ·exact gF.inj (λx y c hx hy=>I.ok.inj x y c ((dM x c).mp hx).2 ((dM y c).mp hy).2) λx c e=>WL (Tw x c e) hC
  ·intro x hx
   rcases zv x hx with hm|hm
   ·obtain⟨c,e⟩:=yr x hm
    exact⟨c,Ie x c hm e⟩
   ·exact gF.own x (.inl hm)
  ·intro x c hx e
   rcases gF.old x c e with ⟨q,_,_⟩|q
   ·exact W7 hC (Nat.le_of_lt q)
   ·have z2:=(S.frees _ ((dM x c).mp q).1 rfl).1
    have z1:sc.names.lookup x=some .cell:=by simpa using hx
    dsimp only at z2;rw[z1] at z2;cases z2
  ·intro b hb
   refine⟨Xe (WL (i6 b hb) hC),λx c e=>?_⟩
   rcases gF.old x c e with ⟨q,_,_⟩|q
   ·exact YH (WL (i6 b hb) (W7 hC (Nat.le_of_lt q)))
   ·exact(hf b hb).2.2.2.2.1 x c ((dM x c).mp q).2
  ·intro b o e hb
   rcases(hf b hb).2.2.2.1 with z|z
   ·exact I.ok.mz b o e z
   ·exact absurd (WL (WS e) (W7 I.ok.jr z)) (Xk _)
  ·intro b hb z
   rcases W3.mp (rM b z) with e|e
   ·exact(hf b hb).2.1 e
   ·exact(hf b hb).2.2.1 e
 obtain⟨m,hm⟩:=mP;obtain⟨mX,Ua,AI⟩:=I.loc;refine⟨ok,rfl,I.bare,Un.kept hk,⟨m,hm,λi x v e1 e2 e3=>?_⟩,λx c e=>?_,I.aM.fresh hC,λx c e=>?_,λp hp=>?_,I.aM.kept hk,?_⟩
 ·
  have hi:nt<=i:=by
   apply Zp;intro bp;have:(ka nt cap σ)[i]?=some none:=by
    unfold ka;rw[W0 (by simpa using bp),X5,if_pos bp]
   rw[this] at e2;cases e2
  have jT:(cap.map λj=>(σ[j]?).getD none)[i-nt]?=some (some v):=by
   have e:=e2;unfold ka at e;rw[Xr (by simpa using hi)] at e;simpa using e
  rw[W6] at jT
  cases ej:cap[i-nt]? with
  |none=>rw[ej] at jT;cases jT
  |some j =>
   rw[ej] at jT;have ev:(σ[j]?).getD none=some v:=Option.some.inj jT;have sY:σ[j]?=some (some v):=by
    cases q:σ[j]? with
    |none=>rw[q] at ev;cases ev
    |some z=>rw[q] at ev;exact congrArg some ev
   obtain⟨y,f1,f2,f3⟩:=S.z9 _ _ ej;rw[Nat.add_sub_cancel' hi] at f2;have AJ:y=x:=Option.some.inj (f2.symm.trans e1);subst AJ;obtain⟨g1,g2⟩:=S.frees _ f3 rfl;have AK:sE X.env.scope y:=.inr g2;obtain⟨u,r,l⟩:=AI j y v f1 sY AK;refine⟨u,r,.inr ⟨?_,?_⟩⟩
   ·show (relabel sc X.env).names.lookup y=some .cell\/(relabel sc X.env).names.lookup y=some .free
    rw[uk,g1];simp only[YC];split
    ·exact .inl rfl
    ·exact .inr rfl
   ·rcases l with ⟨k,_⟩ | ⟨_,c,hc,ml⟩
    ·exfalso
     have k':X.env.scope.names.lookup y=some .local:=k;dsimp only at g2;rw[k'] at g2
     rcases g2 with z|z<;>cases z
    ·obtain⟨oc,ho,hd⟩:=ml
     exact⟨c,Ie y c f3 hc,oc,hk _ _ ho,hd⟩
 ·rcases gF.old x c e with ⟨_,_,q⟩|q
  ·exact q
  ·obtain⟨v,oc,ho,hd⟩:=I.cell x c ((dM x c).mp q).2
   exact⟨v,oc,hk _ _ ho,hd⟩
 ·rcases gF.old x c e with ⟨q,_,_⟩|q
  ·exact I.aM.fresh (by omega)
  ·exact I.fy x c ((dM x c).mp q).2
 ·have AL:p∈X.pn++pins:=by simpa using hp
  obtain⟨e,n,ne,nf,d⟩:=I.pin p AL;refine⟨hk _ _ e,n,Xe (WL (WS e) hC),λz=>?_,d⟩
  rcases W3.mp (rM p.1 z) with q|q
  ·exact ne q
  ·exact nf q
 ·unfold ka
  rw[Xw,ZC,WJ];exact S.len.symm
end
section
variable {X:Cx}
theorem Ds {el tg src:Expr} {tests:List Expr} {sc:Scope} {ps:Pos} {N:List Str} {nt:Nat} {cap:List Nat} {wi:TI} {g:TG} {tf:TT} {te:TE} {p1:Pos} {use:Option (Value->Sem Unit)} {R:Value->WI->Prop} {pins:List (Addr×Obj)} {s:WI} {σ:St} {H:Hp} {Q:VK} (hc:X.calm=true) (S:lA X sc N nt cap) (fM:lS g nt) (hi:PI X tg src wi)
  (hY:∀(cl:List (Str×Addr)) (C:Addr) (s:WI) (H:Hp) (ex:List Addr) (pn:List (Addr×Obj)),PG (ef X N sc cl C s H ex pn) tg g/\PF (ef X N sc cl C s H ex pn) tests tf/\PE (ef X N sc cl C s H ex pn) el te)
  (hs:∀x,Xo src X.env x=pure x) (I:Inv X pins σ H s) (h:kc wi nt cap g tf te σ H Q)
  (Aj:∀(s':WI) (H1:Hp) (D C:Addr) (m:Str->Option Value),(∀h',Yp C s'.heap h'->Inv X pins σ H1 { s' with heap:=h' })->s'.heap.Ns C m->H1 C=none->C≠X.env.locals->C∉X.fs->X.dg.heap.objs.size<=C->(∀x c,X.env.cells.lookup x=some c->c≠C)->(∀p∈X.pn++pins,p.1≠C)->Q (.ref D) H1->compPost (model X.prog X.w) X.A X.xe use R (.ref D) C (.ok .next) s') :
  wpAny (model X.prog X.w) X.A (comprehension (.ListComp el [⟨tg,src,tests,0⟩] sc ps) sc X.env p1 (newList []) false (eval src X.env) use) R X.xe s:=by
 obtain⟨cl,zy,dM⟩:=Gp (env:=X.env) (sc:=sc) λn hn=>I.ok.has n (S.frees _ hn rfl).2;refine wpAny_comprehension_free (use:=use) rfl hs zy S.kind S.names (aK (hi pins s σ H _ I h) λxv s1 h1=>aK h1 λia s2 h2=>?_);obtain⟨it,fp,tn,J,H2,e,I2,T,js,f2,W,⟨m0,w0⟩,turn⟩:=h2;subst e;refine W8 (JU λgJ h3 lR jO mV=>?_);dsimp only at lR jO mV |-;generalize hD:s2.heap.objs.size=D at lR jO mV |-;generalize hG:s2.heap.push { cls:=.type "list",dict:=none,data:=.seq ([]:List Value).toArray }=G at lR jO mV |-;generalize Be:G.objs.size=C at lR jO mV |-;have hC:C=D+1:=by rw[<- Be,<- hG,XU,hD]
 have oK:D≠C:=by omega
 have gA:s2.heap.objs.size<=D:=Nat.le_of_eq hD;have hU:s2.heap.objs.size<=C:=by omega
 have old:∀b o,s2.heap.get? b=some o->h3.get? b=some o:=λb o e=>mV b o (hG ▸ WE _ e);have km:h3.PlainList D #[]:=⟨_,mV _ _ (hG ▸ hD ▸ WN _ rfl)⟩;have i6:∀b∈fp,b<s2.heap.objs.size:=λb hb=>by
  obtain⟨o,e,_⟩:=T.obj _ _ js b hb;exact WS e
 have lR:=lR λx c e=>by
  obtain⟨v,o,ho,_⟩:=I2.cell x c ((dM x c).mp e).2;exact WL (WS ho) hU
 have IB:=I2.Qu (t':=s2.toks) S dM lR f2 i6 old hU ⟨_,jO⟩;have Bf:D∉gR X.stack:=λz=>by
  rcases W3.mp (I2.lh D z) with e|e
  ·exact absurd (WL I2.lt gA) (by rw[e];exact Xk _)
  ·exact I2.r6 gA e
 have lV:D∉fp:=λz=>absurd (WL (i6 D z) gA) (Xk _);have yX:∀x c,gJ.lookup x=some c->c≠D:=λx c e z=>by
  rcases lR.old x c e with ⟨q,_,_⟩|e
  ·rw[z] at q
   exact absurd q (by rw[hC];exact Nat.not_lt.mpr (aat D))
  ·obtain⟨v,o,ho,_⟩:=I2.cell x c ((dM x c).mp e).2
   exact absurd (WL (WS ho) (by rw[z];exact gA)) (Xk _)
 have zz:∀p∈X.pn++pins,p.1≠D:=λp hp z=>absurd (WL (WS (I2.pin p hp).1) (by rw[z];exact gA)) (Xk _);generalize gK:ef X N sc gJ C s2 H2 fp (X.pn++pins)=Y at IB;have lW:∀{H':Hp} {pl:List (Addr×Obj)},(∀b∈fp,H' b=none)->(∀p∈pl,p.1∉fp)->∀b∈fp,fT Y pl H' b:=λ{H' pl} hn hp b hb=>by
  subst gK;obtain⟨_,f1,oI,f3,f4,f5⟩:=f2 b hb;refine⟨hn b hb,Xe (WL (i6 b hb) hU),λz=>?_,.inl hb,λx c e=>(lR.old x c e).elim (λq z=>YH (WL (i6 b hb) (W7 hU (Nat.le_of_lt q.1))) z) λe=>f4 x c ((dM x c).mp e).2,λp tO=>?_⟩
  ·rcases W3.mp (I2.lh b z) with e|e
   ·exact f1 e
   ·exact oI e
  ·rcases XX.mp tO with z|z
   ·exact f5 p z
   ·exact λe=>hp p z (e ▸ hb)
 have Bg:PG Y tg g:=by subst gK;exact(hY _ _ _ _ _ _).1
 have Bh:PF Y tests tf:=by subst gK;exact(hY _ _ _ _ _ _).2.1
 have UU:PE Y el te:=by subst gK;exact(hY _ _ _ _ _ _).2.2
 have eP:Y.prog=X.prog:=by subst gK;rfl
 have eW:Y.w=X.w:=by subst gK;rfl
 have eA:Y.A=X.A:=by subst gK;rfl
 have eK:Y.K=X.K:=by subst gK;rfl
 have eE:Y.env=compEnvC sc gJ C X.env:=by subst gK;rfl
 have eX:Y.xe=λ_ _=>False:=by subst gK;rfl
 have eC:Y.calm=true:=by subst gK;exact hc
 have eS:Y.dg.heap.objs.size<=D:=by subst gK;exact gA
 have eF:D∉Y.fs:=by subst gK;exact Bf
 have eL:D≠Y.env.locals:=by subst gK;exact oK
 have UW:∀x c,Y.env.cells.lookup x=some c->c≠D:=by subst gK;exact yX
 have eN:∀p∈Y.pn,p.1≠D:=by subst gK;exact zz
 have fin:∀(s':WI) (τ:St) (H':Hp) (acc:List V) (ys:Array Value),Inv Y [] τ H' s'->s'.heap.PlainList D ys->Vals acc ys.toList->H' D=none->acc.length<=WX->(∀D,H' D=none->Q (.ref D) (upd H' D (.lst acc))) ->
   compPost (model X.prog X.w) X.A X.xe use R (.ref D) C (.ok .next) s':=by
  intro s' τ H' acc ys I' pl rv hn hz q;subst gK;obtain⟨m,hm,_⟩:=id I'.loc;refine Aj s' (upd H' D (.lst acc)) D C m (λh' sb=>?_) hm ?_ (λz=>absurd (WL I2.lt hU) (by rw[z];exact Xk _)) (I2.r6 hU) (W7 I2.sz hU) (λx c e z=>?_) (λp hp z=>absurd (WL (WS (I2.pin p hp).1) (by rw[z];exact hU)) (Xk _)) (q D hn)
  ·have Ao:cA X.prog X.w H' h':=I'.aM.but I'.free sb
   obtain⟨n,ho⟩:=pl;have dZ:h'.get? D=some { cls:=.type "list",data:=.seq ys n }:=(sb.2 D oK).trans ho;have new:dD X.prog X.w (upd H' D (.lst acc)) h' D (.lst acc):=⟨hz,ys.toList,n,rv,by simpa using dZ⟩;have u:=(I'.base.but hU sb).adopt (o:=.lst acc) gA hn
   refine I2.zp (s':={ s' with heap:=h' }) (ch:=fp) I'.os u (Ao.adopt hn new) I'.bare (λb hb=>?_)
   obtain⟨_,f1,_,f3,f4,f5⟩:=f2 b hb;exact⟨f3,f1,f4,f5⟩
  ·rw[bF (Zx oK)]
   exact I'.free
  ·obtain⟨v,o,ju,_⟩:=I2.cell x c e
   exact absurd (WL (WS ju) (by rw[z];exact hU)) (Xk _)
 have loop:aaV (model X.prog X.w) X.A (.compLoop (.ListComp el [⟨tg,src,tests,0⟩] sc ps) 0 (.ref it) (.ref D) (compEnvC sc gJ C X.env)) (compPost (model X.prog X.w) X.A X.xe use R (.ref D) C)
   { s2 with heap:=h3 }:=by
  refine KW (λn s'=>∃i acc o H' ys,Inv Y [] (o++mm cap σ) H' s'/\o.length=nt/\tn i s'.heap/\(∀b∈fp,H' b=none)/\s'.heap.PlainList D ys/\Vals acc ys.toList/\H' D=none/\W i n acc H') ?_ m0
   ⟨0,[],WM nt none,H2,#[],IB,by simp,T.keep _ _ _ js λb _ o e=>old b o e,λb hb=>(f2 b hb).1,km,.nil,I2.aM.fresh gA,w0⟩
  rintro n s3 ⟨i,acc,o3,H3,ys,I3,Jb,mI,mJ,UX,mW,UY,w3⟩;generalize UZ:o3++mm cap σ=τ at I3;obtain⟨nn,ho⟩:=id UX;generalize Jc:({ cls:=.type "list",data:=.seq ys nn }:Obj)=oD at ho;have RY:∀v,oD.data≠.cell v:=λv z=>by subst Jc;cases z
  have tQ:Inv Y [(D,oD)] τ H3 s3:=I3.kZ λp hp=>by
   have e:p=(D,oD):=by simpa using hp
   subst e;exact⟨ho,UY,eL,eF,RY⟩
  have oJ:∀p∈[(D,oD)],p.1∉fp:=λp hp=>by
   have e:p=(D,oD):=by simpa using hp
   subst e;exact lV
  have qG:∀{pl:List (Addr×Obj)} {cN:St} {H':Hp} {s':WI},Inv Y ([(D,oD)]++pl) cN H' s'->s'.heap.PlainList D ys/\H' D=none:=λ{pl cN H' s'} I'=>by
   have q:=I'.pin (D,oD) (WU _ (X8 _ (by simp)));exact⟨⟨nn,by rw[Jc];exact q.1⟩,q.2.1⟩
  rcases turn i n acc H3 w3 with ⟨stop,hz,q⟩ | ⟨go,hz,N',hN,step⟩
  ·have hd:=T.done Y eP eW eK eC i [(D,oD)] s3 τ H3 (λ_ _=>False) tQ (lW mJ oJ) mI stop
   rw[eA] at hd;refine aK hd λr s4 h4=>?_;obtain⟨hr,I4⟩:=h4;subst hr;obtain⟨Bc,n4⟩:=qG (pl:=[]) (by simpa using I4);exact fin s4 τ H3 acc ys (Inv.kW (pins:=[]) I4) Bc mW n4 hz q
  ·have hd:=T.item Y eP eW eK eC i [(D,oD)] s3 τ H3 (λ_ _=>False) tQ (lW mJ oJ) mI go
   rw[eA] at hd;refine aK hd λr s4 h4=>?_;obtain⟨u,hr,h4⟩:=h4;subst hr;refine aK h4 λ_ s5 h5=>?_;obtain⟨x,H5,I5,r5,y5,jQ,sM⟩:=h5;have sO:=I5.pinned (lW sM oJ) (T.obj _ _ jQ);have q5:=Bg _ s5 τ H5 x u _ sO r5 (UZ ▸ fM x o3 _ H5 _ Jb (step o3 x H5 Jb y5));rw[eP,eW,eA,eE,eX] at q5;refine aK q5 λ_ s6 h6=>?_;obtain⟨qH,H6,I6,⟨o6,tR,wD⟩,q6⟩:=h6;have q7:=Bh _ s6 qH H6 _ I6 q6;rw[eP,eW,eA,eE,eX] at q7;refine aK q7 λb s7 h7=>?_;obtain⟨H7,I7,q7⟩:=h7;have so:∀{cN:St} {H':Hp} {s':WI},Inv Y ([(D,oD)]++me fp s5.heap) cN H' s'->tn (i+1) s'.heap/\∀b∈fp,H' b=none:=λ{cN H' s'} I'=>by
    refine⟨T.keep _ _ _ jQ λb hb o e=>(I'.pin (b,o) (WU _ (WU _ (pw hb e)))).1,λb hb=>?_⟩;obtain⟨o,e,_⟩:=T.obj _ _ jQ b hb;exact(I'.pin (b,o) (WU _ (WU _ (pw hb e)))).2.1
   cases b with
   |false =>
    rw[if_neg WV] at q7 |-;obtain⟨m',hm,w7⟩:=hN _ _ q7;obtain⟨w9,n7⟩:=qG I7;obtain⟨t7,f7⟩:=so I7;exact⟨m',hm,i+1,acc,o6,H7,ys,wD ▸ I7.kZ (λp hp=>by simp at hp),tR,t7,f7,w9,mW,n7,w7⟩
   |true =>
    rw[if_pos rfl] at q7 |-;have q8:=UU _ s7 qH H7 _ I7 q7;rw[eP,eW,eA,eE,eX] at q8;refine aK q8 λy s8 h8=>?_;obtain⟨v,H8,I8,r8,q9⟩:=h8;obtain⟨m',hm,w8⟩:=hN _ _ q9;obtain⟨A8,n8⟩:=qG I8;obtain⟨t8,f8⟩:=so I8;have A9:ys.size<=WX:=by
     have e:=mW.length;simp only[Xj] at e;omega
    refine wpAny_list_append_plain (hsz:=A9) A8 λh9 Ba w6=>?_;have Bb:Inv Y [] qH H8 s8:=I8.kZ (λp hp=>by simp at hp)
    have I9:Inv Y [] qH H8 { s8 with heap:=h9,toks:=s8.toks }:=Bb.turned (it:=D) (λb o hb e=>(w6.2 b hb).trans e) n8 eL (.inr eS) UW (λp hp=>eN p (by simpa using hp))
    refine⟨m',hm,i+1,acc++[v],o6,H8,ys.push y,wD ▸ I9,tR,T.keep _ _ _ t8 λb hb o e=>(w6.2 b (λz=>lV (z ▸ hb))).trans e,f8,Ba,?_,n8,w8⟩;rw[aar];exact Vals.append mW (.cons r8 .nil)
 exact codeAny_compStart_list loop (T.self _ _ _ _ _ (T.keep _ _ _ js λb _ o e=>old b o e) loop)
theorem yb {el tg src:Expr} {tests:List Expr} {sc:Scope} {ps:Pos} {N:List Str} {nt:Nat} {cap:List Nat} {wi:TI} {g:TG} {tf:TT} {te:TE} (hc:X.calm=true) (S:lA X sc N nt cap) (fM:lS g nt) (hi:PI X tg src wi)
  (hY:∀(cl:List (Str×Addr)) (C:Addr) (s:WI) (H:Hp) (ex:List Addr) (pn:List (Addr×Obj)),PG (ef X N sc cl C s H ex pn) tg g/\PF (ef X N sc cl C s H ex pn) tests tf/\PE (ef X N sc cl C s H ex pn) el te)
  (hs:∀x,Xo src X.env x=pure x:=by intro _;rfl):PE X (.ListComp el [⟨tg,src,tests,0⟩] sc ps) (kc wi nt cap g tf te):=by
 intro pins s σ H Q I h;rw[eval_ListComp];exact Ds (use:=none) hc S fM hi hY hs I h λs' H1 D C m IX hm _ _ _ _ _ _ q=>⟨m,hm,λh' sb=>⟨.ref D,H1,IX h' sb,rfl,q⟩⟩
theorem Nf {el tg src:Expr} {tests:List Expr} {sc:Scope} {ps pos pos':Pos} {N:List Str} {nt:Nat} {cap:List Nat} {wi:TI} {g:TG} {tf:TT} {te:TE} {i0:Nat} {x0:Str} (Bp:X.N.Nodup) (Bq:X.N[i0]?=some x0) (Br:Loc X.env.scope x0) (hc:X.calm=true) (S:lA X sc N nt cap) (fM:lS g nt) (hi:PI X tg src wi)
  (hY:∀(cl:List (Str×Addr)) (C:Addr) (s:WI) (H:Hp) (ex:List Addr) (pn:List (Addr×Obj)),PG (ef X N sc cl C s H ex pn) tg g/\PF (ef X N sc cl C s H ex pn) tests tf/\PE (ef X N sc cl C s H ex pn) el te)
  (hs:∀x,Xo src X.env x=pure x:=by intro _;rfl)
  (Bs:swapsWith (.ListComp el [⟨tg,src,tests,0⟩] sc ps) (some (.Name x0 pos')) pos.line X.env=pure true:=by rfl)
  (Bt:X.fn x0=true\/X.env.scope.names.lookup x0=some .local:=by first|exact .inl rfl|exact .inr rfl|assumption):PS X (.Assign [.Name x0 pos'] (.ListComp el [⟨tg,src,tests,0⟩] sc ps) pos) (qi (kc wi nt cap g tf te) (lD i0)):=by
 intro pins s σ H D0 I h;rw[exec_Assign_Name_used _ _ _ _ Bs];refine WD (Zg (WD ?_));obtain⟨Q,hQ⟩:∃Q:VK,Q=λv H1=>lD i0 v σ H1 D0.nx:=⟨_,rfl⟩;have h:kc wi nt cap g tf te σ H Q:=by rw[hQ];exact h
 have mR:∀v H1,Q v H1->D0.nx (σ.set i0 (some v)) H1:=λv H1 q=>by rw[hQ] at q;exact q
 unfold evalThenUse
 refine WD (Yy (Q:=λ_ s'=>SP X pins D0 .next s') ?_ (λ_ s' q=>WG (WG q)) (λ_ _ z=>z))
 refine Ds (use:=some (aaT (.Name x0 pos') X.env)) hc S fM hi hY hs I h λs' H1 D C m IX hm Jd Je U0 IL ml Tz q=>?_;have Jf:Inv X pins σ H1 s':=IX s'.heap (Heap.SameBut.refl _ _);obtain⟨oC,es,ep,U1,Jg,oh⟩:=id hm;have IP:Inv X ((C,oC)::pins) σ H1 s':=Jf.kZ λp hp=>by
  rcases W3.mp hp with e|e
  ·subst e
   exact⟨U1,Jd,Je,U0,λv z=>by rw[Jg] at z;cases z⟩
  ·exact Jf.pin p (WU _ e)
 show wpAny _ _ (aaT (.Name x0 pos') X.env (.ref D)) _ _ s';refine wpAny_assign_Name (l8 IP Bp Bq Br (show RelV (.ref D) (.ref D) from rfl) (λs3 I3=>?_) Bt);have p3:=(I3.pin (C,oC) (WU _ (WR ..))).1;refine⟨m,⟨oC,es,ep,p3,Jg,oh⟩,λh' sb=>⟨_,H1,?_,mR _ _ q⟩⟩;have I4:Inv X pins (σ.set i0 (some (.ref D))) H1 s3:=I3.kZ λp hp=>I3.pin p (WU _ (WT _ hp));exact I4.turned (it:=C) (t':=s3.toks) (λb o hb e=>(sb.2 b hb).trans e) Jd Je (.inr IL) ml Tz
end
end L2
namespace L2
open PySem
noncomputable def GS (sc:Scope) (on:List (Str×ZJ)) (oN N:List Str) (nt:Nat) (cap:List Nat):Bool :=
 decide (sc.kind=.function)&&sc.names.all (λx=>decide (x.2=.local->sc.names.lookup x.1=some .local))&&sc.names.all (λx=>decide (x.2=.cell->sc.names.lookup x.1=some .cell)) &&
 sc.names.all (λx=>decide (x.2=.free->sc.names.lookup x.1=some .free/\(on.lookup x.1=some .cell\/on.lookup x.1=some .free)))&&decide (N.length=nt+cap.length) &&
 (WW cap.length).all (λk=>match cap[k]? with
  |some j=>match oN[j]? with
   |some x=>decide (N[nt+k]?=some x)&&decide ((x,Xu)∈sc.names)
   |none=>false
  |none=>true)
theorem cw {X:Cx} {sc:Scope} {N:List Str} {nt:Nat} {cap:List Nat} (h:GS sc X.env.scope.names X.N N nt cap=true):lA X sc N nt cap:=by
 unfold GS at h;simp only[WK,XO,decide_eq_true_eq] at h;obtain⟨⟨⟨⟨⟨h1,h2⟩,h3⟩,h4⟩,h5⟩,h6⟩:=h;refine⟨h1,h2,h3,λx hx e=>h4 x hx e,h5,λk j e=>?_⟩;have hk:k<cap.length:=(WO.mp e).1;have:=h6 k (Xy.mpr hk);rw[e] at this;dsimp only at this
 cases ex:X.N[j]? with
 |none=>rw[ex] at this;cases this
 |some x =>
  rw[ex] at this;simp only[WK,decide_eq_true_eq] at this;exact⟨x,rfl,this.1,this.2⟩
end L2
namespace DI
open PySem L2
section
variable {X:Cx} {Ξ:Wd->bq->Prop} {e a b c tg el src:Expr} {es rest tests:List Expr} {pos:Pos} {f g h:Env->ae->Res D} {fa:Env->ae->Res (List D)} {ft gt:Env->ae->Res Bool}
theorem cY {sc:Scope} {ps:Pos} {N:List Str} {nt:Nat} {cap:List Nat} {it:Env->ae->Res (List D)} {gd:D->Env->Option Env} {g0:TG} (hc:X.calm=true) (S:lA X sc N nt cap) (T:Tg X.K g0 gd nt) (hi:PI X tg src (dq X.K Ξ it))
  (hY:∀(cl:List (Str×Addr)) (C:Addr) (s:WI) (H:Hp) (ex:List Addr) (pn:List (Addr×Obj)),PG (ef X N sc cl C s H ex pn) tg g0/\PF (ef X N sc cl C s H ex pn) tests (tT X.K bR ft)/\PE (ef X N sc cl C s H ex pn) el (tE X.K bR f))
  (hs:∀x,Xo src X.env x=pure x:=by intro _;rfl):PE X (.ListComp el [⟨tg,src,tests,0⟩] sc ps) (tE X.K Ξ (aV nt cap it gd ft f)) :=
 cD (yb hc S T.iF hi hY hs) fun σ H Q h=>uG T.imp (λR R' i h=>xW R R' i h) (EA σ H Q h)
theorem yD {sc:Scope} {ps pos':Pos} {N:List Str} {nt:Nat} {cap:List Nat} {it:Env->ae->Res (List D)} {gd:D->Env->Option Env} {g0:TG} (i0:Nat) {x0:Str} (Bp:X.N.Nodup) (hc:X.calm=true) (S:lA X sc N nt cap) (T:Tg X.K g0 gd nt) (hi:PI X tg src (dq X.K Ξ it))
  (hY:∀(cl:List (Str×Addr)) (C:Addr) (s:WI) (H:Hp) (ex:List Addr) (pn:List (Addr×Obj)),PG (ef X N sc cl C s H ex pn) tg g0/\PF (ef X N sc cl C s H ex pn) tests (tT X.K bR ft)/\PE (ef X N sc cl C s H ex pn) el (tE X.K bR f))
  (Bq:X.N[i0]?=some x0:=by rfl) (Br:Loc X.env.scope x0:=by first|exact Yj rfl|exact Or.inr rfl)
  (hs:∀x,Xo src X.env x=pure x:=by intro _;rfl)
  (Bs:swapsWith (.ListComp el [⟨tg,src,tests,0⟩] sc ps) (some (.Name x0 pos')) pos.line X.env=pure true:=by rfl)
  (Bt:X.fn x0=true\/X.env.scope.names.lookup x0=some .local:=by first|exact .inl rfl|exact .inr rfl):PS X (.Assign [.Name x0 pos'] (.ListComp el [⟨tg,src,tests,0⟩] sc ps) pos) (tS X.K Ξ (aN (aV nt cap it gd ft f) (gN i0))) :=
 iN (Nf Bp Bq Br hc S T.iF hi hY hs Bs Bt) λD σ H h=>by
  have h2:=DU (te:=tE X.K Ξ f) D σ H (yA D σ H h);exact uG T.imp (λR R' i h=>xW R R' i h) (EA σ H _ h2)
theorem EH {sc:Scope} {ps:Pos} {N:List Str} {nt:Nat} {cap:List Nat} {it:Env->ae->Res (List D)} {gd:D->Env->Option Env} {g0:TG} (hc:X.calm=true) (S:lA X sc N nt cap) (T:Tg X.K g0 gd nt) (hi:PI X tg src (dq X.K Ξ it))
  (hY:∀(cl:List (Str×Addr)) (C:Addr) (s:WI) (H:Hp) (ex:List Addr) (pn:List (Addr×Obj)),PG (ef X N sc cl C s H ex pn) tg g0/\PF (ef X N sc cl C s H ex pn) tests (tT X.K bR ft)/\PE (ef X N sc cl C s H ex pn) el (tE X.K bR f))
  (hs:∀x,Xo src X.env x=pure x:=by intro _;rfl):PE X (.ListComp el [⟨tg,src,tests,0⟩] sc ps) (tE X.K Ξ (rD nt cap it gd ft f)) :=
 cD (yb hc S T.iF hi hY hs) fun σ H Q h=>uG T.imp (λR R' i h=>xW R R' i h) (LL σ H Q h)
end
end DI
namespace L2
open PySem PySem.Spec PyProof.Rows
section
variable {X:Cx} {tg:Expr}
theorem FD {i:Int} (h:-1<=i):YG i (-1) (-1)=i+1:=by
 unfold YG;simp;omega
noncomputable def RZ (ta:TA):TI:=fun σ H R=>ta σ H λvs H1=>∃i:Int,vs=[.int i,.int (-1),.int (-1)]/\-1<=i/\i<1000000/\R (wu (i+1).toNat) H1
theorem LV {a b c:Expr} {ta:TA} {p pos:Pos} (hg:Gl X "range") (hm:X.mg "range"=none) (ha:PA X [a,b,c] ta) (hs:Xb [a,b,c] X.env=[(false,eval a X.env),(false,eval b X.env),(false,eval c X.env)]:=by rfl) (cB:Xb [b,c] X.env=[(false,eval b X.env),(false,eval c X.env)]:=by rfl) :
  PI X tg (.Call (.Name "range" p) [a,b,c] [] pos) (RZ ta):=by
 intro pins s σ H R I h;refine Call_ (lj I hg hm boot_range (Ya (aK (ha pos pins s σ H _ I h) λus s1 aE=>?_) (by rw[hs,cB]) (by rw[cB];rfl)));obtain⟨vs,H1,I1,r1,q1⟩:=aE;obtain⟨i,e,q1,q2,q⟩:=q1;subst e
 cases r1 with
 |cons r rr =>
  cases rr with
  |cons r' rr =>
   cases rr with
   |cons U2 rr =>
    cases rr;obtain⟨t,rfl⟩:=r;obtain⟨t',rfl⟩:=r';obtain⟨xf,rfl⟩:=U2;refine call_range_3 (by decide) ?_ (.inl (PyProof.noPylong_small (by omega)));refine wpAny_pyIter_range (IsRange.new ..) ?_ ?_
    ·unfold Builtin.Range.small
     rw[FD q1];simp only[X2,WK,Z9,decide_eq_true_eq,beq_iff_eq,show ¬ (-1:Int) > 0 by decide,if_false];omega
    ·have I2:Inv X pins σ H1 { s1 with heap:=s1.heap.push { cls:=.type "range",data:=.fields #[.int i t,.int (-1) t',.int (-1) xf] },toks:=s1.toks }:=I1.kept λb o e=>WE _ e
     rw[FD q1];refine⟨(s1.heap.push { cls:=.type "range",data:=.fields #[.int i t,.int (-1) t',.int (-1) xf] }).objs.size,[(s1.heap.push { cls:=.type "range",data:=.fields #[.int i t,.int (-1) t',.int (-1) xf] }).objs.size],_,_,H1,rfl,
      I2.kept (t':=s1.toks) λb o e=>WE _ e,Ey _ (i+1).toNat,?_,λb hb=>?_,q⟩
     ·have e1:(((i+1).toNat:Nat):Int)-1+((0:Nat):Int)*(-1)=i:=by simp;omega
      have e2:(((i+1).toNat:Nat):Int)-((0:Nat):Int)=i+1:=by simp;omega
      show IsRangeIter _ _ ((((i+1).toNat:Nat):Int)-1+((0:Nat):Int)*(-1)) ((((i+1).toNat:Nat):Int)-((0:Nat):Int)) (-1);rw[e1,e2];exact WN _ rfl
     ·have e:b=(s1.heap.push { cls:=.type "range",data:=.fields #[.int i t,.int (-1) t',.int (-1) xf] }).objs.size:=by simpa using hb
      subst e;exact I2.qj (Nat.le_refl _) (I2.aM.fresh (Nat.le_refl _))
end
end L2
namespace DI
open PySem L2
section
variable {X:Cx} {Ξ:Wd->bq->Prop} {a b c tg:Expr} {pos:Pos} {fa:Env->ae->Res (List D)}
noncomputable def Bu (fa:Env->ae->Res (List D)):Env->ae->Res (List D):=λenv s=>ar (fa env s) λds s=>match ds with
 | [.int i,.int (-1),.int (-1)]=>if (decide (-1<=i)&&decide (i<1000000))=true then ok (nL (i+1).toNat) s else none
 |_=>none
theorem Qv {p:Pos} (hg:Gl X "range") (hm:X.mg "range"=none) (ha:PA X [a,b,c] (tA X.K Ξ fa)) (hs:Xb [a,b,c] X.env=[(false,eval a X.env),(false,eval b X.env),(false,eval c X.env)]:=by rfl) (cB:Xb [b,c] X.env=[(false,eval b X.env),(false,eval c X.env)]:=by rfl):PI X tg (.Call (.Name "range" p) [a,b,c] [] pos) (dq X.K Ξ (Bu fa)) :=
 pV (LV hg hm ha hs cB) fun σ H R aE=>by
  obtain⟨w,env,eH,S,eo,h⟩:=aE;subst eH;refine⟨w,env,rfl,S,eo,(Out.ar h).mono λw1 ds l1 S1 h1 vs aw=>?_⟩;split at h1
  ·rename_i i
   split at h1
   ·rename_i hj
    simp only[WK,decide_eq_true_eq] at hj;obtain⟨v,r,rfl,dv,v2,r2,rfl,jV,v3,r3,rfl,A2,dr⟩:=aw;have e1:v=.int i:=dv;have e2:v2=.int (-1):=jV;have e3:v3=.int (-1):=A2;have e4:r3=[]:=dr;subst e1 e2 e3 e4;exact⟨i,rfl,hj.1,hj.2,aI S1 h1 _ GQ⟩
   ·exact h1.elim
  ·exact h1.elim
end
end DI
namespace L2
open PySem PySem.Spec PyProof.Rows
section
variable {X:Cx}
end
end L2
namespace DI
open PySem L2
section
variable {X:Cx} {Ξ:Wd->bq->Prop} {a:Expr} {p pos:Pos} {fa:Env->ae->Res (List D)}
end
end DI
namespace DI
open PySem L2
section
variable {X:Cx} {Ξ:Wd->bq->Prop} {a:Expr} {p pos:Pos} {f g:Env->ae->Res D} {fa:Env->ae->Res (List D)}
theorem au.erase {K:Frag} {w:Wd}:∀{ds:List D} {xs:List V} (j:Nat),au K w ds xs->au K w (ds.eraseIdx j) (xs.eraseIdx j)
 | [],xs,j,h=>by
  have e:xs=[]:=h;subst e;exact h
 |d::ds,xs,0,h=>by
  obtain⟨v,r,rfl,_,dr⟩:=h;exact dr
 |d::ds,xs,j+1,h=>by
  obtain⟨v,r,rfl,dv,dr⟩:=h;exact⟨v,r.eraseIdx j,rfl,dv,au.erase j dr⟩
end
end DI
namespace DI
open PySem L2 HT PyProof.Rows
section
variable {X:Cx} {Ξ:Wd->bq->Prop}
theorem LW {xs:List V} {us:List Value} (h:Vals xs us):∀{q:List Nat},(∀i∈q,i<us.length)->Vals (q.map λi=>xs.getD i .aB) (q.map λi=>us.getD i Value.none):=by
 intro q
 induction q with
 |nil=>intro _;exact .nil
 |cons i q ih =>
  intro hq;refine .cons ?_ (ih λj hj=>hq j (WT _ hj));have hi:=hq i WR;clear ih hq
  induction h generalizing i with
  |nil=>simp at hi
  |cons a _ ih =>
   cases i with
   |zero=>exact a
   |succ i=>simpa using ih i (by simpa using hi)
theorem Ng {K:Frag} {w:Wd} {ds:List D} {xs:List V} (h:au K w ds xs):∀{q:List Nat},(∀i∈q,i<ds.length)->au K w (q.map λi=>ds.getD i .aB) (q.map λi=>xs.getD i .aB):=by
 intro q
 induction q with
 |nil=>intro _;exact rfl
 |cons i q ih =>
  intro hq;have hi:=hq i WR;obtain⟨v,e,dv⟩:=h.get' i _ (WQ hi);refine⟨_,_,rfl,?_,ih λj hj=>hq j (WT _ hj)⟩;have e1:ds.getD i .aB=ds[i]:=by simp[hi]
  have e2:xs.getD i .aB=v:=by simp[e]
  show DV K w (ds.getD i .aB) (xs.getD i .aB);rw[e1,e2];exact dv
theorem Nh {α:Type} {O:ST.Ord α} {ks:List α} {f:α->D} {d:α} {q:Array Nat} (hp:ST.Pm ks.length q) (hu:ST.Up O (ST.ky (λi=>ks.getD i d) q) ks.length):q.toList.map (λi=>(ks.map f).getD i .aB)=(ST.jl O ks).map f:=by
 rw[<- ST.LR hp hu,Ye];refine Z1 λi hi=>?_;have:i<ks.length:=Xy.mp (hp.2.mem_iff.mp hi);simp[this]
end
end DI
namespace TK
open PySem PySem.W PyProof.Rows DI
mutual
noncomputable def kd:D->Bool
 | .int _=>true
 | .str x=>PyData.strOk x
 | .tup ks=>cQ ks
 |_=>false
noncomputable def cQ:List D->Bool
 | []=>true
 |k::ks=>kd k&&cQ ks
end
mutual
noncomputable def KA (h:Heap):D->Value->Prop
 | .int i,v=>∃t,v=.int i t
 | .str x,v=>∃t,v=.str x t
 | .tup ks,v=>∃a o its n,v=.ref a/\h.get? a=some o/\o.cls=.type "tuple"/\o.data=.seq its n/\cR h ks its.toList
 |_,_=>False
noncomputable def cR (h:Heap):List D->List Value->Prop
 | [],vs=>vs=[]
 |k::ks,vs=>∃v r,vs=v::r/\KA h k v/\cR h ks r
end
mutual
theorem nC:∀k:D,kd k=true->lay k=true
 | .int _,_=>rfl
 | .str _,h=>h
 | .tup ks,h=>by simp only[kd] at h;simp only[lay];exact uX ks h
 | .aB,h=>by cases h
 | .bl _,h=>by cases h
 | .lst _,h=>by cases h
 | .bH _,h=>by cases h
 | .aj _,h=>by cases h
 | .ty _,h=>by cases h
 | .bQ _,h=>by cases h
theorem uX:∀ks:List D,cQ ks=true->cK ks=true
 | [],_=>rfl
 |k::ks,h=>by
  simp only[cQ,cK,WK] at h |-;exact⟨nC k h.1,uX ks h.2⟩
end
mutual
theorem vH:∀x y:D,kd x=true->kd y=true->(beq x y=true↔x=y)
 | .int i,.int j,_,_=>by simp[beq]
 | .str i,.str j,_,_=>by simp[beq]
 | .tup xs,.tup ys,h,g=>by
  simp only[kd] at h g;simp only[beq,yc xs ys h g];exact⟨λe=>by rw[e],λe=>by injection e⟩
 | .int _,.str _,_,_=>by simp[beq]
 | .int _,.tup _,_,_=>by simp[beq]
 | .str _,.int _,_,_=>by simp[beq]
 | .str _,.tup _,_,_=>by simp[beq]
 | .tup _,.int _,_,_=>by simp[beq]
 | .tup _,.str _,_,_=>by simp[beq]
 | .aB,_,h,_=>by cases h
 | .bl _,_,h,_=>by cases h
 | .lst _,_,h,_=>by cases h
 | .bH _,_,h,_=>by cases h
 | .aj _,_,h,_=>by cases h
 | .ty _,_,h,_=>by cases h
 | .bQ _,_,h,_=>by cases h
 |_,.aB,_,h=>by cases h
 |_,.bl _,_,h=>by cases h
 |_,.lst _,_,h=>by cases h
 |_,.bH _,_,h=>by cases h
 |_,.aj _,_,h=>by cases h
 |_,.ty _,_,h=>by cases h
 |_,.bQ _,_,h=>by cases h
theorem yc:∀xs ys:List D,cQ xs=true->cQ ys=true->(iz xs ys=true↔xs=ys)
 | [],[],_,_=>by simp[iz]
 | [],_::_,_,_=>by simp[iz]
 |_::_,[],_,_=>by simp[iz]
 |x::xs,y::ys,h,g=>by
  simp only[cQ,WK] at h g;simp only[iz,WK,vH x y h.1 g.1,yc xs ys h.2 g.2,aad]
end
mutual
theorem KA.reads {h:Heap}:∀(k:D) (v:Value),KA h k v->∃as,Reads h v (py k) as
 | .int i,v,q=>by obtain⟨t,rfl⟩:=q;exact⟨_,.int i t⟩
 | .str x,v,q=>by obtain⟨t,rfl⟩:=q;exact⟨_,.str x t⟩
 | .tup ks,v,q=>by
  simp only[KA] at q;obtain⟨a,o,its,n,rfl,ho,hc,hd,r⟩:=q;obtain⟨as,r⟩:=cR.reads ks _ r;exact⟨as,.tuple ho hc hd r⟩
 | .aB,_,q=>by cases q
 | .bl _,_,q=>by cases q
 | .lst _,_,q=>by cases q
 | .bH _,_,q=>by cases q
 | .aj _,_,q=>by cases q
 | .ty _,_,q=>by cases q
 | .bQ _,_,q=>by cases q
theorem cR.reads {h:Heap}:∀(ks:List D) (vs:List Value),cR h ks vs->∃as,ReadsAll h vs (cy ks) as
 | [],vs,q=>by cases q;exact⟨_,.nil⟩
 |k::ks,vs,q=>by
  obtain⟨v,r,rfl,h1,h2⟩:=q;obtain⟨as,h1⟩:=KA.reads k v h1;obtain⟨bs,h2⟩:=cR.reads ks r h2;exact⟨_,.cons h1 h2⟩
end
theorem Qw {h:Heap} {y:D} {i:Int} {t:Tok} (q:KA h y (.int i t)):y=.int i:=by
 cases y with
 |int j=>obtain⟨_,e⟩:=q;cases e;rfl
 |str j=>obtain⟨_,e⟩:=q;cases e
 |tup ks=>simp only[KA] at q;obtain⟨_,_,_,_,e,_⟩:=q;cases e
 |_=>cases q
theorem Qx {h:Heap} {y:D} {i:Str} {t:Tok} (q:KA h y (.str i t)):y=.str i:=by
 cases y with
 |str j=>obtain⟨_,e⟩:=q;cases e;rfl
 |int j=>obtain⟨_,e⟩:=q;cases e
 |tup ks=>simp only[KA] at q;obtain⟨_,_,_,_,e,_⟩:=q;cases e
 |_=>cases q
theorem Qy {h:Heap} {y:D} {a:Addr} (q:KA h y (.ref a)):∃ks o its n,y=.tup ks/\h.get? a=some o/\o.cls=.type "tuple"/\o.data=.seq its n/\cR h ks its.toList:=by
 cases y with
 |str j=>obtain⟨_,e⟩:=q;cases e
 |int j=>obtain⟨_,e⟩:=q;cases e
 |tup ks =>
  simp only[KA] at q;obtain⟨_,o,its,n,e,r⟩:=q;cases e;exact⟨ks,o,its,n,rfl,r⟩
 |_=>cases q
mutual
theorem KA.inj {h:Heap}:∀(x y:D) (v:Value),KA h x v->KA h y v->x=y
 | .int i,y,v,p,q=>by
  obtain⟨t,rfl⟩:=p;exact(Qw q).symm
 | .str i,y,v,p,q=>by
  obtain⟨t,rfl⟩:=p;exact(Qx q).symm
 | .tup xs,y,v,p,q=>by
  simp only[KA] at p;obtain⟨a,o,its,n,rfl,ho,hc,hd,r⟩:=p;obtain⟨ks,o',its',n',rfl,dZ,iC,hV,r'⟩:=Qy q;cases ho.symm.trans dZ;cases hd.symm.trans hV;rw[cR.inj xs _ _ r r']
 | .aB,_,_,q,_=>by cases q
 | .bl _,_,_,q,_=>by cases q
 | .lst _,_,_,q,_=>by cases q
 | .bH _,_,_,q,_=>by cases q
 | .aj _,_,_,q,_=>by cases q
 | .ty _,_,_,q,_=>by cases q
 | .bQ _,_,_,q,_=>by cases q
theorem cR.inj {h:Heap}:∀(xs ys:List D) (vs:List Value),cR h xs vs->cR h ys vs->xs=ys
 | [],ys,vs,p,q=>by
  cases p
  cases ys with
  |nil=>rfl
  |cons y ys=>obtain⟨_,_,e,_⟩:=q;cases e
 |x::xs,ys,vs,p,q=>by
  obtain⟨v,r,rfl,h1,h2⟩:=p
  cases ys with
  |nil=>cases q
  |cons y ys =>
   obtain⟨v',r',e,g1,g2⟩:=q;cases e;rw[KA.inj x y v h1 g1,cR.inj xs ys r h2 g2]
end
mutual
theorem KA.keep {h h':Heap} (hk:∀a o,h.get? a=some o->o.cls=.type "tuple"->(∃its n,o.data=.seq its n)->h'.get? a=some o):∀(x:D) (v:Value),KA h x v->KA h' x v
 | .int i,v,p=>p
 | .str i,v,p=>p
 | .tup xs,v,p=>by
  simp only[KA] at p |-;obtain⟨a,o,its,n,e,ho,hc,hd,r⟩:=p;exact⟨a,o,its,n,e,hk a o ho hc ⟨its,n,hd⟩,hc,hd,cR.keep hk xs _ r⟩
 | .aB,_,q=>by cases q
 | .bl _,_,q=>by cases q
 | .lst _,_,q=>by cases q
 | .bH _,_,q=>by cases q
 | .aj _,_,q=>by cases q
 | .ty _,_,q=>by cases q
 | .bQ _,_,q=>by cases q
theorem cR.keep {h h':Heap} (hk:∀a o,h.get? a=some o->o.cls=.type "tuple"->(∃its n,o.data=.seq its n)->h'.get? a=some o):∀(xs:List D) (vs:List Value),cR h xs vs->cR h' xs vs
 | [],vs,p=>p
 |x::xs,vs,p=>by
  obtain⟨v,r,e,h1,h2⟩:=p;exact⟨v,r,e,KA.keep hk x v h1,cR.keep hk xs r h2⟩
end
theorem FE {k:D} {ks:List D} (h:k∈ks):dep k<=cV ks:=by
 induction ks with
 |nil=>cases h
 |cons x xs ih =>
  simp only[cV]
  rcases W3.mp h with rfl|h
  ·exact Nat.le_max_left _ _
  ·exact W7 (ih h) (aaK _ _)
mutual
noncomputable def hs (w:World):D->Int
 | .int i=>hashInt i
 | .str x=>hashStr w x
 | .tup ks=>reduceHash (ZX (kI w ks))
 |_=>0
noncomputable def kI (w:World):List D->List Int
 | []=>[]
 |k::ks=>hs w k::kI w ks
end
mutual
noncomputable def dr:D->Nat
 | .int _=>1
 | .str _=>1
 | .tup ks=>jX ks+1
 |_=>0
noncomputable def jX:List D->Nat
 | []=>0
 |k::ks=>dr k+jX ks
end
theorem FF (w:World) (xs ys:List D):kI w (xs++ys)=kI w xs++kI w ys:=by
 induction xs with
 |nil=>rfl
 |cons x xs ih=>simp only[Xn,kI,ih]
theorem FG (xs ys:List D):jX (xs++ys)=jX xs+jX ys:=by
 induction xs with
 |nil=>simp[jX]
 |cons x xs ih=>simp only[Xn,jX,ih,aaQ]
section
variable {prog:Xf} {w:World}
theorem Ni {A:Xv} {E:Value->WI->Prop} {s:WI} {a:Addr} {o:Obj} {items:Array Value} {m:Nat} {ks:List D} {Q:Int->WI->Prop} (hu:A.units<cLine) (ho:s.heap.get? a=some o) (hc:o.cls=.type "tuple") (hd:o.data=.seq items m) (hi:cR s.heap ks items.toList)
  (ih:∀k∈ks,∀(A':Xv) (s':WI) (v:Value) (E':Value->WI->Prop) (Q':Int->WI->Prop),A'.units<=A.units+1->KA s'.heap k v->Q' (hs w k) { s' with toks:=s'.toks+dr k }->wpAny (model prog w) A' (pyHash v) Q' E' s')
  (h:Q (hs w (.tup ks)) { s with toks:=s.toks+dr (.tup ks) }):wpAny (model prog w) A (pyHash (.ref a)) Q E s:=by
 have hT:s.TypeIs (.ref a) "tuple":=⟨o,ho,hc⟩;unfold pyHash
 first|unfold pyHashByItsType|skip
 first|refine WD (wpAny_cRoomFor_or (.inr hu) ?_)|skip
 refine WD (aa1 hT aav.lookup ?_)
 show wpAny _ _ (if (some (Value.builtin "tuple.__hash__")==some Value.none)=true then _ else _) Q E s
 rw[if_neg (by rw[beq_builtin_none];exact WV)];refine WD (aa1 hT aav.lookup ?_);show wpAny _ _ (callSpecialIfBoundUnlessNone? (.ref a) "__hash__" _ >>= _) Q E s;refine WD (wpAny_callSpecialIfBoundUnlessNone?_slot hT aav (Xs aav hT F.entry_tuple_hash ?_ (F.args_tuple_hash_1 _)));show wpAny _ _ (Yo (.ref a) >>= _) _ _ s;refine WD (wpAny_tupleItemsOf ho hd ?_);refine WD ?_;rw[<- Array.forIn_toList];refine wpAny_forIn_list _
  (λrest (b:Array Int) s'=>∃done left,ks=done++left/\cR s.heap left rest/\b.toList=kI w done/\s'={ s with toks:=s.toks+jX done })
  _ ?_ ?_ _ _ ⟨[],ks,rfl,hi,rfl,rfl⟩
 ·rintro x rest b s' ⟨done,left,e,hl,hb,rfl⟩
  cases left with
  |nil=>cases hl
  |cons k left =>
   obtain⟨x',r',ex,h1,mY⟩:=hl;cases ex
   refine WD (ih k (by rw[e];simp) _ { s with toks:=s.toks+jX done } _ _ _ ?_ h1 ?_)
   ·exact Nat.le_refl _
   ·first
     |exact WG ⟨done++[k],left,by simp[e],mY,by simp[hb,FF,kI],by simp[aaQ,FG,jX]⟩
     |exact WD (WG (WG ⟨done++[k],left,by simp[e],mY,by simp[hb,FF,kI],by simp[aaQ,FG,jX]⟩))
 ·rintro b s' ⟨done,left,e,hl,hb,rfl⟩
  cases left with
  |cons k left=>obtain⟨_,_,ex,_⟩:=hl;cases ex
  |nil =>
  rw[Yb] at e;subst e;simp only[hs,dr] at h;show wpAny _ _ (retInt (ZX b.toList)) _ _ _;rw[hb];generalize ZX (kI w ks)=z at h |-;refine wpAny_ret_mkInt ?_
  show wpAny _ _ (if (decide (-(2:Int) ^ 63<=z)&&decide (z<2 ^ 63))=true then _ else _) Q E _
  unfold reduceHash at h;by_cases hr:(decide (-(2:Int) ^ 63<=z)&&decide (z<2 ^ 63))=true
  ·rw[if_pos hr]
   rw[if_pos hr] at h;exact WG (by simpa [aaQ] using h)
  ·rw[if_neg hr]
   rw[if_neg hr] at h;exact WD (YV (WG (by simpa [aaQ] using h)))
theorem OJ:∀(n:Nat) (k:D),dep k<=n->∀(A:Xv) (s:WI) (v:Value) (E:Value->WI->Prop) (Q:Int->WI->Prop),KA s.heap k v->A.units+n<cLine->Q (hs w k) { s with toks:=s.toks+dr k }->wpAny (model prog w) A (pyHash v) Q E s:=by
 intro n
 induction n with
 |zero =>
  intro k hn A s v E Q q hu h
  cases k with
  |int i=>obtain⟨t,rfl⟩:=q;exact wpAny_pyHash_int h
  |str i=>obtain⟨t,rfl⟩:=q;exact wpAny_pyHash_str h
  |tup ks=>simp[dep] at hn
  |_=>cases q
 |succ n ih =>
  intro k hn A s v E Q q hu h
  cases k with
  |int i=>obtain⟨t,rfl⟩:=q;exact wpAny_pyHash_int h
  |str i=>obtain⟨t,rfl⟩:=q;exact wpAny_pyHash_str h
  |tup ks =>
   simp only[dep] at hn;simp only[KA] at q;obtain⟨a,o,items,m,rfl,ho,hc,hd,hi⟩:=q;exact Ni (by omega) ho hc hd hi (λk hk A' s' v E' Q' hA q' h'=>ih k (by have:=FE hk;omega) A' s' v E' Q' q' (by omega) h') h
  |_=>cases q
theorem Nj:∀(n:Nat) (k:D),dep k<=n->∀{A:Xv} {s:WI} {v:Value} {E:Value->WI->Prop} {Q:Bool->WI->Prop},KA s.heap k v->Q true s->wpAny (model prog w) A (eqIsQuiet n v) Q E s:=by
 intro n
 induction n with
 |zero =>
  intro k hn A s v E Q q h
  cases k with
  |int i=>obtain⟨t,rfl⟩:=q;rw[aaw _ rfl];exact WG h
  |str i=>obtain⟨t,rfl⟩:=q;rw[aaw _ rfl];exact WG h
  |tup ks=>simp[dep] at hn
  |_=>cases q
 |succ n ih =>
  intro k hn A s v E Q q h
  cases k with
  |int i=>obtain⟨t,rfl⟩:=q;rw[aaw _ rfl];exact WG h
  |str i=>obtain⟨t,rfl⟩:=q;rw[aaw _ rfl];exact WG h
  |tup ks =>
   simp only[dep] at hn;simp only[KA] at q;obtain⟨a,o,items,m,rfl,ho,hc,hd,hi⟩:=q;have hT:s.TypeIs (.ref a) "tuple":=⟨o,ho,hc⟩;unfold eqIsQuiet;refine WD (aa1 hT F.slot_tuple_eq.lookup ?_);show wpAny _ _ (isInstance (.ref a) (.type "tuple") >>= _) _ _ s;refine WD (ZY hT isSubtype_tuple_tuple ?_);simp only[Xl,WH,if_false];refine WD (Yr ho hd ?_);refine WD ?_;show wpAny _ _ (forIn items _ _) _ _ s;rw[<- Array.forIn_toList];refine wpAny_forIn_list _ (λrest r s'=>r.1=none/\s'=s/\∃left,cR s.heap left rest/\∀k∈left,dep k<=n) _ ?_ ?_ _ _ ⟨rfl,rfl,ks,hi,λk hk=>by have:=FE hk;omega⟩
   ·rintro v rest r s' ⟨hr,rfl,left,hl,dW⟩
    cases left with
    |nil=>cases hl
    |cons k left =>
     obtain⟨x',r',ex,h1,mY⟩:=hl;cases ex;refine WD (ih k (dW k WR) h1 ?_);simp only[Xl,WH,if_false];exact WG ⟨rfl,rfl,left,mY,λu U3=>dW u (WT _ U3)⟩
   ·rintro ⟨r1,r2⟩ s' ⟨hr,rfl,_⟩
    simp only at hr;subst hr;exact WG h
  |_=>cases q
def xg (h:Heap) (ks:List D) (a:Addr):Prop:=cQ ks=true/\cV ks<=6/\KA h (.tup ks) (.ref a)
noncomputable instance Wg:DecidableEq (List D):=λa b=>Classical.propDecidable (a=b)
theorem Qz {A:Xv} {E:Value->WI->Prop} {s:WI} {x y:List D} {a b:Addr} {Q:Bool->WI->Prop} (hu:A.units+10<cLine) (hx:xg s.heap x a) (hy:xg s.heap y b) (h:Q (decide (x=y)) s):wpAny (model prog w) A (PySem.eqBool (.ref a) (.ref b)) Q E s:=by
 obtain⟨k1,d1,r1⟩:=hx;obtain⟨k2,d2,r2⟩:=hy;obtain⟨as,r1⟩:=KA.reads _ _ r1;obtain⟨bs,r2⟩:=KA.reads _ _ r2;have l1:lay (.tup x)=true:=by simp only[lay];exact uX x k1
 have l2:lay (.tup y)=true:=by simp only[lay];exact uX y k2
 obtain⟨p1,p2⟩:=jC _ l1;obtain⟨q1,q2⟩:=jC _ l2;have e:=SeqAt.eqAt_reads _ _ A s _ _ as bs r1 r2 p1 q1 (by rw[p2,q2];simp only[dep];omega);rw[pW _ _ l1 l2] at e;refine e prog w E Q ?_;have:beq (.tup x) (.tup y)=decide (x=y):=by
  have:=yc x y k1 k2;simp only[beq]
  cases hb:iz x y with
  |true=>exact(decide_eq_true (this.mp hb)).symm
  |false=>exact(decide_eq_false λz=>by rw[this.mpr z] at hb;cases hb).symm
 rw[this];exact h
noncomputable def kind (prog:Xf) (w:World):HeapKind prog w (List D) where
 is:=xg
 hash:=λks=>hs w (.tup ks)
 draws:=λks=>dr (.tup ks)
 room:=λA=>A.units+10<cLine
 inj:=λhx hy=>by have:=KA.inj _ _ _ hx.2.2 hy.2.2;injection this
 keeps:=λ{h h' k a d o es ep} x ho hd hs=>⟨x.1,x.2.1,KA.keep (λb u hb hc hq=>(hs.2 b (λe=>by
  subst e;rw[ho] at hb;cases hb;obtain⟨_,_,hq⟩:=hq;rw[hd] at hq;cases hq)).trans hb) _ _ x.2.2⟩
 pyHash:=λhu hk h=>OJ 7 _ (by simp only[dep];have:=hk.2.1;omega) _ _ _ _ _ hk.2.2 (by omega) h
 eqBool:=λhu hx hy h=>Qz hu hx hy h
 quiet:=λhk h=>Nj 8 _ (by simp only[dep];have:=hk.2.1;omega) hk.2.2 h
end
end TK
namespace TK
open PySem PySem.W PyProof.Rows DI L2
theorem DX.gM {a:Addr} {es:List (Int×Addr)} (h1 h2:Heap) (h:DX a es h1) (k:∀o,h1.get? a=some o->h2.get? a=some o):DX a es h2:=by
 obtain⟨z,o,xs,ep,ho,r⟩:=h;exact⟨z,o,xs,ep,k o ho,r⟩
theorem Hz {P:Xf} {w:World} {H:Hp} {h:Heap} {a:Addr} {es:List (Int×Addr)} (x:DX a es h):dD P w H h a (.ext (DX a es)):=by
 obtain⟨z,o,xs,ep,ho,r⟩:=id x;exact⟨x,⟨o,ho⟩,DX.gM⟩
def AllK (w:World) (aq:List (D×Int)):Prop:=∀p∈aq,∃ks,p.1=.tup ks/\cQ ks=true/\cV ks<=6/\p.2=hs w p.1
noncomputable def its:D->List D
 | .tup ks=>ks
 |_=>[]
noncomputable def XS:List (D×Int)->List Addr->List (List D×Addr×Value)
 |p::r,a::as=>(its p.1,a,.bool true)::XS r as
 |_,_=>[]
theorem QA {aq:List (D×Int)}:∀{as:List Addr},aq.length=as.length->∀(p:D×Int) (a:Addr),XS (aq++[p]) (as++[a])=XS aq as++[(its p.1,a,.bool true)]:=by
 induction aq with
 |nil =>
  intro as e p a
  cases as with
  |nil=>rfl
  |cons _ _=>simp at e
 |cons q r ih =>
  intro as e p a
  cases as with
  |nil=>simp at e
  |cons b as =>
   simp only[Xn,XS];rw[ih (by simpa using e)]
theorem QC {aq:List (D×Int)}:∀{as:List Addr},aq.length=as.length->(XS aq as).length=aq.length:=by
 induction aq with
 |nil=>intro as e;cases as<;>rfl
 |cons q r ih =>
  intro as e
  cases as with
  |nil=>simp at e
  |cons b as=>simp only[XS,W5,ih (by simpa using e)]
theorem FH {w:World} {aq:List (D×Int)}:∀{as:List Addr},AllK w aq->aq.length=as.length->(XS aq as).map (λx=>D.tup x.1)=aq.map (·.1):=by
 induction aq with
 |nil=>intro as _ e;cases as<;>rfl
 |cons q r ih =>
  intro as k e
  cases as with
  |nil=>simp at e
  |cons b as =>
   obtain⟨ks,e1,_⟩:=k q WR;simp only[XS,W4,ih (λp hp=>k p (WT _ hp)) (by simpa using e),e1,its]
theorem EI {P:Xf} {w:World} {aq:List (D×Int)}:∀{as:List Addr},AllK w aq->aq.length=as.length ->
  (((aq.map (·.2)).zip as).map λp=>(⟨p.1,.ref p.2,.bool true⟩:aaX))=(XS aq as).map (entryOfKey (kind P w)):=by
 induction aq with
 |nil=>intro as _ e;cases as<;>rfl
 |cons q r ih =>
  intro as k e
  cases as with
  |nil=>simp at e
  |cons b as =>
   obtain⟨ks,e1,_,_,e2⟩:=k q WR;simp only[XS,W4,Yc,ih (λp hp=>k p (WT _ hp)) (by simpa using e)];rw[e2,e1];rfl
section
variable {X:Cx} {pins:List (Addr×Obj)} {σ:L2.St} {s:WI} {w:Wd}
mutual
theorem zA (I:Inv X pins σ w.H s):∀(d:D) (v:V) (u:Value),kd d=true->DI.DV X.K w d v->RelV v u->KA s.heap d u
 | .int i,v,u,_,h,r=>by cases h;exact r
 | .str x,v,u,_,h,r=>by cases h;exact r
 | .tup ds,v,u,k,h,r=>by
  simp only[DI.DV] at h;obtain⟨a,xs,rfl,hq,dv⟩:=h;cases r;obtain⟨its,r1,⟨o,ho,hc,n,hd⟩,_⟩:=I.tuple hq;simp only[kd] at k;simp only[KA];exact⟨a,o,_,n,rfl,ho,hc,hd,za I ds xs _ k dv (by simpa using r1)⟩
 | .aB,_,_,k,_,_=>by cases k
 | .bl _,_,_,k,_,_=>by cases k
 | .lst _,_,_,k,_,_=>by cases k
 | .bH _,_,_,k,_,_=>by cases k
 | .aj _,_,_,k,_,_=>by cases k
 | .ty _,_,_,k,_,_=>by cases k
 | .bQ _,_,_,k,_,_=>by cases k
theorem za (I:Inv X pins σ w.H s):∀(ds:List D) (vs:List V) (us:List Value),cQ ds=true->DI.au X.K w ds vs->Vals vs us->cR s.heap ds us
 | [],vs,us,_,h,r=>by cases h;cases r;rfl
 |d::ds,vs,us,k,h,r=>by
  obtain⟨v,r',rfl,h1,h2⟩:=h;simp only[cQ,WK] at k
  cases r with
  |cons r rs=>exact⟨_,_,rfl,zA I d v _ k.1 h1 r,za I ds r' _ k.2 h2 rs⟩
end
theorem R0 (I:Inv X pins σ w.H s) {W:World}:∀{aq:List (D×Int)} {as:List Addr},AllK W aq->DI.au X.K w (aq.map (·.1)) (as.map V.ref)->∀x∈XS aq as,xg s.heap x.1 x.2.1:=by
 intro aq
 induction aq with
 |nil =>
  intro as _ _ x hx
  cases as<;>cases hx
 |cons q r ih =>
  intro as k dv x hx
  cases as with
  |nil=>cases hx
  |cons b as =>
   obtain⟨v,r',e,h1,h2⟩:=dv
   injection e with e1 e2
   subst e1 e2;obtain⟨ks,e1,k1,k2,_⟩:=k q WR
   rcases W3.mp hx with rfl|hx
   ·refine⟨by simpa only [e1,its] using k1,by simpa only [e1,its] using k2,?_⟩
    have h1:DI.DV X.K w q.1 (V.ref b):=h1;rw[e1] at h1;simpa only [e1,its] using zA I (.tup ks) (.ref b) (.ref b) (by simpa only [kd] using k1) h1 rfl
   ·exact ih (λp hp=>k p (WT _ hp)) h2 x hx
end
noncomputable def gB (w:World) (aq:List (D×Int)) (k:D):List (D×Int):=if (aq.any λp=>beq p.1 k)=true then aq else aq++[(k,hs w k)]
noncomputable def keyOk (w:World) (p:D×Int):Bool:=match p.1 with
 | .tup ks=>cQ ks&&decide (cV ks<=6)&&decide (p.2=hs w p.1)
 |_=>false
theorem LX {w:World} {aq:List (D×Int)} (h:aq.all (keyOk w)=true):AllK w aq:=λp hp=>by
 have:=XO.mp h p hp;unfold keyOk at this;split at this
 ·rename_i ks e
  simp only[WK,decide_eq_true_eq] at this;exact⟨ks,e,this.1.1,this.1.2,this.2⟩
 ·cases this
theorem ma {w:World} {aq:List (D×Int)} (k:AllK w aq) {ks:List D} (hk:cQ ks=true):(aq.any λp=>beq p.1 (.tup ks))=true↔D.tup ks∈aq.map (·.1):=by
 rw[Zq,XN];constructor
 ·rintro ⟨p,hp,hb⟩
  obtain⟨ls,e,k1,_⟩:=k p hp;refine⟨p,hp,?_⟩;exact(vH p.1 (.tup ks) (by rw[e];simpa only [kd] using k1) (by simpa only [kd] using hk)).mp hb
 ·rintro ⟨p,hp,e⟩
  exact⟨p,hp,by rw[e];exact(vH _ _ (by simpa only [kd] using hk) (by simpa only [kd] using hk)).mpr rfl⟩
theorem GU {w:World} {aq:List (D×Int)} {as:List Addr} (k:AllK w aq) (e:aq.length=as.length) (ks:List D):ks∈(XS aq as).map (·.1)↔D.tup ks∈aq.map (·.1):=by
 rw[<- FH k e,XN,XN];exact⟨λ⟨x,hx,e⟩=>⟨x,hx,by rw[e]⟩,λ⟨x,hx,e⟩=>⟨x,hx,by injection e⟩⟩
theorem Ka {xs:List (List D×Addr×Value)} (h:∀x∈xs,x.2.2=Value.bool true) (k:List D):xs.map (putAt k (.bool true))=xs:=by
 induction xs with
 |nil=>rfl
 |cons x xs ih =>
  rw[W4,ih λy hy=>h y (WT _ hy)];congr 1;unfold putAt;split
  ·obtain⟨a,b,c⟩:=x
   have:=h (a,b,c) WR;simp only at this;rw[this]
  ·rfl
theorem FI:∀(aq:List (D×Int)) (as:List Addr),∀x∈XS aq as,x.2.2=Value.bool true
 | [],as,x,h=>by cases as<;>cases h
 |p::r,[],x,h=>by cases h
 |p::r,a::as,x,h=>by
  rcases W3.mp h with rfl|h
  ·rfl
  ·exact FI r as x h
theorem LY {w:World} {aq:List (D×Int)} {as:List Addr} (k:AllK w aq) (e:aq.length=as.length) {ks:List D} (hk:cQ ks=true) (a:Addr) :
  storedH (XS aq as) ks a (.bool true)=XS (gB w aq (.tup ks)) (if (aq.any λp=>beq p.1 (.tup ks))=true then as else as++[a]):=by
 unfold gB;by_cases hm:(aq.any λp=>beq p.1 (.tup ks))=true
 ·rw[if_pos hm,if_pos hm]
  have jU:=(GU k e ks).mpr ((ma k hk).mp hm)
  cases h:atKey (XS aq as) ks with
  |none =>
   exfalso;obtain⟨x,hx,e'⟩:=XN.mp jU;unfold atKey at h;rw[Option.map_eq_none_iff,List.find?_eq_none] at h;exact h x hx (decide_eq_true e')
  |some p=>rw[storedH_old h,Ka (FI aq as)]
 ·rw[if_neg hm,if_neg hm]
  have jU:ks∉(XS aq as).map (·.1):=λz=>hm ((ma k hk).mpr ((GU k e ks).mp z));have h:atKey (XS aq as) ks=none:=by
   unfold atKey;rw[Option.map_eq_none_iff,List.find?_eq_none];intro x hx z;exact jU (XN.mpr ⟨x,hx,of_decide_eq_true z⟩)
  rw[storedH_new h,QA e];rfl
theorem Nk {w:World} {aq:List (D×Int)} (k:AllK w aq) {ks:List D} (hk:cQ ks=true) (hd:cV ks<=6):AllK w (gB w aq (.tup ks)):=by
 unfold gB;split
 ·exact k
 ·intro p hp
  rcases XX.mp hp with hp|hp
  ·exact k p hp
  ·rw[Yk.mp hp]
   exact⟨ks,rfl,hk,hd,rfl⟩
theorem Ld {w:World} {aq:List (D×Int)} (k:AllK w aq) {ks:List D} (hk:cQ ks=true) (h:(aq.map (·.1)).Nodup):((gB w aq (.tup ks)).map (·.1)).Nodup:=by
 unfold gB;split
 ·exact h
 ·rename_i hm
  rw[Xz,aau];refine⟨h,by simp,λa ha b hb=>?_⟩;have:b=.tup ks:=by simpa using hb
  rw[this];intro z;rw[z] at ha;exact hm ((ma k hk).mpr ha)
noncomputable def mG (w:World) (d k x:D) (s:ae):Option ae:=match d,k,x with
 | .aj j,.tup ks,.bl true=>match s[j]? with
  |some (.dT aq)=>if (cQ ks&&decide (cV ks<=6)&&aq.all (keyOk w)&&decide (aq.length<WX))=true then some (s.set j (.dT (gB w aq (.tup ks)))) else none
  |_=>none
 |_,_,_=>none
noncomputable def iR (w:World) (f o i:DI.Env->ae->Res D):DI.Env->ae->Res Fl:=λenv s=>ar (f env s) λx s=>ar (o env s) λd s=>ar (i env s) λn s=>match mG w d n x s with
 |some s'=>ok (.nx env) s'
 |none=>none
noncomputable def rX:DI.Env->ae->Res D:=λ_ s=>ok (.aj s.length) (s++[.dT []])
section
variable {X:Cx} {Ξ:Wd->bq->Prop} {e o i:Expr} {pos gQ:Pos} {f fo fi:DI.Env->ae->Res D}
theorem OK:PE X (.Dict [] [] pos) (λ_ H Q=>∀p,H p=none->Q (.ref p) (upd H p (.ext (DX p [])))):=λpins s σ H Q I h=>by
 refine wpAny_Dict_empty ⟨.ref s.heap.objs.size,_,I.laid (a:=s.heap.objs.size) (o:=.ext (DX s.heap.objs.size [])) (t':=s.toks) (λ_ _ q=>WE _ q) (Nat.le_refl _) (Hz ?_),rfl,h _ (I.aM.fresh (Nat.le_refl _))⟩;have hb:=I.big;exact⟨by simp only[beq_eq_false_iff_ne,ne_eq];intro z;rw[z] at hb;exact Xk _ hb,_,#[],0,WN _ rfl,⟨rfl,rfl,rfl⟩,rfl,rfl⟩
theorem GV:PE X (.Dict [] [] pos) (tE X.K Ξ rX):=cD OK fun σ H Q aE=>by
 obtain⟨w,env,eH,S,eo,h⟩:=aE;subst eH;intro p hp;have le:=(Fw.cell (o:=.ext (DX p [])) (c:=.dT []) S hp).le (K:=X.K);refine h (w.cell p (.ext (DX p [])) (.dT [])) le (S.vU hp ⟨[],dP,rfl,aa7⟩) rfl (.ref p) ⟨p,?_,rfl⟩;show (w.ρ++[p])[w.aG.length]?=some p;rw[<- S.len];simp
noncomputable def R1 (K:Frag) (W:World):we:=λo i v H Q=>∃(w:Wd) (d b:Addr) (aq:List (D×Int)) (as:List Addr) (ks:List D),w.H=H/\o=.ref d/\i=.ref b/\v=.bl true/\H d=some (.ext (DX d ((aq.map (·.2)).zip as))) /\
 AllK W aq/\aq.length<WX/\DI.au K w (aq.map (·.1)) (as.map V.ref)/\(aq.map (·.1)).Nodup/\cQ ks=true/\cV ks<=6/\DI.DV K w (.tup ks) (.ref b) /\
 Q (upd H d (.ext (DX d (((gB W aq (.tup ks)).map (·.2)).zip (if (aq.any λp=>beq p.1 (.tup ks))=true then as else as++[b])))))
theorem Nl {w:World} {aq:List (D×Int)} {as:List Addr} {ks:List D} {b:Addr} (e:aq.length=as.length):(gB w aq (.tup ks)).length=(if (aq.any λp=>beq p.1 (.tup ks))=true then as else as++[b]).length:=by
 unfold gB
 split<;>simp[e]
theorem R3 {k:Nat} (hr:cI k X.A):zR X (R1 X.K X.w):=by
 rintro pins s σ H o i v ov iv u Q I ro ri rv ⟨w,d,b,aq,as,ks,rfl,rfl,rfl,rfl,hd,dW,hl,aw,nd,k1,k2,dk,q⟩;cases ro;cases ri;cases rv;have len:aq.length=as.length:=by have:=aw.length;simpa using this
 obtain⟨⟨hz,ob,es,ep,ho,hex,qt,xh⟩,_,_⟩:=I.aM _ _ hd;have hD:s.heap.DictOfH (kind X.prog X.w) d (XS aq as):=⟨ob,es,ep,ho,hex,qt,by rw[xh,EI dW len],R0 I dW aw,by
  have:=FH dW len;rw[<- this] at nd;have e:(XS aq as).map (λx=>D.tup x.1)=((XS aq as).map (·.1)).map D.tup:=by rw[Ye];rfl
  rw[e] at nd;exact List.Pairwise.of_map D.tup (λa b h e=>h (by rw[e])) nd⟩
 have hu:X.A.units+100<cLine:=by have:=hr.un;have:cLine=9900:=rfl;omega
 refine wpAny_setItem_heap (hsz:=by rw[QC len];exact Nat.le_of_lt hl) (knd:=kind X.prog X.w) (show X.A.in1.units+10<cLine from ?_) ⟨k1,k2,zA I (.tup ks) (.ref b) (.ref b) (by simpa only [kd] using k1) dk rfl⟩ hD λh' Jh hs=>⟨_,?_,q⟩
 ·have:X.A.in1.units<=X.A.units+1:=by first|exact Nat.le_refl _|exact aat _
  omega
 ·rw[LY dW len k1] at Jh
  obtain⟨o',fZ,sH,dZ,TB,R4,TC,_⟩:=Jh;refine Oj I (by rw[hd];exact True.intro) hs ⟨o',dZ⟩ (Hz ⟨hz,o',fZ,sH,dZ,TB,R4,?_⟩);rw[TC];exact(EI (Nk dW k1 k2) (Nl len)).symm
theorem vI {k:Nat} {W:World} (hW:X.w=W) (hr:cI k X.A) (he:PE X e (tE X.K Ξ f)) (ho:PE X o (tE X.K Ξ fo)) (hi:PE X i (tE X.K Ξ fi))
  (ha:∀v,aaT (.Subscript o i gQ) X.env v=(do
   let ov <- aai [v] (eval o X.env)
   let iv <- aai [v,ov] (eval i X.env)
   aaU gQ
   aai [v,ov,iv] (setItem ov iv v)
   release [v,ov,iv] []):=by intro _;rfl)
  (hs:Zh [.Subscript o i gQ] e pos.line X.env=pure false:=by rfl) (hw:Zi [.Subscript o i gQ] e X.env=pure none:=by rfl)
  (h1:(YU [.Subscript o i gQ] X.env).map (·.2)=[aaT (.Subscript o i gQ) X.env]:=by rfl):PS X (.Assign [.Subscript o i gQ] e pos) (tS X.K Ξ (iR W f fo fi)) :=
 iN (yQ he (Gf ho hi (R3 hr) ha) hs hw h1) λD0 σ H aE=>by
  subst hW;obtain⟨w,env,eH,S,eo,h⟩:=aE;subst eH;refine⟨w,env,rfl,S,eo,(Out.ar h).mono λw1 x l1 S1 h1 u du=>?_⟩;refine⟨w1,env,rfl,S1,eo.le l1,(Out.ar h1).mono λw2 d l2 S2 h2 v dv=>?_⟩;refine⟨w2,env,rfl,S2,eo.le (l1.trans l2),(Out.ar h2).mono λw3 n l3 S3 h3 m dm=>?_⟩
  cases hd:mG X.w d n x w3.aG with
  |none=>rw[hd] at h3;exact h3.elim
  |some s' =>
   rw[hd] at h3;unfold mG at hd;split at hd
   ·rename_i j ks
    split at hd
    ·rename_i aq hj
     split at hd
     ·rename_i hc
      simp only[WK,decide_eq_true_eq] at hc;obtain⟨⟨⟨k1,k2⟩,k3⟩,k4⟩:=hc;cases hd;obtain⟨a,e1,rfl⟩:=(l3 _ _ dv);obtain⟨as,q1,q2,q3⟩:=S3.cell j a _ e1 hj;have dW:=LX k3;have eu:u=.bl true:=((l2.trans l3) _ _ du);have Ji:=dm;simp only[DI.DV] at Ji;obtain⟨b,_,rfl,_⟩:=Ji;have len:aq.length=as.length:=by have:=q2.length;simpa using this
      have le:=(Fw.put (o:=.ext (DX a (((gB X.w aq (.tup ks)).map (·.2)).zip (if (aq.any λp=>beq p.1 (.tup ks))=true then as else as++[b])))) (c:=.dT (gB X.w aq (.tup ks))) S3 e1 hj (by intro z;cases z)).le
      refine⟨w3,a,b,aq,as,ks,rfl,rfl,rfl,eu,q1,dW,k4,q2,q3,k1,k2,dm,?_⟩;refine h3 (w3.put j a _ _) le (S3.Ah e1 hj (by intro z;cases z) ⟨_,dP,?_,Ld dW k1 q3⟩) rfl σ (eo.le (l1.trans (l2.trans (l3.trans le))));refine le.all ?_;unfold gB;split
      ·exact q2
      ·rw[Xz,Xz]
       exact q2.append (au.one dm)
     ·cases hd
    ·cases hd
   ·cases hd
end
end TK
namespace TK
open PySem PySem.W PyProof.Rows DI L2
def iW (h:Heap) (d:Addr) (es:Array aaX) (ep:Nat):Prop:=∃o,h.get? d=some o/\o.ExactDict/\o.data=.dict es ep
section
variable {prog:Xf} {w:World} {A:Xv} {E:Value->WI->Prop} {s:WI} {d it:Addr} {es:Array aaX} {ep i:Nat}
theorem iW.ty (r:iW s.heap d es ep):s.TypeIs (.ref d) "dict":=by obtain⟨o,ho,x,_⟩:=r;exact⟨o,ho,x.1⟩
theorem iW.lt {h:Heap} (r:iW h d es ep):d<h.objs.size:=by obtain⟨o,ho,_⟩:=r;exact WS ho
theorem Nm {Q:Value->WI->Prop} (hd:(d==YT)=false) (r:iW s.heap d es ep)
  (hQ:Q (.ref s.heap.objs.size) { s with heap:=s.heap.push { cls:=.type "dict_keyiterator",data:=.fields #[.ref d,.int 0 0,.int es.size 0,.int ep 0] } }):wpAny (model prog w) A (pyIter (.ref d)) Q E s:=by
 have ty:=r.ty;obtain⟨o,ho,x,qt⟩:=r;refine wpAny_pyIter_slot ty F.slot_dict_iter (Xs F.slot_dict_iter ty F.entry_dict_iter ?_ (F.args_dict_iter_1 _));unfold YS.«dict.__iter__» Builtin.Dict.dictSlotNone;refine WD (WD (wpAny_notOrdered_dict ty ?_));refine(WG ?_:wpAny _ _ (pure (Zn d)) _ _ s);show wpAny _ _ (Builtin.Dict.showsAll d >>= _) _ _ s;unfold Builtin.Dict.showsAll;rw[if_neg (by rw[hd];decide)];refine WD (WG (WD (wpAny_dictEntries ho qt (WD (wpAny_dictEpoch ho qt ?_)))));refine WD (W8 (WG ⟨_,rfl,"dict_keyiterator",_,⟨_,WN _ rfl,rfl⟩,Yv.lookup,?_⟩));simpa [YA] using hQ
theorem Nn {Q:Option Value->WI->Prop} (hit:s.heap.IsKeyIter it d i es.size ep) (r:iW s.heap d es ep) {e:aaX} (he:es[i]?=some e)
  (hQ:∀h',h'.IsKeyIter it d (i+1) es.size ep->Yp it s.heap h'->Q (some e.key) { s with heap:=h' }):wpAny (model prog w) A (Zy (.ref it)) Q E s:=by
 obtain⟨oi,qK,ci,di⟩:=id hit;obtain⟨od,tY,_,oy⟩:=r;have own:aaR "dict_keyiterator"=false:=by decide
 unfold Zy;refine WD (Zl (Xp (name:=XC "__next__") hit.typeIs Yv (Xs Yv hit.typeIs F.entry_dict_keyiterator_next ?_ (F.args_dict_keyiterator_next_1 _))));refine WD (WG (WD (WD (WD (YE hit.typeIs (WG (WD (ZW qK di ?_))))))));simp only[own,WH,if_false]
 refine(show wpAny _ _ (if (Zn d==Value.none)=true then _ else _) _ _ s from ?_)
 rw[if_neg (show ¬ ((Zn d==Value.none)=true) by intro z;cases z)];refine WD (WG (WD (wpAny_dictEntries tY oy ?_)));rw[if_neg (by simp)];refine WD (WG (WD (wpAny_dictEpoch tY oy ?_)));rw[if_neg (by simp)];refine WG ?_;simp only[show ¬ ((i:Int)<0) by omega,if_false,Xm,he];refine WD (WD (YE hit.typeIs (WG (WD (wpAny_isOneOf_keyiter hit.typeIs ?_)))));show wpAny _ _ (setField (.ref it) 1 (YA ((i:Int)+1)) >>= _) _ _ s;refine WD (YI qK di (by simp) ?_);generalize hh:s.heap.update it (Obj.mapFields (·.setIfInBounds 1 (YA ((i:Int)+1))))=h';have sb:Yp it s.heap h':=by rw[<- hh];exact X0 ..
 have nx:h'.IsKeyIter it d (i+1) es.size ep:=by
  rw[<- hh];exact⟨_,X6 _ qK (Yu (XI di _)),(ZK ..).trans ci,by rw[XI di];simp[YA]⟩
 refine WD (Yf (WD (wpAny_isOneOf_keyiter (s:={ s with heap:=h' }) nx.typeIs ?_)))
 show wpAny _ _ (pure e.key) _ _ _;exact WG (WG ⟨_,rfl,WG (hQ _ nx sb)⟩)
theorem OL {Q:Option Value->WI->Prop} (hh:A.handled=none) (hit:s.heap.IsKeyIter it d i es.size ep) (r:iW s.heap d es ep) (wV:es.size<=i)
  (hQ:∀h',aap it s.heap h'->Q none { s with heap:=h' }):wpAny (model prog w) A (Zy (.ref it)) Q E s:=by
 obtain⟨oi,qK,ci,di⟩:=id hit;obtain⟨od,tY,_,oy⟩:=r;have own:aaR "dict_keyiterator"=false:=by decide
 unfold Zy;refine WD (Zl (Xp (name:=XC "__next__") hit.typeIs Yv (Xs Yv hit.typeIs F.entry_dict_keyiterator_next ?_ (F.args_dict_keyiterator_next_1 _))));refine WD (WG (WD (WD (WD (YE hit.typeIs (WG (WD (ZW qK di ?_))))))));simp only[own,WH,if_false]
 refine(show wpAny _ _ (if (Zn d==Value.none)=true then _ else _) _ _ s from ?_)
 rw[if_neg (show ¬ ((Zn d==Value.none)=true) by intro z;cases z)];refine WD (WG (WD (wpAny_dictEntries tY oy ?_)));rw[if_neg (by simp)];refine WD (WG (WD (wpAny_dictEpoch tY oy ?_)));rw[if_neg (by simp)];refine WG ?_;simp only[show ¬ ((i:Int)<0) by omega,if_false,Xm,Array.getElem?_eq_none wV];refine WD (WD (YE hit.typeIs (WG ?_)));refine(WD (YI qK di (by simp) ?_):wpAny _ _ (setField (.ref it) 0 .none >>= _) _ _ s);show wpAny _ _ (newExc (.type "StopIteration") [] >>= _) _ _ _;simp only[newExc,newTuple];refine WD (WD (W8 ?_ (by size_fits)))
 refine WD (m:=ZS _ _) (Zk (a:=Value.none) (by first|rfl | (simp only[ZS];rfl)) (W8 ?_ (by size_fits)))
 simp only[raiseNew];refine WD (wpAny_handled ?_);rw[show A.in1.handled=none from hh];refine WD (WG (wpAny_throw ?_));refine WD (ZY (T:="StopIteration") (b:=true) ⟨_,WN _ rfl,rfl⟩ isSubtype_stop ?_);exact WG (hQ _ (((X0 ..).extBut.push _).push _))
theorem iW.at {h h':Heap} (r:iW h d es ep) (k:∀o,h.get? d=some o->h'.get? d=some o):iW h' d es ep:=by obtain⟨o,ho,x⟩:=r;exact⟨o,k o ho,x⟩
theorem LZ (hh:A.handled=none) (I:Addr) (ib:d≠I) :
  Walks prog w A I [I,d] [I] es.size (λi v=>∃e,es[i]?=some e/\v=e.key) (λi h=>h.IsKeyIter I d i es.size ep/\iW h d es ep) where
 sub:=λb hb=>by simp at hb;simp[hb]
 frame:=λ_ _ _ st hk=>⟨st.1.at λo e=>hk I (by simp) o e,st.2.at λo e=>hk d (by simp) o e⟩
 item:=λi s Q E hi st hQ=>by
  have he:es[i]?=some es[i]:=by simp[hi]
  exact Nn st.1 st.2 he λh' nx sb=>hQ _ h' s.toks ⟨_,he,rfl⟩ ⟨nx,st.2.at λo e=>sb.extBut d o ib e⟩ λb o hb e=>sb.extBut b o (λh=>hb (by simp[h])) e
 done:=λs Q E st hQ=>OL hh st.1 st.2 (Nat.le_refl _) λh' U4=>hQ h' s.toks λb o hb e=>U4 b o (λh=>hb (by simp[h])) e
 self:=λ_ _ _ _ st hQ=>wpAny_pyIter_keyiter st.1 hQ
theorem OM (lo:(d==YT)=false):KdlSrc prog w "dict" d d es.size (λi v=>∃e,es[i]?=some e/\v=e.key) (λh=>iW h d es ep) where
 type:=λ_ hm=>hm.ty
 there:=λ_ hm=>⟨hm.lt,hm.lt⟩
 keep:=λ_ _ hm hk=>hm.at λo e=>hk d (.inl rfl) o e
 notList:=by decide
 notTuple:=by decide
 hint:=λ_ _ _ _ hm hq=>kdl_hint_dict hm.ty hq
 iter:=λ_ _ hh hm=>⟨_,_,(λ_ _ hq=>Nm lo hm hq),LZ hh _ (Xe hm.lt),⟨⟨_,WN _ rfl,rfl,rfl⟩,hm.at λo e=>WE _ e⟩⟩
end
noncomputable def nD (ds:List D) (s:ae):Res D:=match ds with
 | [.aj j]=>match s[j]? with
  |some (.dT aq)=>if aq.length<=WX then ok (.lst (aq.map (·.1))) s else none
  |_=>none
 |_=>none
theorem EJ:∀as:List Addr,Vals (as.map V.ref) (as.map Zn)
 | []=>.nil
 |_::as=>.cons rfl (EJ as)
section
variable {X:Cx} {Ξ:Wd->bq->Prop}
theorem FJ (hc:X.calm=true):cz X (.type "list") (rC X.K Ξ nD):=by
 rintro pins s σ H xs us Q I r ⟨w,ds,rfl,S,aw,h⟩;unfold nD at h;split at h
 ·rename_i j
  split at h
  ·rename_i aq hj
   split at h
   ·rename_i hl
    obtain⟨v,r',rfl,h1,h2⟩:=aw;cases h2;obtain⟨a,e1,rfl⟩:=h1
    cases r with
    |cons r rs =>
    cases rs;cases r;obtain⟨as,q1,q2,q3⟩:=S.cell j a _ e1 hj;have len:aq.length=as.length:=by have:=q2.length;simpa using this
    obtain⟨⟨hz,ob,es,ep,ho,hex,qt,xh⟩,_,_⟩:=I.aM _ _ q1;have ez:es.size=as.length:=by rw[<- Xj,xh];simp[len]
    refine kdl_call (OM hz) (I.ok.hd hc) (⟨ob,ho,hex,qt⟩:iW s.heap a es ep) (by rw[ez,<- len];exact hl) λh' tk fJ c' hk hD km=>?_;have hf:w.H s.heap.objs.size=none:=I.aM.fresh (Nat.le_refl _);have ev:fJ.toList=as.map Zn:=by
     apply YL;intro i;rw[Yd];by_cases hi:i<as.length
     ·have A0:i<fJ.size:=by rw[km.1,ez];exact hi
      have h3:fJ[i]?=some fJ[i]:=Array.getElem?_eq_getElem A0;obtain⟨e,he,ev⟩:=km.2 i _ h3;rw[h3,ev];rw[<- Yd,xh] at he;have U5:i<aq.length:=by omega
      simp only[W6,List.zip,List.getElem?_zipWith,WQ U5,WQ hi,YC] at he |-;rw[<- Option.some.inj he]
     ·rw[Array.getElem?_eq_none (by rw[km.1,ez];omega),Xt (by rw[WJ];omega)]
    refine⟨.ref s.heap.objs.size,upd w.H s.heap.objs.size (.lst (as.map V.ref)),I.laid (t':=tk) hk (Nat.le_refl _) ?_,rfl,?_⟩
    ·refine⟨by rw[WJ,<- len];exact hl,fJ.toList,c',?_,by simpa using hD⟩
     rw[ev];exact EJ as
    ·exact h (w.grow _ (.lst (as.map V.ref))) (Fw.grow hf).le (S.grow hf) rfl (.ref s.heap.objs.size) ⟨_,_,rfl,⟨(show ¬ w.Z _ from nv S hf),dP⟩,(Fw.grow hf).le.all q2⟩
   ·exact h.elim
  ·exact h.elim
 ·exact h.elim
end
end TK
namespace TK
open PySem PySem.W PyProof.Rows DI L2 HT
section
variable {s:WI}
theorem R5 {A:Xv} {x y:D} {vx vy:Value} (kx:kd x=true) (ky:kd y=true) (hu:A.units+dep x<cLine) (hx:KA s.heap x vx) (hy:KA s.heap y vy):SeqAt.EqAt A s vx vy (beq x y):=by
 obtain⟨as,r1⟩:=KA.reads _ _ hx;obtain⟨bs,r2⟩:=KA.reads _ _ hy;obtain⟨p1,p2⟩:=jC _ (nC _ kx);obtain⟨q1,q2⟩:=jC _ (nC _ ky);have:=SeqAt.eqAt_reads _ _ A s vx vy as bs r1 r2 p1 q1 (by rw[p2];omega);rw[pW _ _ (nC _ kx) (nC _ ky)] at this;exact this
mutual
theorem R6:∀(A:Xv) (x y:D) (b:Bool) (vx vy:Value),iG x y=some b->kd x=true->kd y=true->A.units+5*dep x+5<cLine->KA s.heap x vx->KA s.heap y vy->Ar A s vx vy b
 |A,.int i,y,b,vx,vy,h,_,_,_,hx,hy=>by
  cases y with
  |int j =>
   cases h;obtain⟨t,rfl⟩:=hx;obtain⟨t',rfl⟩:=hy;exact λprog w E Q q=>Er A s i t j t' prog w E Q q
  |_=>cases h
 |A,.str i,y,b,vx,vy,h,_,_,_,hx,hy=>by
  cases y with
  |str j =>
   cases h;obtain⟨t,rfl⟩:=hx;obtain⟨t',rfl⟩:=hy;exact λprog w E Q q=>(PyProof.Rows.lt_str q:wpAny (model prog w) A (Yg .Lt (.str i t) (.str j t')) Q E s)
  |_=>cases h
 |A,.tup xs,y,b,vx,vy,h,kx,ky,hu,hx,hy=>by
  cases y with
  |tup ys =>
   simp only[iG] at h;simp only[KA] at hx hy;obtain⟨a,o,its,n,rfl,ho,hc,hd,r⟩:=hx;obtain⟨a',o',its',n',rfl,dZ,iC,hV,r'⟩:=hy;simp only[dep] at hu;simp only[kd] at kx ky;exact λprog w E Q q=>Fz ⟨o,ho,hc,n,hd⟩ ⟨o',dZ,iC,n',hV⟩ (λA' hA=>zb A' xs ys b _ _ h kx ky (by omega) r r') (by omega) q
  |_=>cases h
 |_,.aB,_,_,_,_,_,k,_,_,_,_=>by cases k
 |_,.bl _,_,_,_,_,_,k,_,_,_,_=>by cases k
 |_,.lst _,_,_,_,_,_,k,_,_,_,_=>by cases k
 |_,.bH _,_,_,_,_,_,k,_,_,_,_=>by cases k
 |_,.aj _,_,_,_,_,_,k,_,_,_,_=>by cases k
 |_,.ty _,_,_,_,_,_,k,_,_,_,_=>by cases k
 |_,.bQ _,_,_,_,_,_,k,_,_,_,_=>by cases k
theorem zb:∀(A:Xv) (xs ys:List D) (b:Bool) (ps qs:List Value),iV xs ys=some b->cQ xs=true->cQ ys=true->A.units+5*cV xs+5<cLine->cR s.heap xs ps->cR s.heap ys qs->iO A s ps qs b
 |A,[],ys,b,ps,qs,h,_,_,_,hx,hy=>by
  cases hx
  cases ys with
  |nil=>cases h;cases hy;exact .nn
  |cons y ys=>cases h;obtain⟨v,r,rfl,_⟩:=hy;exact .nc _ _
 |A,x::xs,ys,b,ps,qs,h,kx,ky,hu,hx,hy=>by
  obtain⟨v,r,rfl,h1,h2⟩:=hx
  cases ys with
  |nil=>cases h;cases hy;exact .cn _ _
  |cons y ys =>
   obtain⟨u,r',rfl,g1,g2⟩:=hy;simp only[cQ,WK] at kx ky;simp only[cV] at hu;have m1:=Nat.le_max_left (dep x) (cV xs);have m2:=aaK (dep x) (cV xs);have he:=R5 (A:=A) kx.1 ky.1 (by omega) h1 g1;simp only[iV] at h;split at h
   ·rename_i hb
    rw[hb] at he;exact .eq he (zb A xs ys b _ _ h kx.2 ky.2 (by omega) h2 g2)
   ·rename_i hb
    rw[Zr] at hb;rw[hb] at he;exact .lt he (R6 A x y b _ _ h kx.1 ky.1 (by omega) h1 g1)
end
end
section
variable {prog:Xf} {w:World} {A:Xv} {E:Value->WI->Prop} {s:WI}
theorem L0 {t fin:Bool} {Q:Bool->WI->Prop} {xs ys:List Value} {b:Bool} (h:iO A s xs ys b):∀(i:Nat),fin=decide (xs.length<ys.length)->Q b s->KatLex prog w A t fin Q (xs.zip ys) (i+1) s:=by
 induction h with
 |nn=>intro i hf q;rw[hf];exact q
 |nc y ys=>intro i hf q;rw[hf];exact q
 |cn x xs=>intro i hf q;rw[hf];exact q
 |eq he _ ih =>
  intro i hf q;rw[Yc];exact kat_cons (he prog w _ _ (kat_yes (ih (i+1) (by rw[hf];simp) q)))
 |lt he hr =>
  intro i hf q;rw[Yc];refine kat_cons (he prog w _ _ (kat_no ?_));rw[show (t&&(i+1==0))=false by simp];exact kat_one _ _ (hr prog w _ _ q)
theorem L7 {fin:Bool} {Q:Bool->WI->Prop} {x y:Str} {t u:Tok} {xs ys:List Value} {b:Bool} (hs:x=y->iO A s xs ys b) (hf:fin=decide (xs.length<ys.length)) (q:Q (if x=y then b else decide (x.cps.toList<y.cps.toList)) s) :
  KatLex prog w A true fin Q ((.str x t::xs).zip (.str y u::ys)) 0 s:=by
 rw[Yc];refine kat_cons (wpAny_eqBool_str ?_);by_cases e:x=y
 ·rw[if_pos e] at q
  rw[decide_eq_true e];exact kat_yes (L0 (hs e) 0 hf q)
 ·rw[if_neg e] at q
  rw[decide_eq_false e];exact kat_no (oneLt_str q)
end
inductive Pg where
 |made (m d:Int) (h l:List Int)
 |bP (m d k:Int)
noncomputable def ti (l:List Int):D:=.tup (l.map D.int)
noncomputable def Pg.d:Pg->D
 | .made m d h l=>.tup [.str "made",.int m,.int d,.tup [ti h,ti l]]
 | .bP m d k=>.tup [.str "mended",.int m,.int d,.int k]
theorem GW {a b:List Int} (h:ti a=ti b):a=b:=by
 injection h with h
 exact List.map_inj_right (λx y e=>by injection e) |>.mp h
theorem Pg.R7 {p q:Pg} (h:p.d=q.d):p=q:=by
 cases p<;>cases q<;>simp only[Pg.d,D.tup.injEq,aad,D.int.injEq,and_true,reduceCtorEq,and_false,false_and] at h
 ·obtain⟨_,h1,h2,h3,h4⟩:=h
  rw[h1,h2,GW h3,GW h4]
 ·obtain⟨_,h1,h2,h3⟩:=h
  rw[h1,h2,h3]
noncomputable def encL:List Int->List Int
 | []=>[0]
 |x::xs=>1::x::encL xs
noncomputable def Pg.enc:Pg->List Int
 | .made m d h l=>0::m::d::(encL h++encL l)
 | .bP m d k=>[1,m,d,k]
theorem yd:∀{a b u v:List Int},encL a++u=encL b++v->a=b/\u=v
 | [],[],u,v,h=>by simpa [encL] using h
 | [],y::b,u,v,h=>by simp[encL] at h
 |x::a,[],u,v,h=>by simp[encL] at h
 |x::a,y::b,u,v,h=>by
  simp only[encL,Xn,aad,true_and] at h;obtain⟨h1,h2⟩:=yd h.2;exact⟨by rw[h.1,h1],h2⟩
theorem Pg.ON {p q:Pg} (h:p.enc=q.enc):p=q:=by
 cases p<;>cases q<;>simp only[Pg.enc,aad,and_true,true_and,reduceCtorEq,false_and,Int.reduceEq] at h
 ·obtain⟨h1,h2,h3⟩:=h
  have h4:=yd (u:=encL _++[]) (v:=encL _++[]) (by simpa using h3);have h5:=yd h4.2;rw[h1,h2,h4.1,h5.1]
 ·rw[h.1,h.2.1,h.2.2]
noncomputable def fb:ST.Ord Pg where
 lt p q:=lexLt p.enc q.enc
 Bn p:=ST.yC _
 tr _ _ _ h g:=ST.Qs _ _ _ h g
 tW _ _ h g:=Pg.ON (ST.OI _ _ h g)
theorem D1:∀a b:List Int,iz (a.map D.int) (b.map D.int)=decide (a=b)
 | [],[]=>rfl
 | [],_::_=>rfl
 |_::_,[]=>rfl
 |x::a,y::b=>by
  simp only[W4,iz,beq,D1 a b]
  by_cases e:x=y<;>simp[e]
theorem D2:∀a b:List Int,iV (a.map D.int) (b.map D.int)=some (lexLt a b)
 | [],[]=>rfl
 | [],_::_=>rfl
 |_::_,[]=>rfl
 |x::a,y::b=>by
  simp only[W4,iV,beq,iG,jc,D2 a b]
  by_cases e:x=y<;>simp[e]
theorem yE:∀a b u v:List Int,lexLt (encL a++u) (encL b++v)=if a=b then lexLt u v else lexLt a b
 | [],[],u,v=>by simp[encL,jc]
 | [],y::b,u,v=>by simp[encL,jc];rfl
 |x::a,[],u,v=>by simp[encL,jc];rfl
 |x::a,y::b,u,v=>by
  simp only[encL,Xn,jc,if_true,yE a b u v,aad]
  by_cases e:x=y<;>simp[e]
theorem HA (p q:Pg):iG p.d q.d=some (fb.lt p q):=by
 have n1:¬ ((XC "made")=XC "mended"):=by decide +kernel
 have n2:¬ ((XC "mended")=XC "made"):=by decide +kernel
 have s1:decide ((XC "made").cps.toList<(XC "mended").cps.toList)=true:=by decide +kernel
 have s2:decide ((XC "mended").cps.toList<(XC "made").cps.toList)=false:=by decide +kernel
 show _=some (lexLt p.enc q.enc)
 cases p with
 |made m d h l =>
  cases q with
  |made m' d' h' l' =>
   simp only[Pg.d,Pg.enc,iG,iV,beq,iz,ti,jc,D1,D2,yE,beq_self_eq_true,if_true,ZM];have:=yE l l' [] [];simp only[Yb] at this;rw[this]
   by_cases e1:m=m'<;>by_cases e2:d=d'<;>by_cases e3:h=h'<;>by_cases e4:l=l'<;>simp[e1,e2,e3,e4,ST.yC]
  |bP m' d' k'=>simp only[Pg.d,Pg.enc,iG,iV,beq,jc,beq_iff_eq,n1,s1,if_false];simp
 |bP m d k =>
  cases q with
  |made m' d' h' l'=>simp only[Pg.d,Pg.enc,iG,iV,beq,jc,beq_iff_eq,n2,s2,if_false];simp
  |bP m' d' k' =>
   simp only[Pg.d,Pg.enc,iG,iV,beq,jc,beq_self_eq_true,if_true]
   by_cases e1:m=m'<;>by_cases e2:d=d'<;>by_cases e3:k=k'<;>simp[e1,e2,e3,ST.yC]
theorem OO (l:List Int):cQ (l.map D.int)=true:=by
 induction l with
 |nil=>rfl
 |cons x l ih=>simpa only [W4,cQ,kd,Xq] using ih
theorem Np (l:List Int):cV (l.map D.int)=0:=by
 induction l with
 |nil=>rfl
 |cons x l ih=>simp only[W4,cV,dep,ih];rfl
theorem nM (p:Pg):kd p.d=true:=by
 have s1:PyData.strOk "made"=true:=by decide +kernel
 have s2:PyData.strOk "mended"=true:=by decide +kernel
 cases p<;>simp only[Pg.d,kd,cQ,ti,OO,s1,s2,Yl]
theorem zc (p:Pg):dep p.d<=3:=by
 cases p<;>simp only[Pg.d,dep,cV,ti,Np]<;>decide
theorem EK (p:Pg):∃(x:Str) (r:List D),p.d=.tup (.str x::r):=by
 cases p<;>exact⟨_,_,rfl⟩
theorem zB {h:Heap} {p:Pg} {v:Value} (q:KA h p.d v):∃(x:Str) (r:List D) (a:Addr) (o:Obj) (its:Array Value) (n:Nat) (t:Tok) (us:List Value),p.d=.tup (.str x::r)/\v=.ref a/\h.get? a=some o/\o.cls=.type "tuple"/\o.data=.seq its n/\its.toList=.str x t::us/\cR h r us/\cQ r=true:=by
 obtain⟨x,r,e⟩:=EK p;have k:=nM p;rw[e] at q k;simp only[KA] at q;obtain⟨a,o,its,n,e1,ho,hc,hd,u,us,e2,⟨t,e3⟩,r2⟩:=q;simp only[kd,cQ,WK] at k;exact⟨x,r,a,o,its,n,t,us,e,e1,ho,hc,hd,by rw[e2,e3],r2,k.2⟩
section
variable {prog:Xf} {w:World} {A:Xv} {E:Value->WI->Prop} {s:WI}
theorem L8:∀{ps:List Pg} {us:List Value},cR s.heap (ps.map Pg.d) us->∃fs,KatTups s.heap us fs/\(∀v∈fs,∃x t,v=Value.str x t)/\fs.length=us.length:=by
 intro ps
 induction ps with
 |nil=>intro us h;cases h;exact⟨[],KatTups.nil,λv (hv:v∈[])=>(XQ hv).elim,rfl⟩
 |cons p ps ih =>
  intro us h;obtain⟨v,r,rfl,h1,h2⟩:=h;obtain⟨fs,k1,k2,k3⟩:=ih h2;obtain⟨x,_,a,o,its,n,t,vs,_,rfl,ho,hc,hd,hi,_⟩:=zB h1;refine⟨.str x t::fs,.cons ho hc hd (by rw[<- Yd,hi];rfl) k1,λv hv=>?_,by simp[k3]⟩
  rcases W3.mp hv with rfl|hv
  ·exact⟨x,t,rfl⟩
  ·exact k2 v hv
theorem kas_get {h:Heap}:∀{ds:List D} {us:List Value},cR h ds us->∀i,i<us.length->KA h (ds.getD i .aB) (us.getD i Value.none):=by
 intro ds
 induction ds with
 |nil=>intro us h i hi;cases h;cases hi
 |cons d ds ih =>
  intro us h i hi;obtain⟨v,r,rfl,h1,h2⟩:=h
  cases i with
  |zero=>exact h1
  |succ i=>exact ih h2 i (by simpa using hi)
theorem OP {h:Heap}:∀{ds:List D} {us:List Value},cR h ds us->ds.length=us.length:=by
 intro ds
 induction ds with
 |nil=>intro us h;cases h;rfl
 |cons d ds ih=>intro us h;obtain⟨v,r,rfl,h1,h2⟩:=h;simp[ih h2]
theorem QD {p q:Pg} {v u:Value} {C:Bool->WI->Prop} (hu:A.units+100<cLine) (h1:KA s.heap p.d v) (h2:KA s.heap q.d u) (hC:C (fb.lt p q) s):wpAny (model prog w) A (keyLt' (tuples' true) v u) C E s:=by
 obtain⟨x,r,a,o,its,n,t,vs,e,rfl,ho,hc,hd,hi,kr,k⟩:=zB h1;obtain⟨x',r',a',o',its',n',t',Wv,e',rfl,dZ,iC,hV,qJ,U6,k'⟩:=zB h2;have dl:=zc p;rw[e] at dl;simp only[dep,cV] at dl;have lt:=HA p q;rw[e,e'] at lt;simp only[iG,iV] at lt;have be:beq (.str x) (.str x')=true↔x=x':=by simp[beq]
 refine kat_lt ho hd dZ hV ?_;rw[hi,qJ];refine L7 (b:=fb.lt p q) (λex=>?_) ?_ ?_
 ·rw[if_pos (be.mpr ex)] at lt
  exact zb A r r' _ _ _ lt k k' (by have:=aaK (0:Nat) (cV r);omega) kr U6
 ·simp[<- Xj,hi,qJ]
 ·by_cases ex:x=x'
  ·rw[if_pos ex];exact hC
  ·rw[if_neg λz=>ex (be.mp z)] at lt
   rw[if_neg ex,Option.some.inj lt];exact hC
theorem Nq {us:List Value} {ps:List Pg} (t:cR s.heap (ps.map Pg.d) us) (h2:2<=us.length) (hu:A.units+100<cLine) (d:Pg):ST.wH prog w A fb (λi=>ps.getD i d) us s:=by
 obtain⟨fs,k1,k2,k3⟩:=L8 t;have hl:=OP t;rw[WJ] at hl;have at_:∀i,i<us.length->KA s.heap (ps.getD i d).d (us.getD i Value.none):=λi hi=>by
  have:=kas_get t i hi;rwa [show (ps.map Pg.d).getD i .aB=(ps.getD i d).d by simp[Zb,W6,WQ (show i<ps.length by omega)]] at this
 unfold ST.wH;refine kat_kind (T:=.type "str") k1 (by omega) (λv hv=>?_) (by decide) ⟨rfl,λi j C hi hj hC=>?_⟩
 ·obtain⟨x,tk,rfl⟩:=k2 v hv
  exact .of_pure rfl
 ·exact QD hu (at_ i hi) (at_ j hj) hC
end
end TK
namespace TK
open PySem PySem.W PyProof.Rows DI L2
open Classical in
noncomputable def v8 (xs:List D):Option D:=if h:∃ps:List Pg,xs=ps.map Pg.d then some (.lst ((ST.jl fb (Classical.choose h)).map Pg.d)) else none
theorem Lf:∀{a b:List Pg},a.map Pg.d=b.map Pg.d->a=b:=λh=>List.map_inj_right (λ_ _ e=>Pg.R7 e) |>.mp h
theorem EL (ps:List Pg):v8 (ps.map Pg.d)=some (.lst ((ST.jl fb ps).map Pg.d)):=by
 unfold v8;have h:∃qs:List Pg,ps.map Pg.d=qs.map Pg.d:=⟨ps,rfl⟩;rw[dif_pos h];have:=Lf (Classical.choose_spec h);rw[<- this]
noncomputable def nE (ds:List D) (s:ae):Res D:=match ds with
 | [d]=>match res d s with
  | .lst xs=>if xs.length<64 then bI (v8 xs) s else none
  |_=>none
 |_=>none
section
variable {X:Cx} {Ξ:Wd->bq->Prop}
theorem OQ (ps:List Pg):cQ (ps.map Pg.d)=true:=by
 induction ps with
 |nil=>rfl
 |cons p ps ih=>simp only[W4,cQ,nM,ih,Yl]
theorem FK {k:Nat} (hr:cI k X.A):cz X (.builtin "sorted") (rC X.K Ξ nE):=by
 rintro pins s σ H xs us Q I r ⟨w,ds,rfl,S,aw,h⟩;unfold nE at h;split at h
 ·obtain⟨v,rfl,dv⟩:=ny aw
  split at h
  ·rename_i es e1
   obtain⟨a,xs,rfl,ha,aw⟩:=gX S dv e1;split at h
   ·rename_i hz
    obtain⟨d',e2,h⟩:=fv h;obtain⟨u,rfl,ru⟩:=vals1 r;cases ru;obtain⟨its,r1,pl,hx⟩:=I.list (ba.of ha);have hl:its.length=es.length:=r1.length.symm.trans aw.length.symm;have e3:=e2;unfold v8 at e3;split at e3
    ·rename_i hp
     obtain⟨ps,en⟩:=hp;clear e3;subst en;rw[EL] at e2;cases e2;have AZ:ps.length=its.length:=by rw[hl,WJ]
     refine ST.LP (O:=fb) (x:=λi=>ps.getD i (.bP 0 0 0)) pl.isList (by omega) (λh2 h1 ho=>Nq (cR.keep (λb o hb _ _=>ho b o hb) _ _ (za I _ _ _ (OQ ps) aw r1)) h2 (by have:=hr.un;show X.A.units+1+1+100<cLine;have:cLine=9900:=rfl;omega) _) λq h' b e hp hu ho hb hn=>?_;have hm:∀i∈q.toList,i<(ps.map Pg.d).length:=λi hi=>by rw[<- hl];exact Xy.mp (hp.2.mem_iff.mp hi)
     rw[<- AZ] at hp hu;have lU:=I.aM.fresh hb;refine⟨.ref b,_,I.laid (o:=.lst (q.toList.map λi=>xs.getD i .aB)) (t':=s.toks) ho hb ⟨?_,_,e,LW r1 (by rw[hl];exact hm),hn⟩,rfl,?_⟩
     ·rw[WJ,Xj,hp.1,AZ,r1.length.symm];exact hx
     ·refine wA S ?_ h b lU
      rw[<- Nh hp hu];exact Ng aw hm
    ·cases e3
   ·exact h.elim
  ·exact h.elim
 ·exact h.elim
noncomputable def dS {α:Type} (c:Nat) (xs:List α):List α:=(WW (Xh 0 (xs.length:Int) c)).filterMap λm=>xs[m*c]?
theorem L9 {α:Type} {c:Nat} {xs:List α} {x:α} (h:x∈dS c xs):x∈xs:=by
 obtain⟨m,_,e⟩:=List.mem_filterMap.mp h;exact YF e
end
section
variable {prog:Xf} {w:World} {A:Xv} {E:Value->WI->Prop} {s:WI}
theorem Ma {t sl:Addr} {items:Array Value} {tk:Tok} {c:Nat} {Q:Value->WI->Prop} (hc:2<=c) (ht:IsTup s.heap t items) (hs:s.heap.IsSliceOf sl .none .none (.int c tk))
  (h:Q (.ref s.heap.objs.size) { s with heap:=s.heap.push { cls:=.type "tuple",data:=.seq (dS c items.toList).toArray } })
  (hsz:(dS c items.toList).length<=WX):wpAny (model prog w) A (aa6 (.ref t) (.ref sl)) Q E s:=by
 have hz:sizeOk (.seq (dS c items.toList).toArray):=by
  show (dS c items.toList).toArray.size<=WX;rw[W2];exact hsz
 obtain⟨os,gE,gF,i5⟩:=id hs;have oq:s.TypeIs (.ref sl) "slice":=⟨os,gE,gF⟩;unfold aa6
 try with_reducible refine Yf ?_
 first|refine WD (WG ?_)|skip
 refine WD (aak ht.typeIs (by decide) (WD (Xp (name:=XC "__getitem__") ht.typeIs Xd (Xs Xd ht.typeIs Z0 ?_ (Z8 _ _)))));show wpAny _ _ (Yo (.ref t) >>= _) _ _ s;refine WD (tupleItemsOf_ ht (WD (ZD oq ?_)));rw[if_pos (by decide)];refine WD ?_;unfold YQ ZQ;refine WD (WD (XY gE i5 (x:=.none) rfl (WD (XY gE i5 (x:=.none) rfl (WD (XY gE i5 (x:=.int c tk) rfl (WG ?_)))))));refine WD (slicePart_int ?_)
 refine(show wpAny _ _ (if ((c:Int)==0)=true then _ else _) _ _ s from ?_)
 rw[if_neg (by simp;omega)];refine WD (ZP (WD (ZP (WD (WG ?_)))));have ea:XR none none (c:Int) (items.size:Int)=(0,(items.size:Int)):=by
  unfold XR;simp;omega
 show wpAny _ _ (match XR none none (c:Int) (items.size:Int) with | (lo,hi)=>pure (lo,(c:Int),Xh lo hi c)) _ _ s
 rw[ea];refine WG ?_
 show wpAny _ _ (if ((0:Int)==0&&(c:Int)==1&&Xh 0 (items.size:Int) c==items.size)=true then _ else _) _ _ s
 rw[if_neg (by simp;omega)];have ep:((WW (Xh 0 (items.size:Int) c)).filterMap λ(m:Nat)=>items[((0:Int)+(m:Int)*(c:Int)).toNat]?).toArray=(dS c items.toList).toArray:=by
  unfold dS;rw[Xj];congr 2;funext m;rw[show ((0:Int)+(m:Int)*(c:Int)).toNat=m*c by rw[aa5,<- Int.natCast_mul];rfl,Yd]
 rw[ep]
 first
  |exact WD (m:=XE _) (W8 (WG ⟨_,rfl,WG h⟩) hz)
  |exact WD (m:=XE _) (W8 (WD (WG (WG ⟨_,rfl,WG h⟩))) hz)
  |exact WD (WD (m:=XE _) (W8 (WG (WG ⟨_,rfl,WG h⟩)) hz))
end
theorem vm {xs:List V} {us:List Value} (h:Vals xs us) (c:Nat):∀ks:List Nat,Vals (ks.filterMap λm=>xs[m*c]?) (ks.filterMap λm=>us[m*c]?)
 | []=>.nil
 |m::ks=>by
  rw[Ys,Ys]
  cases e:xs[m*c]? with
  |none =>
   have:us[m*c]?=none:=by rw[List.getElem?_eq_none_iff] at e |-;rw[<- h.length];exact e
   rw[this];exact vm h c ks
  |some x =>
   obtain⟨u,e',r⟩:=h.get e;rw[e'];exact .cons r (vm h c ks)
theorem zd {K:Frag} {w:Wd} {ds:List D} {xs:List V} (h:DI.au K w ds xs) (c:Nat):∀ks:List Nat,DI.au K w (ks.filterMap λm=>ds[m*c]?) (ks.filterMap λm=>xs[m*c]?)
 | []=>rfl
 |m::ks=>by
  rw[Ys,Ys]
  cases e:xs[m*c]? with
  |none =>
   have:ds[m*c]?=none:=by rw[List.getElem?_eq_none_iff] at e |-;rw[h.length];exact e
   rw[this];exact zd h c ks
  |some x =>
   obtain⟨d,e',r⟩:=h.get _ _ e;rw[e'];exact⟨x,_,rfl,r,zd h c ks⟩
theorem xM {α:Type} (c:Nat) (xs:List α) (hc:1<=c):(dS c xs).length<=xs.length:=by
 have h2:(dS c xs).length<=Xh 0 (xs.length:Int) c:=by
  unfold dS;exact W7 (List.length_filterMap_le _ _) (by rw[Yn];exact Nat.le_refl _)
 refine W7 h2 ?_;unfold Xh;have h1:((c:Int) > 0):=by omega
 simp only[h1,if_true];split
 ·rename_i h
  have:((xs.length:Int)-0-1) / (c:Int)<=(xs.length:Int)-0-1:=Int.ediv_le_self _ (by omega);omega
 ·exact X1 _
section
variable {X:Cx} {Ξ:Wd->bq->Prop} {e:Expr} {te:TE} {pos p2 p4:Pos} {f:DI.Env->ae->Res D}
theorem OR {c:Nat} (hc:2<=c) (he:PE X e te):PE X (.Subscript e (.Slice none none (some (.Constant (.int (c:Int)) 0 p4)) p2) pos) (fun σ H Q=>te σ H λx H1=>∃a xs,x=.ref a/\aZ X.K H1 a xs/\kj X.K H1 (dS c xs) Q):=by
 intro pins s σ H Q I h;refine Subscript_ (aK (he pins s σ H _ I h) λv s1 ⟨x,H1,I1,r1,q1⟩=>?_);obtain⟨a,xs,rfl,hx,q⟩:=q1;cases r1;refine wpAny_Slice ?_;rw[evalPart_none];refine WG (WG ?_);rw[evalPart_some];refine aK ((yP:PE X (.Constant (.int (c:Int)) 0 p4) (tC (.int c))) pins s1 σ H1 (λy H2=>y=.int c/\H2=H1) I1 ⟨rfl,rfl⟩) λu s2 ⟨y,H2,I2,r2,e1,e2⟩=>?_;subst e1 e2;obtain⟨tk,rfl⟩:=r2
 have I4:Inv X pins σ H2 { s2 with heap:=s2.heap.push { cls:=.type "slice",data:=.fields #[.none,.none,.int c tk] } }:=I2.kept (t':=s2.toks) λb ob q=>WE _ q
 obtain⟨its,r,ht,hz⟩:=I4.tuple hx;have hlen:its.length=xs.length:=r.length.symm;have pl:(dS c its).length=(dS c xs).length:=by
  unfold dS;rw[hlen];exact(vm r c _).length.symm
 have i7:Heap.IsSliceOf (s2.heap.push { cls:=.type "slice",data:=.fields #[.none,.none,.int c tk] }) s2.heap.objs.size .none .none (.int c tk):=Heap.IsSliceOf.new ..;refine tail_any (ops:=[.ref a,.ref s2.heap.objs.size]) ht.typeIs Xd.lookup (Ma hc ht i7 ?_ ?_) (by with_unfolding_all rfl)
 ·refine⟨.ref _,_,I4.laid (t':=s2.toks) (o:=.tup (dS c xs)) (λb ob q=>WE _ q) (Nat.le_refl _) ?_,rfl,q.new (I4.aM.fresh (Nat.le_refl _))⟩
  refine⟨W7 (xM c xs (by omega)) hz,dS c its,?_,IsTup.new _ _⟩;unfold dS;rw[hlen];exact vm r c _
 ·have:=xM c its (by omega)
  simp only;omega
noncomputable def v9 (c:Nat) (d:D) (s:ae):Res D:=match d with
 | .tup ds=>ok (.tup (dS c ds)) s
 |_=>none
theorem QE {c:Nat} (hc:2<=c) (he:PE X e (tE X.K Ξ f)):PE X (.Subscript e (.Slice none none (some (.Constant (.int (c:Int)) 0 p4)) p2) pos) (tE X.K Ξ (e1 (v9 c) f)):=cD (OR hc he) fun σ H Q aE=>by
 obtain⟨w,env,eH,S,eo,h⟩:=aE;subst eH;refine⟨w,env,rfl,S,eo,(Out.ar h).mono λw1 d l1 S1 h1 v dv=>?_⟩;unfold v9 at h1;split at h1
 ·simp only[DI.DV] at dv
  obtain⟨a,xs,rfl,ha,aw⟩:=dv;refine⟨a,xs,rfl,ha,lQ S1 ?_ h1⟩;unfold dS;rw[aw.length];exact zd aw c _
 ·exact h1.elim
end
end TK
namespace TK
open PySem PySem.W PyProof.Rows DI L2
noncomputable def zC (f:DI.Env->ae->Res D):DI.Env->ae->Res D:=λenv s=>ar (f env s) λx s=>ar (truth x s) λb s=>ok (.bl (!b)) s
theorem QG {X:Cx} {Ξ:Wd->bq->Prop} {a:Expr} {pos:Pos} {f:DI.Env->ae->Res D} (ha:PE X a (tE X.K Ξ f)):PE X (.UnaryOp .Not a pos) (tE X.K Ξ (zC f)):=by
 rintro pins s σ H Q I ⟨w,env,rfl,S,eo,h⟩;refine UnaryOp_ (aK (ha pins s σ w.H (λv H'=>∃b,nP X.K v H' b/\Q (.bl (!b)) H') I ⟨w,env,rfl,S,eo,(Out.ar h).mono λw1 x l1 S1 h1 v dv=>?_⟩) λv s1 ⟨x,H1,I1,r1,b,q1,q2⟩=>?_)
 ·obtain⟨b,t,h2⟩:=nP.of S1 dv (Out.ar h1)
  exact⟨b,t,aI S1 h2 _ rfl⟩
 ·refine not_of (Yy (Gk pins s1 σ H1 x v (λc H2=>Q (.bl (!c)) H2) I1 r1 ⟨b,q1,q2⟩) (λc s2 ⟨H2,I2,q⟩=>⟨.bl (!c),H2,I2,rfl,q⟩) λ_ _ z=>z)
end TK
namespace ST
open PySem PySem.Spec PyProof.Rows
section
variable {prog:Xf} {w:World} {A:Xv} {E:Value->WI->Prop} {s:WI}
end
end ST
namespace DI
open PySem L2
section
variable {X:Cx} {Ξ:Wd->bq->Prop}
end
end DI
namespace DI
open PySem L2
section
variable {X:Cx} {Ξ:Wd->bq->Prop} {e o i:Expr} {pos gQ:Pos} {f fo fi:Env->ae->Res D}
end
end DI
namespace L2
open PySem PySem.Spec PyProof.Rows
section
variable {X:Cx}
end
end L2
namespace DI
open PySem L2
section
variable {X:Cx} {Ξ:Wd->bq->Prop}
end
end DI
namespace L2
open PySem PySem.Spec PyProof.Rows
section
variable {X:Cx}
end
end L2
namespace DI
open PySem L2
section
variable {X:Cx} {Ξ:Wd->bq->Prop} {a:Expr} {pos:Pos} {f:Env->ae->Res D}
end
end DI
namespace L2
open PySem PySem.Spec PyProof.Rows
section
variable {X:Cx}
end
end L2
namespace DI
open PySem L2
section
variable {X:Cx} {Ξ:Wd->bq->Prop} {pos:Pos}
end
end DI
namespace L2
open PySem PySem.Spec PyProof.Rows
end L2
namespace DI
open PySem L2
section
variable {X:Cx} {Ξ:Wd->bq->Prop}
end
end DI
namespace L2
open PySem PySem.Spec PyProof.Rows
open AutoSeq1 (wpAny_loadPart')
section
variable {prog:Xf} {w:World} {A:Xv} {E:Value->WI->Prop} {s:WI}
end
end L2
namespace L2
open PySem PySem.Spec PyProof.Rows
section
variable {X:Cx}
end
end L2
namespace DI
open PySem L2
section
variable {X:Cx} {Ξ:Wd->bq->Prop} {a:Expr} {p pos:Pos} {fa:Env->ae->Res (List D)}
end
end DI
namespace L2
open PySem PySem.Spec PyProof.Rows
section
variable {X:Cx} {pos:Pos}
noncomputable def R8 (i j k:Nat) (ta:TA):TS:=λD σ H=>ta σ H λvs H1=>∃v w u,vs=[v,w,u]/\D.nx (((σ.set i (some v)).set j (some w)).set k (some u)) H1
theorem vals3 {v w u:V} {us:List Value} (r:Vals [v,w,u] us):∃a b c,us=[a,b,c]/\RelV v a/\RelV w b/\RelV u c:=by
 cases r with
 |cons p q =>
  obtain⟨b,c,rfl,h1,h2⟩:=vals2 q;exact⟨_,b,c,rfl,p,h1,h2⟩
theorem OS {i j k:Nat} {x y z:Str} {a b c:Expr} {ta:TA} {px py pz pt:Pos} {kt k2 hZ} (hc:X.calm=true) (hN:X.N.Nodup) (hi:X.N[i]?=some x) (hj:X.N[j]?=some y) (hk:X.N[k]?=some z) (eZ:i≠j) (ox:i≠k) (Bv:j≠k)
  (hx:X.env.scope.names.lookup x=some .local) (hy:X.env.scope.names.lookup y=some .local) (hz:X.env.scope.names.lookup z=some .local) (ha:PA X [a,b,c] ta)
  (hw:Zi [.Tuple [.Name x px,.Name y py,.Name z pz] kt pt] (.Tuple [a,b,c] k2 hZ) X.env=pure (some [x,y,z]))
  (hs:Zh [.Tuple [.Name x px,.Name y py,.Name z pz] kt pt] (.Tuple [a,b,c] k2 hZ) pos.line X.env=pure false) :
  PS X (.Assign [.Tuple [.Name x px,.Name y py,.Name z pz] kt pt] (.Tuple [a,b,c] k2 hZ) pos) (R8 i j k ta):=by
 intro pins s σ H D I h;rw[exec_Assign_arm];refine WD (Zg ?_);rw[hs];refine WD (WG ?_);rw[if_neg (by decide)];refine WD (Tuple_ (aK (ha _ pins s σ H _ I h) λus s1 aE=>?_));obtain⟨vs,H1,I1,r1,v,w,u,e1,q1⟩:=aE;subst e1;obtain⟨u1,u2,u3,rfl,rv,oj,ru⟩:=vals3 r1;refine W8 ?_ (by show 3<=WX;decide)
 have I2:Inv X pins σ H1 { s1 with heap:=s1.heap.push { cls:=.type "tuple",data:=.seq [u1,u2,u3].toArray } }:=I1.kept (t':=s1.toks) λb o e=>WE _ e
 rw[hw];refine WD (WG ?_)
 show wpAny (model X.prog X.w) X.A (do rule "assign.swapped-stores";let items <- unpackItems (.ref s1.heap.objs.size) 3 none;aaO [λv=>aaP X.env z v,λv=>aaP X.env y v,λv=>aaP X.env x v] items.reverse;pure Flow.next) _ _ _
 refine WD (YV (WD (unpackItems_tuple (items:=#[u1,u2,u3]) (I.ok.hd hc) (IsTup.new s1.heap _) λh' wO=>?_)));have I3:=I2.kept (h':=h') (t':=s1.toks) λb o e=>wO b o (Xe (WS e)) e
 show wpAny _ _ (aaO [λv=>aaP X.env z v,λv=>aaP X.env y v,λv=>aaP X.env x v] [u3,u2,u1] >>= λ_=>pure Flow.next) _ _ _
 refine WD (YZ (aaz (l8 I3 hN hk (.inl hz) ru (λs2 I4=>?_) (.inr hz))));refine YZ (aaz (l8 I4 hN hj (.inl hy) oj (λs3 I5=>?_) (.inr hy)));refine YZ (aaz (l8 I5 hN hi (.inl hx) rv (λs4 I6=>assignInOrder_nil (WG ?_)) (.inr hx)));rw[List.set_comm _ _ (Zx Bv),List.set_comm _ _ (Zx ox),List.set_comm _ _ (Zx eZ)] at I6;exact⟨_,H1,I6,q1⟩
end
end L2
namespace DI
open PySem L2
section
variable {X:Cx} {Ξ:Wd->bq->Prop} {a b c:Expr} {pos:Pos} {fa:Env->ae->Res (List D)}
noncomputable def nZ (i j k:Nat) (fa:Env->ae->Res (List D)):Env->ae->Res Fl:=λenv s=>ar (fa env s) λds s=>match ds with
 | [x,y,z]=>ok (.nx (((env.set i (some x)).set j (some y)).set k (some z))) s
 |_=>none
theorem ze (i j k:Nat) {x y z:Str} {px py pz pt:Pos} {kt k2 hZ} (hc:X.calm=true) (hN:X.N.Nodup) (ha:PA X [a,b,c] (tA X.K Ξ fa)) (hi:X.N[i]?=some x:=by rfl) (hj:X.N[j]?=some y:=by rfl) (hk:X.N[k]?=some z:=by rfl) (eZ:i≠j:=by decide) (ox:i≠k:=by decide) (Bv:j≠k:=by decide)
  (hx:X.env.scope.names.lookup x=some .local:=by rfl) (hy:X.env.scope.names.lookup y=some .local:=by rfl) (hz:X.env.scope.names.lookup z=some .local:=by rfl)
  (hw:Zi [.Tuple [.Name x px,.Name y py,.Name z pz] kt pt] (.Tuple [a,b,c] k2 hZ) X.env=pure (some [x,y,z]):=by rfl)
  (hs:Zh [.Tuple [.Name x px,.Name y py,.Name z pz] kt pt] (.Tuple [a,b,c] k2 hZ) pos.line X.env=pure false:=by rfl) :
  PS X (.Assign [.Tuple [.Name x px,.Name y py,.Name z pz] kt pt] (.Tuple [a,b,c] k2 hZ) pos) (tS X.K Ξ (nZ i j k fa)):=iN (OS hc hN hi hj hk eZ ox Bv hx hy hz ha hw hs) λD0 σ H aE=>by
 obtain⟨w,env,eH,S,eo,h⟩:=aE;subst eH;refine⟨w,env,rfl,S,eo,(Out.ar h).mono λw1 ds l1 S1 h1 vs aw=>?_⟩;split at h1
 ·obtain⟨v,r,rfl,dv,dr⟩:=aw
  obtain⟨u,t,rfl,du,dt⟩:=nA dr;exact⟨v,u,t,rfl,aI S1 h1 _ ((((eo.le l1).set dv i).set du j).set dt k)⟩
 ·exact h1.elim
end
end DI
namespace DI
open PySem L2
noncomputable def pH:List D->ae->Res D:=bc 2 6 (ay (nZ 2 3 4 (af (e2 aS (ax bj (af (aa 0) (af (eC (.int 3)) ai))) (eC (.int 0))) (af (eNew ai) (af (e2 cj (eC (.int 2)) (ax bj (af (aa 0) (af (eC (.int 9)) ai)))) ai)))) (ay (cJ (bM (af (eC (.int 31)) ai)) (gN 5) (ay (aN (cZ (kE (aa 2) (e2 aS (ax bj (af (aa 0) (af (aa 4) ai))) (eC (.int 0)))) (e2 cq (aa 5) (aa 1))) (gN 2)) (bA (cu (aa 2)) (cP (eJ (aa 3) (aa 5))) bL))) (aP (jn (aa 3)))))
noncomputable def vn (W:World):List D->ae->Res D:=bc 1 12 (ay (aN (bz (af TK.rX (af (e2 cj (eC (.int 1)) (ax bj (af (aa 0) (af (eC (.int 3)) ai)))) (af (e2 cj (eC (.int 1)) (ax bj (af (aa 0) (af (eC (.int 3)) ai)))) ai)))) (gT [(gN 1),(gN 2),(gN 3)])) (ay (cJ (bM (af (aa 2) ai)) (gN 4) (ay (aN (bz (af (aV 1 [] (bM (af (eC (.int 8)) ai)) (gN 0) ck (eNew ai)) (af (eNew ai) ai))) (gT [(gN 5),(gN 6)])) (ay (cJ (bM (af (ax bj (af (aa 0) (af (eC (.int 4)) ai))) ai)) (gN 7) (ay (aN (bz (af (ax bj (af (aa 0) (af (eC (.int 8)) ai))) (af (ax bj (af (aa 0) (af (eC (.int 31)) ai))) ai))) (gT [(gN 8),(gN 9)])) (ay (cP (eJ (e2 ao (aa 5) (aa 8)) (aa 9))) (TK.iR W (eC (.bl true)) (aa 1) (bz (af (eC (.str "mended")) (af (aa 4) (af (aa 9) (af (aa 8) ai))))))))) (ay (cJ (bM (af (eC (.int 8)) ai)) (gN 8) (cP (eJ (aa 6) (ax pH (af (aa 0) (af (e2 ao (aa 5) (aa 8)) ai)))))) (cJ (bM (af (ax bj (af (aa 0) (af (eC (.int 5)) ai))) ai)) (gN 7) (ay (aN (ax bj (af (aa 0) (af (eC (.int 31)) ai))) (gN 9)) (ay (aN (aV 1 [0,3] (bM (af (eC (.int 8)) ai)) (gN 0) (aF (e2 aS (ax bj (af (aa 1) (af (aa 2) ai))) (eC (.int 0)))) (aa 0)) (gN 10)) (ay (aN (eB dB (af (aV 1 [9,6] (aU (aa 10)) (gN 0) (aF (e2 bU (aa 1) (e2 ao (aa 2) (aa 0)))) (aa 0)) ai)) (gN 11)) (TK.iR W (eC (.bl true)) (aa 1) (bz (af (eC (.str "made")) (af (aa 4) (af (aa 9) (af (bz (af (aa 11) (af (eB dB (af (aV 1 [9,6] (aU (aa 10)) (gN 0) (aF (e2 cq (aa 1) (e2 ao (aa 2) (aa 0)))) (aa 0)) ai)) ai))) ai)))))))))))))) (aP (eB dB (af (eB TK.nE (af (eB TK.nD (af (aa 1) ai)) ai)) ai)))))
noncomputable def vo (W:World):List D->ae->Res D:=bc 1 10 (ay (aN TK.rX (gN 1)) (ay (nZ 2 3 4 (af (e2 cj (eC (.int 1)) (ax bj (af (aa 0) (af (eC (.int 2)) ai)))) (af (e2 ao (fB (af (eC (.int 3)) (af (eC (.int 8)) (af (eC (.int 31)) ai)))) (ax bj (af (aa 0) (af (eC (.int 3)) ai)))) (af (e2 cj (eC (.int 1)) (ax bj (af (aa 0) (af (eC (.int 4)) ai)))) ai)))) (ay (cJ (bM (af (ax bj (af (aa 0) (af (eC (.int 25)) ai))) ai)) (gN 5) (ay (sk 6 7 (af (ax bj (af (aa 0) (af (aa 2) ai))) (af (ax bj (af (aa 0) (af (aa 3) ai))) ai))) (bA (aF (e2 aS (ax bj (af (aa 0) (af (eC (.int 4)) ai))) (eC (.int 0)))) (TK.iR W (eC (.bl true)) (aa 1) (bz (af (eC (.str "mended")) (af (aa 6) (af (aa 7) (af (ax bj (af (aa 0) (af (aa 4) ai))) ai)))))) (ay (aN (ax jz (af (aa 0) (af (aa 4) ai))) (gN 8)) (ay (aN (eB dB (af (aV 1 [8] (aU (ax jz (af (aa 0) (af (aa 4) ai)))) (gN 0) (aF (e2 cq (aa 0) (aa 1))) (aa 0)) ai)) (gN 9)) (TK.iR W (eC (.bl true)) (aa 1) (bz (af (eC (.str "made")) (af (aa 6) (af (aa 7) (af (bz (af (aa 8) (af (aa 9) ai))) ai))))))))))) (aP (eB dB (af (eB TK.nE (af (eB TK.nD (af (aa 1) ai)) ai)) ai))))))
noncomputable def pq:List D->ae->Res D:=bc 2 2 (aP (nS (eB qq (af (aV 1 [1] (aU (aa 0)) (gN 0) ck (e2 bU (aa 0) (aa 1))) ai))))
noncomputable def qU:List D->ae->Res D:=bc 1 3 (ay (bA (gS (dF (cu (eB cF (af (aa 0) (af (eC (.ty "tuple")) ai))))) (aF (e2 fE (eB dY (af (aa 0) ai)) (eC (.int 2))))) (aP (eC (.bl false))) bL) (ay (aN (aa 0) (gT [(gN 1),(gN 2)])) (aP (cZ (ax qQ (af (aa 1) ai)) (cZ (ax qQ (af (aa 2) ai)) (ax pq (af (aa 1) (af (aa 2) ai))))))))
noncomputable def qV:List D->ae->Res D:=bc 1 1 (aP (ax pA (af (aa 0) (af (eC (.int (4))) ai))))
noncomputable def rg:List D->ae->Res D:=bc 1 1 (aP (ax pA (af (aa 0) (af (eC (.int (31))) ai))))
noncomputable def uQ:List D->ae->Res D:=bc 1 5 (ay (bA (gS (dF (cu (eB cF (af (aa 0) (af (eC (.ty "tuple")) ai))))) (aF (e2 fE (eB dY (af (aa 0) ai)) (eC (.int 4))))) (aP (eC (.bl false))) bL) (ay (aN (aa 0) (gT [(gN 1),(gN 2),(gN 3),(gN 4)])) (ay (bA (gS (dF (cu (ax qV (af (aa 2) ai)))) (dF (cu (ax rg (af (aa 3) ai))))) (aP (eC (.bl false))) bL) (ay (bA (aF (e2 aS (aa 1) (eC (.str "made")))) (aP (ax qU (af (aa 4) ai))) bL) (aP (cZ (e2 aS (aa 1) (eC (.str "mended"))) (ax qY (af (aa 4) ai))))))))
noncomputable def uJ:List D->ae->Res D:=bc 1 1 (aP (cZ (eB cF (af (aa 0) (af (eC (.ty "tuple")) ai))) (cZ (e2 sf (eB dY (af (aa 0) ai)) (eC (.int (24)))) (cZ (eB mE (af (aV 1 [] (aU (aa 0)) (gN 0) ck (ax uQ (af (aa 0) ai))) ai)) (ax m7 (af (aa 0) ai))))))
noncomputable def j6:List D->ae->Res D:=bc 4 4 (aP (aV 1 [1,2,3] (aU (aa 0)) (gN 0) (cx (aF (e2 aS (e2 ao (aa 0) (eC (.int 0))) (eC (.str "made")))) (cx (aF (e2 aS (e2 ao (aa 0) (eC (.int 1))) (aa 1))) (aF (e2 bU (aa 2) (e2 ao (e2 ao (aa 0) (eC (.int 3))) (aa 3)))))) (e2 ao (aa 0) (eC (.int 2)))))
noncomputable def pf:List D->ae->Res D:=bc 3 3 (aP (aV 1 [1,2] (aU (aa 0)) (gN 0) (cx (aF (e2 aS (e2 ao (aa 0) (eC (.int 0))) (eC (.str "mended")))) (cx (aF (e2 aS (e2 ao (aa 0) (eC (.int 1))) (aa 1))) (aF (e2 aS (e2 ao (aa 0) (eC (.int 3))) (aa 2))))) (e2 ao (aa 0) (eC (.int 2)))))
noncomputable def t6:List D->ae->Res D:=bc 3 3 (aP (eB qq (af (aV 1 [1,2] (aU (aa 0)) (gN 0) ck (tG kq sf (aa 1) (aa 0) (aa 2))) ai)))
noncomputable def qZ:List D->ae->Res D:=bc 3 5 (ay (aN (ax j6 (af (aa 0) (af (aa 1) (af (aa 2) (af (eC (.int (1))) ai))))) (gN 3)) (ay (aN (ax pf (af (aa 0) (af (aa 1) (af (aa 2) ai)))) (gN 4)) (aP (GJ 2 [3,4] (aU (e1 pF (ax j6 (af (aa 0) (af (aa 1) (af (aa 2) (af (eC (.int (0))) ai))))))) (gN 0) ck (tK (af (aa 0) (af (eC (.int (31))) ai))) (gN 1) (cx (gS (aF (e2 bU (aa 1) (aa 2))) (cx (aF (e2 aS (aa 1) (aa 0))) (aF (e2 bU (aa 0) (aa 3))))) (dF (cu (ax t6 (af (aa 3) (af (aa 0) (af (aa 1) ai))))))) (bz (af (aa 0) (af (aa 1) ai)))))))
noncomputable def uC:List D->ae->Res D:=bc 1 1 (aP (GK 4 [0] (bM (af (eC (.int (4))) ai)) (gN 0) ck (bM (af (eC (.int (8))) ai)) (gN 1) ck (aU (ax qZ (af (aa 4) (af (aa 0) (af (aa 1) ai))))) (gT [gN 2,gN 3]) ck (bz (af (aa 0) (af (aa 1) (af (aa 2) (af (aa 3) ai)))))))
noncomputable def pC:List D->ae->Res D:=bc 1 1 (aP (cZ (ax uJ (af (aa 0) ai)) (TK.zC (ax uC (af (aa 0) ai)))))
noncomputable def ye:List D->ae->Res D:=bc 3 3 (aP (kE (e2 bU (eC (.bl true)) (aa 0)) (cZ (e2 bU (eC (.bl false)) (aa 0)) (kE (nS (aa 1)) (aa 2)))))
noncomputable def yF:List D->ae->Res D:=bc 3 3 (aP (cZ (nS (aa 1)) (kE (e2 bU (eC (.bl false)) (aa 0)) (cZ (aa 2) (e2 fE (aa 0) (fB ai))))))
noncomputable def pX:List D->ae->Res D:=bc 3 9 (ay (aN (rD 1 [] (bM (af (eC (.int 31)) ai)) (gN 0) ck (fB (af (eC (.bl false)) (af (eC (.bl true)) ai)))) (gN 3)) (ay (aN (rD 1 [] (bM (af (eC (.int 32)) ai)) (gN 0) ck (eC (.bl false))) (gN 4)) (ay (cJ (aU (aa 0)) (gN 5) (ay (bA (cx (aF (e2 aS (e2 ao (aa 5) (eC (.int 0))) (eC (.str "mended")))) (cx (aF (e2 aS (e2 ao (aa 5) (eC (.int 1))) (aa 1))) (aF (e2 aS (e2 ao (aa 5) (eC (.int 3))) (aa 2))))) (ay (gy (aV 1 [] (aU (e2 ao (aa 3) (e2 ao (aa 5) (eC (.int 2))))) (gN 0) (dF (cu (aa 0))) (aa 0)) (aa 3) (e2 ao (aa 5) (eC (.int 2)))) (gy (eC (.bl true)) (aa 4) (e2 ao (aa 5) (eC (.int 2))))) bL) (bA (cx (aF (e2 aS (e2 ao (aa 5) (eC (.int 0))) (eC (.str "made")))) (cx (aF (e2 aS (e2 ao (aa 5) (eC (.int 1))) (aa 1))) (aF (e2 bU (aa 2) (e2 cj (e2 ao (e2 ao (aa 5) (eC (.int 3))) (eC (.int 0))) (e2 ao (e2 ao (aa 5) (eC (.int 3))) (eC (.int 1)))))))) (gy (aV 1 [2,5] (aU (e2 ao (aa 3) (e2 ao (aa 5) (eC (.int 2))))) (gN 0) (aF (e2 aS (aa 0) (e2 bU (aa 1) (e2 ao (e2 ao (aa 2) (eC (.int 3))) (eC (.int 0)))))) (aa 0)) (aa 3) (e2 ao (aa 5) (eC (.int 2)))) bL))) (ay (cJ (tK (af (eC (.int 1)) (af (eC (.int 31)) ai))) (gN 6) (ay (aN (bz (af (e2 ao (aa 3) (e2 nH (aa 6) (eC (.int 1)))) (af (e2 ao (aa 4) (aa 6)) ai))) (gT [(gN 7),(gN 8)])) (gy (aV 1 [7,8] (aU (e2 ao (aa 3) (aa 6))) (gN 0) (gS (cx (cu (aa 0)) (aF (e2 fE (aa 1) (fB ai)))) (cu (ax yF (af (aa 1) (af (aa 0) (af (aa 2) ai)))))) (aa 0)) (aa 3) (aa 6)))) (ay (cJ (Bu (af (eC (.int 29)) (af (e1 lG (eC (.int 1))) (af (e1 lG (eC (.int 1))) ai)))) (gN 6) (gy (aV 1 [3,4,6] (aU (e2 ao (aa 3) (aa 6))) (gN 0) (cu (ax ye (af (e2 ao (aa 1) (e2 cj (aa 3) (eC (.int 1)))) (af (aa 0) (af (e2 ao (aa 2) (e2 cj (aa 3) (eC (.int 1)))) ai))))) (aa 0)) (aa 3) (aa 6))) (aP (aV 1 [] (aU (jn (aa 3))) (gN 0) ck (eB dB (af (aa 0) ai)))))))))
noncomputable def qR:List D->ae->Res D:=bc 1 1 (bA (dF (cu (ax pC (af (aa 0) ai)))) tI bL)
noncomputable def uu:List D->ae->Res D:=bc 1 1 (bA (dF (cu (ax qV (af (aa 0) ai)))) tI bL)
noncomputable def uK:List D->ae->Res D:=bc 1 1 (bA (dF (cu (ax rg (af (aa 0) ai)))) tI bL)
noncomputable def ua:List D->ae->Res D:=bc 3 8 (ay (aN (ax j6 (af (aa 0) (af (aa 1) (af (aa 2) (af (eC (.int (0))) ai))))) (gN 3)) (ay (aN (ax pf (af (aa 0) (af (aa 1) (af (aa 2) ai)))) (gN 4)) (ay (aN (eNew ai) (gN 5)) (ay (aN (eC (.bl false)) (gN 6)) (ay (cJ (bM (af (eC (.int (31))) ai)) (gN 7) (ay (aN (kE (e2 bU (aa 7) (aa 3)) (cZ (aa 6) (e2 cq (aa 7) (aa 4)))) (gN 6)) (bA (cu (aa 6)) (cP (eJ (aa 5) (aa 7))) bL))) (aP (jn (aa 5))))))))
noncomputable def uh:List D->ae->Res D:=bc 3 8 (ay (aN (ax j6 (af (aa 0) (af (aa 1) (af (aa 2) (af (eC (.int (1))) ai))))) (gN 3)) (ay (aN (ax pf (af (aa 0) (af (aa 1) (af (aa 2) ai)))) (gN 4)) (ay (aN (eNew ai) (gN 5)) (ay (aN (eC (.bl false)) (gN 6)) (ay (cJ (Bo (af (eC (.int (31))) ai)) (gN 7) (ay (bA (gS (cu (aa 6)) (gS (aF (e2 bU (aa 7) (aa 3))) (aF (e2 bU (aa 7) (aa 4))))) (cP (eJ (aa 5) (aa 7))) bL) (aN (cZ (kE (aa 6) (e2 bU (aa 7) (aa 3))) (e2 cq (aa 7) (aa 4))) (gN 6)))) (aP (jn (aa 5))))))))
noncomputable def qW:List D->ae->Res D:=bc 2 2 (aP (eB dB (af (aV 1 [1,0] (bM (af (eC (.int (8))) ai)) (gN 0) (aF (e2 bU (aa 1) (e2 ao (aa 2) (aa 0)))) (aa 0)) ai)))
noncomputable def ph:List D->ae->Res D:=bc 2 4 (ay (aN (aV 1 [0,1] (bM (af (eC (.int (8))) ai)) (gN 0) ck (ax ua (af (aa 1) (af (aa 2) (af (aa 0) ai))))) (gN 2)) (ay (aN (aV 1 [0,1] (bM (af (eC (.int (8))) ai)) (gN 0) ck (ax uh (af (aa 1) (af (aa 2) (af (aa 0) ai))))) (gN 3)) (aP (aV 1 [2,3] (bM (af (eC (.int (31))) ai)) (gN 0) ck (bz (af (ax qW (af (aa 1) (af (aa 0) ai))) (af (ax qW (af (aa 2) (af (aa 0) ai))) ai)))))))
end DI
namespace DI
open PySem L2
noncomputable def vp (nt:Nat) (cap:List Nat) (it:Env->ae->Res (List D)) (g:D->Env->Option Env) (t:Env->ae->Res Bool) (act:Env->ae->Res (List D)):Env->ae->Res D:=λenv s =>
 ar (it env s) λds s=>ar (ne (fX g t act (WM nt none++dE cap env) ds s)) λxs s=>gp xs (ok (.aj s.length) (s++[.lst xs]))
theorem Lg {K:Frag} {Ξ:Wd->bq->Prop} {Pre:Env->Prop} {nt:Nat} {cap:List Nat} {it:Env->ae->Res (List D)} {g0:TG} {g:D->Env->Option Env} {sl:List Nat} {t:Env->ae->Res Bool} {act:Env->ae->Res (List D)} {ta:iA} (T:Tg K g0 g nt) (hs:Sl g sl) (i7:∀i∈sl,i<nt) (hA:qf K Pre ta act)
  (hp:∀d caps aC,g d (WM nt none++caps)=some aC->Pre aC) (σ:St) (H:Hp) (Q:VK) :
  tE K Ξ (vp nt cap it g t act) σ H Q->yW (dq K Ξ it) nt cap g0 (tT K bR t) ta σ H Q:=by
 rintro ⟨w,env,rfl,S,eo,h⟩;refine⟨w,env,rfl,S,eo,(Out.ar h).mono λw1 ds l1 S1 h1 J hJ=>?_⟩
 cases hr:fX g t act (WM nt none++dE cap env) ds w1.aG with
 |none=>rw[hr] at h1;exact h1.elim
 |some r =>
  obtain⟨r,s'⟩:=r;rw[hr] at h1
  cases r with
  |error x=>exact h1.elim
  |ok xs =>
   have h1:Out K Ξ w1 (gp xs (ok (.aj s'.length) (s'++[.lst xs]))) (λw' d=>∀v,DV K w' d v->Q v w'.H):=h1;obtain⟨hz,h1⟩:=ng h1;have eb:=(eo.le l1).block nt cap (WM nt none) (by simp);refine xI T hs (λi hi d e=>?_) (λd aC hg=>hp d _ aC hg) hA hJ S1 eb (accD:=[]) rfl hr (by simpa using hz) λw' cN vs l' S' e' gH aw p oM=>?_
   ·rw[W0 (by simpa using i7 i hi),X5,if_pos (i7 i hi)] at e
    cases e
   ·have le:=(Fw.cell (o:=.lst vs) (c:=.lst xs) S' oM).le
    refine h1 (w'.cell p (.lst vs) (.lst xs)) (l'.trans le) (S'.vU oM ⟨vs,dP,le.all aw⟩) ?_ (.ref p) ⟨p,?_,rfl⟩
    ·show w'.aG++[.lst xs]=_
     rw[e']
    ·show (w'.ρ++[p])[s'.length]?=some p
     rw[<- e',<- S'.len];simp
section
variable {X:Cx} {Ξ:Wd->bq->Prop} {el tg src gI fF:Expr} {tests iw:List Expr} {sc:Scope} {ps pos:Pos} {N:List Str} {nt:Nat} {cap:List Nat} {it f9:Env->ae->Res (List D)} {gd kG:D->Env->Option Env} {g0 oO:TG} {sl cC:List Nat} {ft iD:Env->ae->Res Bool} {f:Env->ae->Res D}
noncomputable abbrev FL (nt:Nat) (cap:List Nat) (it:Env->ae->Res (List D)) (g:D->Env->Option Env) (t:Env->ae->Res Bool) (f9:Env->ae->Res (List D)) (g2:D->Env->Option Env) (t2:Env->ae->Res Bool) (f:Env->ae->Res D):Env->ae->Res D:=vp nt cap it g t (more f9 g2 t2 (emit f))
theorem Nr (hc:X.calm=true) (S:pQ X sc N nt cap) (T:Tg X.K g0 gd nt) (fG:Sl gd sl) (T2:Tg X.K oO kG nt) (cB:Sl kG cC) (hi:PI X tg src (dq X.K Ξ it))
  (hY:∀(cl:List (Str×Addr)) (C:Addr) (s:WI) (H:Hp) (ex:List Addr) (pn:List (Addr×Obj)),PG (cM X N sc cl C s H ex pn) tg g0/\PF (cM X N sc cl C s H ex pn) tests (tT X.K bR ft)/\PI (cM X N sc cl C s H ex pn) gI fF (dq X.K bR f9)/\PG (cM X N sc cl C s H ex pn) gI oO/\PF (cM X N sc cl C s H ex pn) iw (tT X.K bR iD)/\PE (cM X N sc cl C s H ex pn) el (tE X.K bR f))
  (mS:apart nt sl cC=true:=by rfl) (mT:apart nt [] sl=true:=by rfl)
  (hs:∀x,Xo src X.env x=pure x:=by intro _;rfl) (tV:∀ce x,Xo fF ce x=pure x:=by intro _ _;rfl):PE X (.ListComp el [⟨tg,src,tests,0⟩,⟨gI,fF,iw,0⟩] sc ps) (tE X.K Ξ (FL nt cap it gd ft f9 kG iD f)) :=
 cD (x6 (act:=wF (.ListComp el [⟨tg,src,tests,0⟩,⟨gI,fF,iw,0⟩] sc ps) fF 0) hc S T.iF hi (λcl C s H ex pn=>by
   obtain⟨y1,y2,y3,y4,y5,y6⟩:=hY cl C s H ex pn;exact⟨y1,y2,λD caps it=>uV (d:=1) (act:=λjW=>Aq (.ListComp el [⟨tg,src,tests,0⟩,⟨gI,fF,iw,0⟩] sc ps) el 1 _ D jW) rfl hc rfl y3 y4 T2.iF y5 (λjW=>xZ rfl y6) (λ_=>rfl) (tV _)⟩) (λ_ _ _=>rfl) hs)
  (Lg (Pre:=gg cC) T fG (λi hi=>(l9 mT i hi).1) (uB T2 cB xw (λ_ h=>h) (λ_ _ _ _ _=>trivial)) λd caps aC hg=>gg.of fG (l9 mS) hg)
end
end DI
namespace DI
open PySem L2
open Classical in
noncomputable def jB (nt:Nat) (caps:Env) (g:D->Env->Option Env) (t:Env->ae->Res Bool) (f:Env->ae->Res D) (γ:ae->Prop):List D->ae->Res (List D)
 | [],s=>if γ s then ok [] s else none
 |d::ds,s=>if γ s then (match g d (WM nt none++caps) with
  |none=>none
  |some env=>ar (ne (t env s)) λb s=>if b=true then ar (ne (f env s)) λx s=>ar (jB nt caps g t f γ ds s) λxs s=>ok (x::xs) s
   else jB nt caps g t f γ ds s) else none
noncomputable def rJ (nt:Nat) (cap:List Nat) (it:Env->ae->Res (List D×(ae->Prop))) (g:D->Env->Option Env) (t:Env->ae->Res Bool) (f:Env->ae->Res D):Env->ae->Res D:=λenv s =>
 ar (it env s) λp s=>gp p.1 (ar (jB nt (dE cap env) g t f p.2 p.1 s) λxs s=>ok (.lst xs) s)
def Jj (K:Frag) (w:Wd) (J:It) (ds:List D) (γ:ae->Prop):Prop:=∀w',Le K w w'->aO K w'->γ w'.aG->∀i,
 (∀d,ds[i]?=some d->J.go i w'.H/\∀x H',J.qA i w'.H x H'->∃w2,w2.H=H'/\Le K w' w2/\aO K w2/\w2.aG=w'.aG/\DV K w2 d x)/\(ds.length<=i->J.stop i w'.H)
noncomputable def sr (K:Frag) (Ξ:Wd->bq->Prop) (f:Env->ae->Res (List D×(ae->Prop))):TI:=fun σ H R=>∃w env,w.H=H/\aO K w/\bT K w env σ/\Out K Ξ w (f env w.aG) λw' p=>∀J,Jj K w' J p.1 p.2->R J w'.H
section
variable {K:Frag} {Ξ:Wd->bq->Prop}
theorem Lh {nt:Nat} {cap:List Nat} {it:Env->ae->Res (List D×(ae->Prop))} {g:D->Env->Option Env} {ft:Env->ae->Res Bool} {f:Env->ae->Res D} (σ:St) (H:Hp) (Q:VK) :
  tE K Ξ (rJ nt cap it g ft f) σ H Q->kc (sr K Ξ it) nt cap (gD K g) (tT K bR ft) (tE K bR f) σ H Q:=by
 rintro ⟨w,env,rfl,S,eo,h⟩;refine⟨w,env,rfl,S,eo,(Out.ar h).mono λw1 p l1 S1 h1 J hJ=>?_⟩;obtain⟨ds,γ⟩:=p;obtain⟨hz,h1⟩:=ng h1;have hz:ds.length<=WX:=hz;refine⟨λi m acc H'=>m=ds.length-i/\i<=ds.length/\acc.length<=i/\∃w' accD,w'.H=H'/\Le K w1 w'/\aO K w'/\au K w' accD acc/\Out K Ξ w' (jB nt (dE cap env) g ft f γ (ds.drop i) w'.aG) λw2 xs=>∀vs,au K w2 (accD++xs) vs->∀p,w2.H p=none->Q (.ref p) (upd w2.H p (.lst vs)),
  ⟨ds.length,rfl,X1 _,X1 _,w1,[],rfl,Le.refl _,S1,rfl,(Out.ar h1).mono λw2 xs l2 S2 h2 vs aw p hp=>?_⟩,?_⟩
 ·exact h2 (w2.grow p (.lst vs)) (Fw.grow hp).le (S2.grow hp) rfl (.ref p) ⟨p,vs,rfl,⟨(show ¬ w2.Z p from nv S2 hp),dP⟩,(Fw.grow hp).le.all aw⟩
 rintro i m acc H' ⟨rfl,hi,ha,w',accD,rfl,l',S',da,h'⟩;by_cases bp:i<ds.length
 ·right
  rw[Y3 bp] at h';unfold jB at h';by_cases jw:γ w'.aG
  ·rw[if_pos jw] at h'
   obtain⟨fM,hy⟩:=(hJ w' l' S' jw i).1 _ (WQ bp)
   cases hg:g ds[i] (WM nt none++dE cap env) with
   |none=>rw[hg] at h';exact h'.elim
   |some gP =>
    rw[hg] at h';refine⟨fM,by omega,λmB H2=>mB.length<=i+1/\∃w' accD,w'.H=H2/\Le K w1 w'/\aO K w'/\au K w' accD mB/\Out K Ξ w' (jB nt (dE cap env) g ft f γ (ds.drop (i+1)) w'.aG) λw2 xs=>∀vs,au K w2 (accD++xs) vs->∀p,w2.H p=none->Q (.ref p) (upd w2.H p (.lst vs)),
     λmB H2 ⟨A3,q⟩=>⟨ds.length-(i+1),by omega,rfl,bp,A3,q⟩,λo x H3 ho y=>?_⟩
    obtain⟨w2,rfl,l2,S2,es,dv⟩:=hy x H3 y;refine⟨w2,_,ds[i],gP,rfl,S2,(eo.le (l1.trans (l'.trans l2))).block nt cap o ho,dv,hg,fun i4 i8=>?_⟩;rw[<- es] at h';refine⟨w2,gP,rfl,S2,i8,(Out.ar (h'.from l2)).ne.mono λw3 b l3 S3 h3=>?_⟩
    cases b with
    |true =>
     refine⟨w3,gP,rfl,S3,i8.le l3,(Out.ar h3).ne.mono λw4 d l4 S4 h4 v tH=>⟨by rw[Xw];simp;omega,w4,accD++[d],rfl,l'.trans (l2.trans (l3.trans l4)),S4,au.append ((l2.trans (l3.trans l4)).all da) (au.one tH),(Out.ar h4).mono λw5 xs l5 S5 h5 vs aw p hp=>?_⟩⟩;exact aI S5 h5 vs (by rw[X3] at aw;exact aw) p hp
    |false =>
     exact⟨by omega,w3,accD,rfl,l'.trans (l2.trans l3),S3,(l2.trans l3).all da,h3⟩
  ·rw[if_neg jw] at h'
   exact h'.elim
 ·left
  have e:i=ds.length:=by omega
  subst e;rw[aaJ] at h';unfold jB at h';by_cases jw:γ w'.aG
  ·rw[if_pos jw] at h'
   exact⟨(hJ w' l' S' jw _).2 (Nat.le_refl _),by omega,λp hp=>aI S' h' acc (by rw[Yb];exact da) p hp⟩
  ·rw[if_neg jw] at h'
   exact h'.elim
theorem Mb {it:Env->ae->Res (List D×(ae->Prop))} {σ:St} {H:Hp} (R R':It->Hp->Prop) (i:∀J H',R J H'->R' J H') (h:sr K Ξ it σ H R):sr K Ξ it σ H R':=by
 obtain⟨w,env,eH,S,eo,h⟩:=h;exact⟨w,env,eH,S,eo,h.mono λw1 p _ _ h1 J hJ=>i J _ (h1 J hJ)⟩
theorem OT {w:Wd} {x y:D} {a b:Addr} {ds es:List D} (h:DV K w x (.ref a)) (g:DV K w y (.ref b)):Jj K w (Ad K a b) (fC ds es) λs=>res x s=.lst ds/\res y s=.lst es:=λw' l' S' γ i=>by
 obtain⟨p,xs,e,hq,aw⟩:=gX S' (l' _ _ h) γ.1;obtain⟨q,ys,e',gq,tL⟩:=gX S' (l' _ _ g) γ.2;cases e;cases e';refine⟨λd ed=>?_,λhl=>⟨xs,ys,ba.of hq,ba.of gq,?_⟩⟩
 ·obtain⟨x,y,e1,e2,rfl⟩:=EB ed
  obtain⟨v,ev,dv⟩:=aw.get' i x e1;obtain⟨u,eu,du⟩:=tL.get' i y e2;refine⟨⟨xs,ys,v,u,ba.of hq,ba.of gq,ev,eu⟩,λz H' ⟨r,x1,y1,hr,ez,eH,A4⟩=>?_⟩;obtain⟨q1,q2⟩:=A4 xs ys (ba.of hq) (ba.of gq);rw[ev] at q1;rw[eu] at q2;cases q1;cases q2;subst ez eH;exact DY S' hr dv du
 ·rw[rb] at hl
  have:=aw.length;have:=tL.length;omega
end
noncomputable def su (ds:List D) (s:ae):Res (List D×(ae->Prop)):=match ds with
 | [x,y]=>match res x s,res y s with
  | .tup xs,.tup ys=>ok (fC xs ys,λ_=>True) s
  | .lst xs,.lst ys=>ok (fC xs ys,λs=>res x s=.lst xs/\res y s=.lst ys) s
  |_,_=>none
 |_=>none
noncomputable def lL (fa:Env->ae->Res (List D)):Env->ae->Res (List D×(ae->Prop)):=λenv s=>ar (fa env s) su
section
variable {X:Cx} {Ξ:Wd->bq->Prop} {a b:Expr} {fa:Env->ae->Res (List D)} {pos:Pos}
theorem QH {p:Pos} {elts:List Expr} {kk:Nat} {r9:Pos} (hg:Gl X "zip") (hm:X.mg "zip"=none) (ha:PA X [a,b] (tA X.K Ξ fa)) (hs:Xb [a,b] X.env=[(false,eval a X.env),(false,eval b X.env)]:=by rfl) (cB:Xb [b] X.env=[(false,eval b X.env)]:=by rfl) :
  PI X (.Tuple elts kk r9) (.Call (.Name "zip" p) [a,b] [] pos) (sr X.K Ξ (lL fa)):=by
 intro pins s σ H R I hq;obtain⟨w,env,eH,S,eo,h⟩:=hq;subst eH
 cases hf:fa env w.aG with
 |none=>rw[show lL fa env w.aG=none by unfold lL;rw[hf];rfl] at h;exact h.elim
 |some r =>
  obtain⟨r,s'⟩:=r
  cases r with
  |error x =>
   rw[show lL fa env w.aG=some (.error x,s') by unfold lL;rw[hf];rfl] at h;refine yt hg hm ha hs cB pins s σ w.H R I ⟨w,env,rfl,S,eo,?_⟩;rw[hf];exact h
  |ok ds =>
   have e0:lL fa env w.aG=su ds s':=by unfold lL;rw[hf];rfl
   rw[e0] at h;unfold su at h;split at h
   ·rename_i x y
    split at h
    ·rename_i xs ys ex ey
     have e1:=ei ex (by intro _ z;cases z);have e2:=ei ey (by intro _ z;cases z);refine yt hg hm ha hs cB pins s σ w.H R I ⟨w,env,rfl,S,eo,?_⟩;rw[hf];intro w' le S' es vs aw;obtain⟨v,u,rfl,dv,du⟩:=nA aw;rw[e1] at dv;rw[e2] at du;have q1:=dv;have q2:=du;simp only[DV] at q1 q2;obtain⟨p,s9,rfl,hq,_⟩:=q1;obtain⟨q,tj,rfl,gq,_⟩:=q2;exact⟨p,q,s9,tj,rfl,hq,gq,h w' le S' es _ λw2 l2 S2 _ i=>EC dv du w2 l2 S2 i⟩
    ·rename_i xs ys ex ey
     refine Oi hg hm ha hs cB pins s σ w.H R I ⟨w,env,rfl,S,eo,?_⟩;rw[hf];intro w' le S' es vs aw;obtain⟨v,u,rfl,dv,du⟩:=nA aw;obtain⟨p,s9,rfl,hq,_⟩:=gX S' dv (by rw[es];exact ex);obtain⟨q,tj,rfl,gq,_⟩:=gX S' du (by rw[es];exact ey);exact⟨p,q,s9,tj,rfl,ba.of hq,ba.of gq,h w' le S' es _ (OT dv du)⟩
    ·exact h.elim
   ·exact h.elim
theorem Nt {el tg src:Expr} {tests:List Expr} {ft:Env->ae->Res Bool} {f:Env->ae->Res D} {sc:Scope} {ps:Pos} {N:List Str} {nt:Nat} {cap:List Nat} {it:Env->ae->Res (List D×(ae->Prop))} {gd:D->Env->Option Env} {g0:TG} (hc:X.calm=true) (S:lA X sc N nt cap) (T:Tg X.K g0 gd nt) (hi:PI X tg src (sr X.K Ξ it))
  (hY:∀(cl:List (Str×Addr)) (C:Addr) (s:WI) (H:Hp) (ex:List Addr) (pn:List (Addr×Obj)),PG (ef X N sc cl C s H ex pn) tg g0/\PF (ef X N sc cl C s H ex pn) tests (tT X.K bR ft)/\PE (ef X N sc cl C s H ex pn) el (tE X.K bR f))
  (hs:∀x,Xo src X.env x=pure x:=by intro _;rfl):PE X (.ListComp el [⟨tg,src,tests,0⟩] sc ps) (tE X.K Ξ (rJ nt cap it gd ft f)) :=
 cD (yb hc S T.iF hi hY hs) fun σ H Q h=>uG T.imp (λR R' i h=>Mb R R' i h) (Lh σ H Q h)
end
end DI
namespace DI.cb
open PySem L2 DI
noncomputable def qP:List D->ae->Res D:=bc 1 1 (bA (dF (cu (ax qU (af (aa 0) ai)))) tI bL)
noncomputable def qS:List D->ae->Res D:=bc 1 3 (ay (aN (eNew ai) (gN 1)) (ay (cJ (bM (af (eB dY (af (aa 0) ai)) ai)) (gN 2) (bA (cx (cu (e2 ao (aa 0) (aa 2))) (cx (aF (e2 sg (aa 2) (eC (.int 0)))) (cu (e2 ao (aa 0) (e2 nH (aa 2) (eC (.int 1))))))) (gy (bz (af (e2 ao (e2 ao (aa 1) (e1 lG (eC (.int 1)))) (eC (.int 0))) (af (aa 2) ai))) (aa 1) (e1 lG (eC (.int 1)))) (bA (cu (e2 ao (aa 0) (aa 2))) (cP (eJ (aa 1) (bz (af (aa 2) (af (aa 2) ai))))) bL))) (aP (jn (aa 1)))))
noncomputable def pO:List D->ae->Res D:=bc 2 2 (aP (cZ (ax pq (af (e2 ao (aa 0) (eC (.int (0)))) (af (e2 ao (aa 1) (eC (.int (1)))) ai))) (ax pq (af (e2 ao (aa 0) (eC (.int (1)))) (af (e2 ao (aa 1) (eC (.int (0)))) ai)))))
noncomputable def m8:List D->ae->Res D:=bc 2 2 (ay (cP (ax qR (af (aa 0) ai))) (ay (cP (ax qP (af (aa 1) ai))) (aP (FL 3 [1,0] (bM (af (eC (.int (4))) ai)) (gN 0) ck (aU (ax qS (af (aV 1 [3] (aU (ax ph (af (aa 4) (af (aa 0) ai)))) (gN 0) ck (ax pO (af (aa 1) (af (aa 0) ai)))) ai))) (gT [gN 1,gN 2]) ck (bz (af (aa 0) (af (aa 1) (af (aa 2) ai))))))))
noncomputable def uY:List D->ae->Res D:=bc 1 3 (ay (aN (bz (af (ax jz (af (aa 0) (af (eC (.int 8)) ai))) (af (ax jz (af (aa 0) (af (eC (.int 8)) ai))) ai))) (gT [(gN 1),(gN 2)])) (aP (bz (af (aa 1) (af (eB dB (af (aV 1 [1] (aU (aa 2)) (gN 0) (aF (e2 cq (aa 0) (aa 1))) (aa 0)) ai)) ai)))))
noncomputable def qO:List D->ae->Res D:=bc 2 6 (ay (aN (aV 1 [] (aU (aa 1)) (gN 0) (aF (e2 aS (e2 ao (aa 0) (eC (.int 0))) (eC (.str "made")))) (e2 ao (aa 0) (eC (.int 3)))) (gN 2)) (ay (aN (wX (aF (e2 fE (aa 2) (fB ai))) (e2 ao (aa 2) (ax bj (af (aa 0) (af (eB dY (af (aa 2) ai)) ai)))) (bz (af (bz ai) (af (bz ai) ai)))) (gN 3)) (ay (aN (ax jz (af (aa 0) (af (eC (.int 8)) ai))) (gN 4)) (ay (aN (bz (af (aa 4) (af (eB dB (af (aV 1 [4] (bM (af (eC (.int 8)) ai)) (gN 0) (aF (e2 cq (aa 0) (aa 1))) (aa 0)) ai)) ai))) (gN 5)) (aP (e2 ao (fB (af (ax uY (af (aa 0) ai)) (af (aa 3) (af (e1 wC (aa 3)) (af (aa 5) (af (bz (af (bz ai) (af (bz ai) ai))) ai)))))) (ax bj (af (aa 0) (af (eC (.int 5)) ai)))))))))
noncomputable def eD:Nat->List D->ae->Res D
 |0=>λ_ _=>none
 |n+1=>bc 2 2 (ay (bA (cu (e1 sj (aa 1))) (ay (bA (gS (aF (e2 fE (eB cF (af (aa 0) (af (eC (.ty "tuple")) ai))) (eB cF (af (aa 1) (af (eC (.ty "tuple")) ai))))) (aF (e2 fE (eB cF (af (aa 0) (af (eC (.ty "list")) ai))) (eB cF (af (aa 1) (af (eC (.ty "list")) ai)))))) (aP (eC (.bl false))) bL) (aP (cZ (e2 aS (eB dY (af (aa 0) ai)) (eB dY (af (aa 1) ai))) (eB mE (af (rJ 2 [] (lL (af (aa 0) (af (aa 1) ai))) (gT [gN 0,gN 1]) ck (ax (eD n) (af (aa 0) (af (aa 1) ai)))) ai))))) bL) (aP (cZ (e2 aS (eB cF (af (aa 0) (af (eC (.ty "bool")) ai))) (eB cF (af (aa 1) (af (eC (.ty "bool")) ai)))) (e2 aS (aa 0) (aa 1)))))
noncomputable def pk:List D->ae->Res D:=bc 1 4 (ay (aN (eNew ai) (gN 1)) (ay (cJ (bM (af (eC (.int 31)) ai)) (gN 2) (bA (cx (aF (e2 bU (aa 2) (aa 0))) (aF (e2 cq (e2 nH (aa 2) (eC (.int 1))) (aa 0)))) (ay (aN (aa 2) (gN 3)) (ay (wy 100 (aF (e2 bU (e2 cj (aa 3) (eC (.int 1))) (aa 0))) (aN (e2 cj (aa 3) (eC (.int 1))) (gN 3))) (cP (eJ (aa 1) (bz (af (aa 2) (af (aa 3) ai))))))) bL)) (aP (jn (aa 1)))))
noncomputable def pI:List D->ae->Res D:=bc 4 4 (ay (cP (ax qR (af (aa 0) ai))) (ay (cP (ax uu (af (aa 1) ai))) (ay (cP (ax uK (af (aa 2) ai))) (ay (cP (ax qP (af (aa 3) ai))) (aP (ax pO (af (aa 3) (af (e2 ao (ax ph (af (aa 0) (af (aa 1) ai))) (aa 2)) ai))))))))
noncomputable def wa (W:World):List D->ae->Res D:=bc 1 13 (ay (cJ (bM (af (eB nI (af (eC (.int 1)) (af (eB rV (af (eB dY (af (aa 0) ai)) (af (eC (.int 3)) ai))) ai))) ai)) (gN 1) (ay (aN (ax uW (af (aa 0) (af (aa 1) ai))) (gN 2)) (cJ (aU (fB (af (oG (ax (vn W) (af (aa 2) ai)) oF (nX (eC (.int 24)))) (af (e1 (TK.v9 3) (ax (vo W) (af (aa 2) ai))) ai)))) (gN 3) (ay (bA (dF (cu (ax pC (af (aa 3) ai)))) rQ bL) (ay (nZ 4 5 6 (af (ax qO (af (aa 2) (af (aa 3) ai))) (af (eB nJ (af (aa 3) ai)) (af (fB ai) ai)))) (ay (cJ (bM (af (eC (.int 4)) ai)) (gN 7) (ay (aN (bz (af (aV 1 [3,7] (bM (af (eC (.int 8)) ai)) (gN 0) ck (ax pX (af (aa 1) (af (aa 2) (af (aa 0) ai))))) (af (eNew ai) ai))) (gT [(gN 8),(gN 9)])) (ay (cJ (bM (af (eC (.int 31)) ai)) (gN 10) (ay (aN (aV 1 [10,8] (aU (e2 ao (aa 4) (eC (.int 0)))) (gN 0) (aF (e2 cq (eC (.bl true)) (e2 ao (e2 ao (aa 2) (aa 0)) (aa 1)))) (aa 0)) (gN 11)) (bA (aF (e2 aS (e2 cj (aa 11) (aV 1 [10,8] (aU (e2 ao (aa 4) (eC (.int 1)))) (gN 0) (aF (e2 cq (eC (.bl false)) (e2 ao (e2 ao (aa 2) (aa 0)) (aa 1)))) (aa 0))) (fB ai))) (cP (eJ (aa 9) (aa 10))) bL))) (ay (aN (e2 cj (aa 6) (aV 2 [7] (aU (ax pk (af (aa 9) ai))) (gT [gN 0,gN 1]) ck (bz (af (aa 2) (af (aa 0) (af (aa 1) ai)))))) (gN 6)) (cJ (aU (fB (af (eC (.int 0)) (af (eC (.int 30)) (af (ax bj (af (aa 2) (af (eC (.int 31)) ai))) (af (ax bj (af (aa 2) (af (eC (.int 31)) ai))) ai)))))) (gN 10) (bA (dF (cu (ax (eD 8) (af (ax pI (af (aa 3) (af (aa 7) (af (aa 10) (af (aa 4) ai))))) (af (e2 bU (aa 10) (aa 9)) ai))))) (aP (eC (.bl false))) bL)))))) (ay (aN (ax m8 (af (aa 3) (af (aa 4) ai))) (gN 12)) (ay (bA (dF (cu (ax (eD 8) (af (aa 12) (af (aa 6) ai))))) (aP (eC (.bl false))) bL) (ay (cP (eJ (aa 12) (eC (.int 0)))) (bA (gS (dF (cu (ax (eD 8) (af (ax m8 (af (aa 3) (af (aa 4) ai))) (af (aa 6) ai))))) (aF (e2 fE (eB nJ (af (aa 3) ai)) (aa 5)))) (aP (eC (.bl false))) bL)))))))))) (aP (eC (.bl true))))
end DI.cb
namespace DI.cb
open PySem L2 DI
noncomputable def top (i:Nat):Stmt:=PySem.Challenge.pw_twinmoulds_k07_where_a_sheet_may_be_from.main.body.getD i (.Pass ⟨0,0,0,0⟩)
structure bN (K:Frag) (mg:Str->Option Value):Prop where
 vJ:mg "all"=none
 GX:mg "any"=none
 yG:mg "bool"=none
 QI:mg "int"=none
 iK:mg "isinstance"=none
 lB:mg "len"=none
 rn:mg "list"=none
 GY:mg "max"=none
 QJ:mg "min"=none
 cG:mg "range"=none
 FN:mg "repr"=none
 Kx:mg "reversed"=none
 QK:mg "set"=none
 xN:mg "sorted"=none
 gm:mg "tuple"=none
 GZ:mg "zip"=none
 nh:∃t,mg "MARKS"=some (.int (8) t)
 q0:∃t,mg "MOULDS"=some (.int (4) t)
 nq:∃t,mg "DAYS"=some (.int (31) t)
 yf:∃t,mg "PAGES"=some (.int (24) t)
 pY:∃t,mg "HAS"=some (.int (0) t)
 pJ:∃t,mg "LACKS"=some (.int (1) t)
 Ky:∃f fd,Gd K mg "_law_cell_at" (top 45) ["_law_script","_law_k"] f fd
 Mc:∃f fd,Gd K mg "_law_state" (top 46) ["_law_script","_law_k"] f fd
 CI:∃f fd,Gd K mg "is_rising" (top 15) ["things"] f fd
 Kb:∃f fd,Gd K mg "is_number" (top 10) ["thing"] f fd
 xy:∃f fd,Gd K mg "is_below" (top 11) ["thing","many"] f fd
 Dt:∃f fd,Gd K mg "is_mark" (top 12) ["thing"] f fd
 Kc:∃f fd,Gd K mg "are_marks" (top 22) ["thing"] f fd
 CJ:∃f fd,Gd K mg "are_apart" (top 24) ["marks","others"] f fd
 C5:∃f fd,Gd K mg "is_sheet" (top 23) ["thing"] f fd
 C6:∃f fd,Gd K mg "is_mould" (top 13) ["thing"] f fd
 D3:∃f fd,Gd K mg "is_day" (top 14) ["thing"] f fd
 Li:∃f fd,Gd K mg "is_page" (top 25) ["thing"] f fd
 Kz:∃f fd,Gd K mg "are_laid" (top 26) ["thing"] f fd
 xr:∃f fd,Gd K mg "days_seen" (top 31) ["pages","mould","mark","half"] f fd
 xo:∃f fd,Gd K mg "days_mended" (top 32) ["pages","mould","mark"] f fd
 Jy:∃f fd,Gd K mg "is_any_behind" (top 30) ["days","day","later"] f fd
 Lj:∃f fd,Gd K mg "clashes" (top 29) ["pages","mould","mark"] f fd
 Kd:∃f fd,Gd K mg "faults_of" (top 28) ["pages"] f fd
 Du:∃f fd,Gd K mg "is_book" (top 27) ["thing"] f fd
 CK:∃f fd,Gd K mg "need_book" (top 34) ["thing"] f fd
 Cv:∃f fd,Gd K mg "need_sheet" (top 33) ["thing"] f fd
 Ke:∃f fd,Gd K mg "stretches" (top 43) ["holds"] f fd
 EM:∃f fd,Gd K mg "agree" (top 42) ["sheet","sure"] f fd
 JC:∃f fd,Gd K mg "days_present" (top 40) ["book","mould","mark"] f fd
 JJ:∃f fd,Gd K mg "days_absent" (top 41) ["book","mould","mark"] f fd
 KC:∃f fd,Gd K mg "marks_on" (top 39) ["days_by_mark","day"] f fd
 Cn:∃f fd,Gd K mg "sure_sheets" (top 38) ["book","mould"] f fd
 Kf:∃f fd,Gd K mg "places_of" (top 37) ["book","sheet"] f fd
 pK:∃f fd,Gd K mg "_law_take" (top 47) ["_law_state_here","_law_many"] f fd
 Md:∃f fd,Gd K mg "_law_lived" (top 52) ["_law_state_here","_law_mended"] f fd
 Nu:∃f fd,Gd K mg "_law_book" (top 53) ["_law_state_here"] f fd
 xO:∃f fd,Gd K mg "_law_marks" (top 49) ["_law_state_here","_law_most"] f fd
 Nv:∃f fd,Gd K mg "_law_near" (top 51) ["_law_state_here"] f fd
 Me:∃f fd,Gd K mg "_law_sheet" (top 50) ["_law_state_here"] f fd
 JK:∃f fd,Gd K mg "_law_some_sheet" (top 57) ["_law_state_here","_law_book_here"] f fd
 Nw:∃f fd,Gd K mg "_law_same" (top 48) ["_law_found","_law_due"] f fd
 Mf:∃f fd,Gd K mg "_law_leads" (top 56) ["_law_later","_law_one","_law_free"] f fd
 Nx:∃f fd,Gd K mg "_law_gone" (top 55) ["_law_ahead","_law_one","_law_free"] f fd
 OU:∃f fd,Gd K mg "_law_may" (top 54) ["_law_laid","_law_mould","_law_mark"] f fd
 JV:∃f fd,Gd K mg "_law_stretches" (top 58) ["_law_days"] f fd
 JW:∃f fd,Gd K mg "need_mould" (top 16) ["thing"] f fd
 KD:∃f fd,Gd K mg "need_day" (top 17) ["thing"] f fd
 Mg:∃f fd,Gd K mg "may_be" (top 36) ["book","mould","day","sheet"] f fd
section
variable {P:Xf} {w:World} {K:Frag} {mg:Str->Option Value} {base:Heap}
theorem C7:bx ["_law_script","_law_k"] ["_law_script","_law_k"] (aX (top 45)):=⟨rfl,rfl,rfl,by decide +kernel,rfl,by decide +kernel,by decide +kernel⟩
theorem KG (F:bN K mg) {f:Addr} {fd:Xg} (G:Gd K mg "_law_cell_at" (top 45) ["_law_script","_law_k"] f fd):aW P w K mg base bb 1 f fd ["_law_script","_law_k"] (bu K qT):=by
 have aA:=C7.nd;exact bJ (k:=0) G.fn C7 λbg A outer s H E hr=>(aJ (dh (bG (wG hr) (ag 1) (cv lH rfl F.lB lK (ah (ag 0) ak)) (bS _)) (aL (bo (aQ (ag 0) (ag 1)))) dR) (aL (bo az)))
theorem D4:bx ["_law_script","_law_k","_law_cell"] ["_law_script","_law_k"] (aX (top 46)):=⟨rfl,rfl,rfl,by decide +kernel,rfl,by decide +kernel,by decide +kernel⟩
theorem Mh (F:bN K mg) {f:Addr} {fd:Xg} (G:Gd K mg "_law_state" (top 46) ["_law_script","_law_k"] f fd):aW P w K mg base bb 2 f fd ["_law_script","_law_k"] (bu K uW):=by
 obtain⟨_,_,uL⟩:=F.Ky;have aA:=D4.nd;exact bJ (k:=1) G.fn D4 λbg A outer s H E hr=>(aJ (bZ 2 aA (aH (KG F uL) (hr.mono (by decide)) rfl uL.mg uL.fn.kp uL.b (ah (ag 0) (ah (ag 1) ak)))) (aL (bo (lE (ah (cv (GC rfl) rfl F.GY Ht (ah az (ah (cg vX (ag 2) (cg RQ az az)) ak))) (ah (cg qd (ag 2) az) ak))))))
theorem CL:bx ["things"] ["things"] (aX (top 15)):=⟨rfl,rfl,rfl,by decide +kernel,rfl,by decide +kernel,by decide +kernel⟩
theorem CM (F:bN K mg) {f:Addr} {fd:Xg} (G:Gd K mg "is_rising" (top 15) ["things"] f fd):aW P w K mg base bb 1 f fd ["things"] (bu K m7):=by
 have bB:(["ahead","behind"]:List Str).Nodup:=by decide +kernel
 have aA:=CL.nd;exact bJ (k:=0) G.fn CL λbg A outer s H E hr=>(aL (bo (cv (vZ rfl) rfl F.vJ v5 (ah (cY (N:=["ahead","behind"]) (nt:=2) (cap:=[]) rfl (cw (by kernel_rfl)) (rE (j7 0 (j7 1 rk))) (RP rfl F.GZ (ah (ag 0) (ah (Ib (ag 0) (Hl az) Ia) ak))) (λcl C s H ex pn=>⟨(lp rfl (jy (bC (i:=0) bB rfl (Yj rfl)) (jy (bC (i:=1) bB rfl (Yj rfl)) pM))),eV,(eT (wG hr) (ag 0) (ag 1) (bS _))⟩)) ak))))
theorem CN:bx ["thing"] ["thing"] (aX (top 10)):=⟨rfl,rfl,rfl,by decide +kernel,rfl,by decide +kernel,by decide +kernel⟩
theorem Kg (F:bN K mg) {f:Addr} {fd:Xg} (G:Gd K mg "is_number" (top 10) ["thing"] f fd):aW P w K mg base bb 1 f fd ["thing"] (bu K xx):=by
 have aA:=CN.nd;exact bJ (k:=0) G.fn CN λbg A outer s H E hr=>(aL (bo (ff (cv jk rfl F.iK iL (ah (ag 0) (ah (jo RS rfl F.QI) ak))) (ff (vV (cv jk rfl F.iK iL (ah (ag 0) (ah (jo yY rfl F.yG) ak)))) (eU (eT Tq (ag 0) az (bS _)))))))
theorem C8:bx ["thing","many"] ["thing","many"] (aX (top 11)):=⟨rfl,rfl,rfl,by decide +kernel,rfl,by decide +kernel,by decide +kernel⟩
theorem xA (F:bN K mg) {f:Addr} {fd:Xg} (G:Gd K mg "is_below" (top 11) ["thing","many"] f fd):aW P w K mg base bb 2 f fd ["thing","many"] (bu K pA):=by
 obtain⟨_,_,uD⟩:=F.Kb;have aA:=C8.nd;exact bJ (k:=1) G.fn C8 λbg A outer s H E hr=>(aL (bo (ff (aH (Kg F uD) (hr.mono (by decide)) rfl uD.mg uD.fn.kp uD.b (ah (ag 0) ak)) (eU (eT (wG hr) (ag 0) (ag 1) (bS _))))))
theorem Dv:bx ["thing"] ["thing"] (aX (top 12)):=⟨rfl,rfl,rfl,by decide +kernel,rfl,by decide +kernel,by decide +kernel⟩
theorem Dw (F:bN K mg) {f:Addr} {fd:Xg} (G:Gd K mg "is_mark" (top 12) ["thing"] f fd):aW P w K mg base bb 3 f fd ["thing"] (bu K qY):=by
 obtain⟨_,_,iq⟩:=F.xy;have aA:=Dv.nd;exact bJ (k:=2) G.fn Dv λbg A outer s H E hr=>(aL (bo (aH (xA F iq) (hr.mono (by decide)) rfl iq.mg iq.fn.kp iq.b (ah (ag 0) (ah (eY F.nh rfl) ak)))))
theorem CO:bx ["thing"] ["thing"] (aX (top 22)):=⟨rfl,rfl,rfl,by decide +kernel,rfl,by decide +kernel,by decide +kernel⟩
theorem CP (F:bN K mg) {f:Addr} {fd:Xg} (G:Gd K mg "are_marks" (top 22) ["thing"] f fd):aW P w K mg base bb 4 f fd ["thing"] (bu K qQ):=by
 obtain⟨_,_,kT⟩:=F.Dt;obtain⟨_,_,kP⟩:=F.CI;have bB:(["mark"]:List Str).Nodup:=by decide +kernel
 have aA:=CO.nd;exact bJ (k:=3) G.fn CO λbg A outer s H E hr=>(aL (bo (ff (cv jk rfl F.iK iL (ah (ag 0) (ah (jo gn rfl F.gm) ak))) (ff (cv (vZ rfl) rfl F.vJ v5 (ah (cY (N:=["mark"]) (nt:=1) (cap:=[]) rfl (cw (by kernel_rfl)) (cm 0) (df (ag 0)) (λcl C s H ex pn=>⟨(bC (i:=0) bB rfl (Yj rfl)),eV,(aH (Dw F kT) (hr.mono (by decide)) rfl kT.mg kT.fn.kp kT.b (ah (ag 0) ak))⟩)) ak)) (eU (aH (CM F kP) (hr.mono (by decide)) rfl kP.mg kP.fn.kp kP.b (ah (ag 0) ak)))))))
theorem CQ:bx ["marks","others"] ["marks","others"] (aX (top 24)):=⟨rfl,rfl,rfl,by decide +kernel,rfl,by decide +kernel,by decide +kernel⟩
theorem xt (F:bN K mg) {f:Addr} {fd:Xg} (G:Gd K mg "are_apart" (top 24) ["marks","others"] f fd):aW P w K mg base bb 1 f fd ["marks","others"] (bu K pq):=by
 have bB:(["mark","others"]:List Str).Nodup:=by decide +kernel
 have aA:=CQ.nd;exact bJ (k:=0) G.fn CQ λbg A outer s H E hr=>(aL (bo (vV (cv (Hk rfl) rfl F.GX Hs (ah (cY (N:=["mark","others"]) (nt:=1) (cap:=[1]) rfl (cw (by kernel_rfl)) (cm 0) (df (ag 0)) (λcl C s H ex pn=>⟨(bC (i:=0) bB rfl (Yj rfl)),eV,(eT (fV hr) (ag 0) (ag 1) rfl)⟩)) ak)))))
theorem C9:bx ["thing","has","lacks"] ["thing"] (aX (top 23)):=⟨rfl,rfl,rfl,by decide +kernel,rfl,by decide +kernel,by decide +kernel⟩
theorem Dc (F:bN K mg) {f:Addr} {fd:Xg} (G:Gd K mg "is_sheet" (top 23) ["thing"] f fd):aW P w K mg base bb 5 f fd ["thing"] (bu K qU):=by
 obtain⟨_,_,lZ⟩:=F.Kc;obtain⟨_,_,iM⟩:=F.CJ;have aA:=C9.nd;exact bJ (k:=4) G.fn C9 λbg A outer s H E hr=>(aJ (dh (PW.pt (w_or (iy (dQ (cv jk rfl F.iK iL (ah (ag 0) (ah (jo gn rfl F.gm) ak))))) (mq (bG (mC hr) (cv lH rfl F.lB lK (ah (ag 0) ak)) az (bS _))))) (aL (bo eI)) dR) (aJ (mw (ag 0) (mv rfl (fI (bY 1 aA) (fI (bY 2 aA) mf)))) (aL (bo (ff (aH (CP F lZ) (hr.mono (by decide)) rfl lZ.mg lZ.fn.kp lZ.b (ah (ag 1) ak)) (ff (aH (CP F lZ) (hr.mono (by decide)) rfl lZ.mg lZ.fn.kp lZ.b (ah (ag 2) ak)) (eU (aH (xt F iM) (hr.mono (by decide)) rfl iM.mg iM.fn.kp iM.b (ah (ag 1) (ah (ag 2) ak))))))))))
theorem Dd:bx ["thing"] ["thing"] (aX (top 13)):=⟨rfl,rfl,rfl,by decide +kernel,rfl,by decide +kernel,by decide +kernel⟩
theorem De (F:bN K mg) {f:Addr} {fd:Xg} (G:Gd K mg "is_mould" (top 13) ["thing"] f fd):aW P w K mg base bb 3 f fd ["thing"] (bu K qV):=by
 obtain⟨_,_,iq⟩:=F.xy;have aA:=Dd.nd;exact bJ (k:=2) G.fn Dd λbg A outer s H E hr=>(aL (bo (aH (xA F iq) (hr.mono (by decide)) rfl iq.mg iq.fn.kp iq.b (ah (ag 0) (ah (eY F.q0 rfl) ak)))))
theorem D5:bx ["thing"] ["thing"] (aX (top 14)):=⟨rfl,rfl,rfl,by decide +kernel,rfl,by decide +kernel,by decide +kernel⟩
theorem D6 (F:bN K mg) {f:Addr} {fd:Xg} (G:Gd K mg "is_day" (top 14) ["thing"] f fd):aW P w K mg base bb 3 f fd ["thing"] (bu K rg):=by
 obtain⟨_,_,iq⟩:=F.xy;have aA:=D5.nd;exact bJ (k:=2) G.fn D5 λbg A outer s H E hr=>(aL (bo (aH (xA F iq) (hr.mono (by decide)) rfl iq.mg iq.fn.kp iq.b (ah (ag 0) (ah (eY F.nq rfl) ak)))))
theorem Dx:bx ["thing","word","mould","day","what"] ["thing"] (aX (top 25)):=⟨rfl,rfl,rfl,by decide +kernel,rfl,by decide +kernel,by decide +kernel⟩
theorem Lk (F:bN K mg) {f:Addr} {fd:Xg} (G:Gd K mg "is_page" (top 25) ["thing"] f fd):aW P w K mg base bb 6 f fd ["thing"] (bu K uQ):=by
 obtain⟨_,_,kR⟩:=F.C6;obtain⟨_,_,kX⟩:=F.D3;obtain⟨_,_,kS⟩:=F.C5;obtain⟨_,_,kT⟩:=F.Dt;have aA:=Dx.nd;exact bJ (k:=5) G.fn Dx λbg A outer s H E hr=>(aJ (dh (PW.pt (w_or (iy (dQ (cv jk rfl F.iK iL (ah (ag 0) (ah (jo gn rfl F.gm) ak))))) (mq (bG (mC hr) (cv lH rfl F.lB lK (ah (ag 0) ak)) az (bS _))))) (aL (bo eI)) dR) (aJ (mw (ag 0) (mv rfl (fI (bY 1 aA) (fI (bY 2 aA) (fI (bY 3 aA) (fI (bY 4 aA) mf)))))) (aJ (dh (PW.pt (w_or (iy (dQ (aH (De F kR) (hr.mono (by decide)) rfl kR.mg kR.fn.kp kR.b (ah (ag 2) ak)))) (mq (iy (dQ (aH (D6 F kX) (hr.mono (by decide)) rfl kX.mg kX.fn.kp kX.b (ah (ag 3) ak))))))) (aL (bo eI)) dR) (aJ (dh (bG (dX hr) (ag 1) jD (bS _)) (aL (bo (aH (Dc F kS) (hr.mono (by decide)) rfl kS.mg kS.fn.kp kS.b (ah (ag 4) ak)))) dR) (aL (bo (ff (eT (dX hr) (ag 1) jD (bS _)) (eU (aH (Dw F kT) (hr.mono (by decide)) rfl kT.mg kT.fn.kp kT.b (ah (ag 4) ak))))))))))
theorem Dg:bx ["thing"] ["thing"] (aX (top 26)):=⟨rfl,rfl,rfl,by decide +kernel,rfl,by decide +kernel,by decide +kernel⟩
theorem KH (F:bN K mg) {f:Addr} {fd:Xg} (G:Gd K mg "are_laid" (top 26) ["thing"] f fd):aW P w K mg base bb 7 f fd ["thing"] (bu K uJ):=by
 obtain⟨_,_,uR⟩:=F.Li;obtain⟨_,_,kP⟩:=F.CI;have bB:(["page"]:List Str).Nodup:=by decide +kernel
 have aA:=Dg.nd;exact bJ (k:=6) G.fn Dg λbg A outer s H E hr=>(aL (bo (ff (cv jk rfl F.iK iL (ah (ag 0) (ah (jo gn rfl F.gm) ak))) (ff (eT H0 (cv lH rfl F.lB lK (ah (ag 0) ak)) (eY F.yf rfl) (bS _)) (ff (cv (vZ rfl) rfl F.vJ v5 (ah (cY (N:=["page"]) (nt:=1) (cap:=[]) rfl (cw (by kernel_rfl)) (cm 0) (df (ag 0)) (λcl C s H ex pn=>⟨(bC (i:=0) bB rfl (Yj rfl)),eV,(aH (Lk F uR) (hr.mono (by decide)) rfl uR.mg uR.fn.kp uR.b (ah (ag 0) ak))⟩)) ak)) (eU (aH (CM F kP) (hr.mono (by decide)) rfl kP.mg kP.fn.kp kP.b (ah (ag 0) ak))))))))
theorem CS:bx ["pages","mould","mark","half"] ["pages","mould","mark","half"] (aX (top 31)):=⟨rfl,rfl,rfl,by decide +kernel,rfl,by decide +kernel,by decide +kernel⟩
theorem uw (F:bN K mg) {f:Addr} {fd:Xg} (G:Gd K mg "days_seen" (top 31) ["pages","mould","mark","half"] f fd):aW P w K mg base bb 1 f fd ["pages","mould","mark","half"] (bu K j6):=by
 have bB:(["page","mould","mark","half"]:List Str).Nodup:=by decide +kernel
 have aA:=CS.nd;exact bJ (k:=0) G.fn CS λbg A outer s H E hr=>(aL (bo (cY (N:=["page","mould","mark","half"]) (nt:=1) (cap:=[1,2,3]) rfl (cw (by kernel_rfl)) (cm 0) (df (ag 0)) (λcl C s H ex pn=>⟨(bC (i:=0) bB rfl (Yj rfl)),(fR (PW.pt (w_and (bG (dX hr) (aQ (ag 0) az) jD (bS _)) (w_and (bG (dX hr) (aQ (ag 0) az) (ag 1) (bS _)) (lq (bG (fV hr) (ag 2) (aQ (aQ (ag 0) az) (ag 3)) rfl)))))),(aQ (ag 0) az)⟩))))
theorem Co:bx ["pages","mould","mark"] ["pages","mould","mark"] (aX (top 32)):=⟨rfl,rfl,rfl,by decide +kernel,rfl,by decide +kernel,by decide +kernel⟩
theorem xp (F:bN K mg) {f:Addr} {fd:Xg} (G:Gd K mg "days_mended" (top 32) ["pages","mould","mark"] f fd):aW P w K mg base bb 1 f fd ["pages","mould","mark"] (bu K pf):=by
 have bB:(["page","mould","mark"]:List Str).Nodup:=by decide +kernel
 have aA:=Co.nd;exact bJ (k:=0) G.fn Co λbg A outer s H E hr=>(aL (bo (cY (N:=["page","mould","mark"]) (nt:=1) (cap:=[1,2]) rfl (cw (by kernel_rfl)) (cm 0) (df (ag 0)) (λcl C s H ex pn=>⟨(bC (i:=0) bB rfl (Yj rfl)),(fR (PW.pt (w_and (bG (dX hr) (aQ (ag 0) az) jD (bS _)) (w_and (bG (dX hr) (aQ (ag 0) az) (ag 1) (bS _)) (lq (bG (dX hr) (aQ (ag 0) az) (ag 2) (bS _))))))),(aQ (ag 0) az)⟩))))
theorem Ck:bx ["days","day","later"] ["days","day","later"] (aX (top 30)):=⟨rfl,rfl,rfl,by decide +kernel,rfl,by decide +kernel,by decide +kernel⟩
theorem Jz (F:bN K mg) {f:Addr} {fd:Xg} (G:Gd K mg "is_any_behind" (top 30) ["days","day","later"] f fd):aW P w K mg base bb 1 f fd ["days","day","later"] (bu K t6):=by
 have bB:(["other","day","later"]:List Str).Nodup:=by decide +kernel
 have aA:=Ck.nd;exact bJ (k:=0) G.fn Ck λbg A outer s H E hr=>(aL (bo (cv (Hk rfl) rfl F.GX Hs (ah (cY (N:=["other","day","later"]) (nt:=1) (cap:=[1,2]) rfl (cw (by kernel_rfl)) (cm 0) (df (ag 0)) (λcl C s H ex pn=>⟨(bC (i:=0) bB rfl (Yj rfl)),eV,(Oy (wG hr) H0 (ag 1) (ag 0) (ag 2))⟩)) ak))))
theorem Dy:bx ["pages","mould","mark","lacked","mended"] ["pages","mould","mark"] (aX (top 29)):=⟨rfl,rfl,rfl,by decide +kernel,rfl,by decide +kernel,by decide +kernel⟩
theorem Ll (F:bN K mg) {f:Addr} {fd:Xg} (G:Gd K mg "clashes" (top 29) ["pages","mould","mark"] f fd):aW P w K mg base bb 2 f fd ["pages","mould","mark"] (bu K qZ):=by
 obtain⟨_,_,fO⟩:=F.xr;obtain⟨_,_,ip⟩:=F.xo;obtain⟨_,_,t9⟩:=F.Jy;have bB:(["day","later","lacked","mended"]:List Str).Nodup:=by decide +kernel
 have aA:=Dy.nd;exact bJ (k:=1) G.fn Dy λbg A outer s H E hr=>(aJ (bZ 3 aA (aH (uw F fO) (hr.mono (by decide)) rfl fO.mg fO.fn.kp fO.b (ah (ag 0) (ah (ag 1) (ah (ag 2) (ah (eY F.pJ rfl) ak)))))) (aJ (bZ 4 aA (aH (xp F ip) (hr.mono (by decide)) rfl ip.mg ip.fn.kp ip.b (ah (ag 0) (ah (ag 1) (ah (ag 2) ak))))) (aL (bo (OF (N:=["day","later","lacked","mended"]) (nt:=2) (cap:=[3,4]) rfl (zw (by kernel_rfl)) (cm 0) (rl 0) (cm 1) (rl 1) (df (Lb (aH (uw F fO) (hr.mono (by decide)) rfl fO.mg fO.fn.kp fO.b (ah (ag 0) (ah (ag 1) (ah (ag 2) (ah (eY F.pY rfl) ak))))) rfl rfl F.xN x8 rfl F.QK RT)) (λcl C s H ex pn=>⟨(bC (i:=0) bB rfl (Yj rfl)),eV,(GB rfl F.cG (ah (ag 0) (ah (eY F.nq rfl) ak))),(bC (i:=1) bB rfl (Yj rfl)),(fR (PW.pt (w_and (PW.pt (w_or (bG (fV hr) (ag 1) (ag 2) rfl) (mq (PW.pt (w_and (bG (dX hr) (ag 1) (ag 0) (bS _)) (lq (bG (fV hr) (ag 0) (ag 3) rfl))))))) (lq (iy (dQ (aH (Jz F t9) (hr.mono (by decide)) rfl t9.mg t9.fn.kp t9.b (ah (ag 3) (ah (ag 0) (ah (ag 1) ak)))))))))),(cU (ah (ag 0) (ah (ag 1) ak)))⟩))))))
theorem CT:bx ["pages"] ["pages"] (aX (top 28)):=⟨rfl,rfl,rfl,by decide +kernel,rfl,by decide +kernel,by decide +kernel⟩
theorem Kh (F:bN K mg) {f:Addr} {fd:Xg} (G:Gd K mg "faults_of" (top 28) ["pages"] f fd):aW P w K mg base bb 3 f fd ["pages"] (bu K uC):=by
 obtain⟨_,_,uT⟩:=F.Lj;have bB:(["mould","mark","day","later","pages"]:List Str).Nodup:=by decide +kernel
 have aA:=CT.nd;exact bJ (k:=2) G.fn CT λbg A outer s H E hr=>(aL (bo (OG (N:=["mould","mark","day","later","pages"]) (nt:=4) (cap:=[0]) rfl (zw (by kernel_rfl)) (cm 0) (rl 0) (cm 1) (rl 1) (rE (j7 2 (j7 3 rk))) (vE [2,3]) (de rfl F.cG (ah (eY F.q0 rfl) ak)) (λcl C s H ex pn=>⟨(bC (i:=0) bB rfl (Yj rfl)),eV,(de rfl F.cG (ah (eY F.nh rfl) ak)),(bC (i:=1) bB rfl (Yj rfl)),eV,(df (aH (Ll F uT) (hr.mono (by decide)) rfl uT.mg uT.fn.kp uT.b (ah (ag 4) (ah (ag 0) (ah (ag 1) ak))))),(lp rfl (jy (bC (i:=2) bB rfl (Yj rfl)) (jy (bC (i:=3) bB rfl (Yj rfl)) pM))),eV,(cU (ah (ag 0) (ah (ag 1) (ah (ag 2) (ah (ag 3) ak)))))⟩))))
theorem Dz:bx ["thing"] ["thing"] (aX (top 27)):=⟨rfl,rfl,rfl,by decide +kernel,rfl,by decide +kernel,by decide +kernel⟩
theorem DA (F:bN K mg) {f:Addr} {fd:Xg} (G:Gd K mg "is_book" (top 27) ["thing"] f fd):aW P w K mg base bb 8 f fd ["thing"] (bu K pC):=by
 obtain⟨_,_,uM⟩:=F.Kz;obtain⟨_,_,uE⟩:=F.Kd;have aA:=Dz.nd;exact bJ (k:=7) G.fn Dz λbg A outer s H E hr=>(aL (bo (ff (aH (KH F uM) (hr.mono (by decide)) rfl uM.mg uM.fn.kp uM.b (ah (ag 0) ak)) (eU (TK.QG (aH (Kh F uE) (hr.mono (by decide)) rfl uE.mg uE.fn.kp uE.b (ah (ag 0) ak)))))))
theorem CU:bx ["thing"] ["thing"] (aX (top 34)):=⟨rfl,rfl,rfl,by decide +kernel,rfl,by decide +kernel,by decide +kernel⟩
theorem CV (F:bN K mg) {f:Addr} {fd:Xg} (G:Gd K mg "need_book" (top 34) ["thing"] f fd):aW P w K mg base bb 9 f fd ["thing"] (bu K qR):=by
 obtain⟨_,_,kU⟩:=F.Du;have aA:=CU.nd;exact bJ (k:=8) G.fn CU λbg A outer s H E hr=>(aL (dh (iy (dQ (aH (DA F kU) (hr.mono (by decide)) rfl kU.mg kU.fn.kp kU.b (ah (ag 0) ak)))) uU dR))
theorem Cw:bx ["thing"] ["thing"] (aX (top 33)):=⟨rfl,rfl,rfl,by decide +kernel,rfl,by decide +kernel,by decide +kernel⟩
theorem Cy (F:bN K mg) {f:Addr} {fd:Xg} (G:Gd K mg "need_sheet" (top 33) ["thing"] f fd):aW P w K mg base bb 6 f fd ["thing"] (bu K qP):=by
 obtain⟨_,_,kS⟩:=F.C5;have aA:=Cw.nd;exact bJ (k:=5) G.fn Cw λbg A outer s H E hr=>(aL (dh (iy (dQ (aH (Dc F kS) (hr.mono (by decide)) rfl kS.mg kS.fn.kp kS.b (ah (ag 0) ak)))) uU dR))
theorem CY:bx ["holds","told","at"] ["holds"] (aX (top 43)):=⟨rfl,rfl,rfl,by decide +kernel,rfl,by decide +kernel,by decide +kernel⟩
theorem Ki (F:bN K mg) {f:Addr} {fd:Xg} (G:Gd K mg "stretches" (top 43) ["holds"] f fd):aW P w K mg base bb 1 f fd ["holds"] (bu K qS):=by
 have aA:=CY.nd;exact bJ (k:=0) G.fn CY λbg A outer s H E hr=>(aJ (bZ 1 aA (lE ak)) (aJ (fQ XH rfl (de rfl F.cG (ah (cv lH rfl F.lB lK (ah (ag 0) ak)) ak)) (bY 2 aA) (aL (dh (PW.pt (w_and (dQ (aQ (ag 0) (ag 2))) (w_and (bG H9 (ag 2) az (bS _)) (lq (dQ (aQ (ag 0) (cg vX (ag 2) az))))))) (aL (mx (cU (ah (aQ (aQ (ag 1) (wx vY az)) az) (ah (ag 2) ak))) (ag 1) (wx vY az))) (aL (dh (dQ (aQ (ag 0) (ag 2))) (aL (gY (lJ (ag 1) (cU (ah (ag 2) (ah (ag 2) ak)))))) dR))))) (aL (bo (qc (ag 1))))))
theorem EN:bx ["sheet","sure"] ["sheet","sure"] (aX (top 42)):=⟨rfl,rfl,rfl,by decide +kernel,rfl,by decide +kernel,by decide +kernel⟩
theorem EO (F:bN K mg) {f:Addr} {fd:Xg} (G:Gd K mg "agree" (top 42) ["sheet","sure"] f fd):aW P w K mg base bb 2 f fd ["sheet","sure"] (bu K pO):=by
 obtain⟨_,_,iM⟩:=F.CJ;have aA:=EN.nd;exact bJ (k:=1) G.fn EN λbg A outer s H E hr=>(aL (bo (ff (aH (xt F iM) (hr.mono (by decide)) rfl iM.mg iM.fn.kp iM.b (ah (aQ (ag 0) (eY F.pY rfl)) (ah (aQ (ag 1) (eY F.pJ rfl)) ak))) (eU (aH (xt F iM) (hr.mono (by decide)) rfl iM.mg iM.fn.kp iM.b (ah (aQ (ag 0) (eY F.pJ rfl)) (ah (aQ (ag 1) (eY F.pY rfl)) ak)))))))
theorem Cm:bx ["book","mould","mark","shown","mended","present","stays","day"] ["book","mould","mark"] (aX (top 40)):=⟨rfl,rfl,rfl,by decide +kernel,rfl,by decide +kernel,by decide +kernel⟩
theorem JD (F:bN K mg) {f:Addr} {fd:Xg} (G:Gd K mg "days_present" (top 40) ["book","mould","mark"] f fd):aW P w K mg base bb 2 f fd ["book","mould","mark"] (bu K ua):=by
 obtain⟨_,_,fO⟩:=F.xr;obtain⟨_,_,ip⟩:=F.xo;have aA:=Cm.nd;exact bJ (k:=1) G.fn Cm λbg A outer s H E hr=>(aJ (bZ 3 aA (aH (uw F fO) (hr.mono (by decide)) rfl fO.mg fO.fn.kp fO.b (ah (ag 0) (ah (ag 1) (ah (ag 2) (ah (eY F.pY rfl) ak)))))) (aJ (bZ 4 aA (aH (xp F ip) (hr.mono (by decide)) rfl ip.mg ip.fn.kp ip.b (ah (ag 0) (ah (ag 1) (ah (ag 2) ak))))) (aJ (bZ 5 aA (lE ak)) (aJ (bZ 6 aA eI) (aJ (fQ XH rfl (de rfl F.cG (ah (eY F.nq rfl) ak)) (bY 7 aA) (aJ (bZ 6 aA (qo (eT (fV hr) (ag 7) (ag 3) rfl) (eU (ff (ag 6) (eU (eT (j9 hr) (ag 7) (ag 4) rfl)))))) (aL (dh (dQ (ag 6)) (aL (gY (lJ (ag 5) (ag 7)))) dR)))) (aL (bo (qc (ag 5)))))))))
theorem Cp:bx ["book","mould","mark","lacked","mended","absent","barred","day"] ["book","mould","mark"] (aX (top 41)):=⟨rfl,rfl,rfl,by decide +kernel,rfl,by decide +kernel,by decide +kernel⟩
theorem JL (F:bN K mg) {f:Addr} {fd:Xg} (G:Gd K mg "days_absent" (top 41) ["book","mould","mark"] f fd):aW P w K mg base bb 2 f fd ["book","mould","mark"] (bu K uh):=by
 obtain⟨_,_,fO⟩:=F.xr;obtain⟨_,_,ip⟩:=F.xo;have aA:=Cp.nd;exact bJ (k:=1) G.fn Cp λbg A outer s H E hr=>(aJ (bZ 3 aA (aH (uw F fO) (hr.mono (by decide)) rfl fO.mg fO.fn.kp fO.b (ah (ag 0) (ah (ag 1) (ah (ag 2) (ah (eY F.pJ rfl) ak)))))) (aJ (bZ 4 aA (aH (xp F ip) (hr.mono (by decide)) rfl ip.mg ip.fn.kp ip.b (ah (ag 0) (ah (ag 1) (ah (ag 2) ak))))) (aJ (bZ 5 aA (lE ak)) (aJ (bZ 6 aA eI) (aJ (fQ XH rfl (RX rfl F.Kx rfl F.cG (ah (eY F.nq rfl) ak)) (bY 7 aA) (aJ (dh (PW.pt (w_or (dQ (ag 6)) (w_or (bG (fV hr) (ag 7) (ag 3) rfl) (mq (bG (fV hr) (ag 7) (ag 4) rfl))))) (aL (gY (lJ (ag 5) (ag 7)))) dR) (aL (bZ 6 aA (ff (qo (ag 6) (eU (eT (fV hr) (ag 7) (ag 3) rfl))) (eU (eT (j9 hr) (ag 7) (ag 4) rfl))))))) (aL (bo (qc (ag 5)))))))))
theorem Dh:bx ["days_by_mark","day"] ["days_by_mark","day"] (aX (top 39)):=⟨rfl,rfl,rfl,by decide +kernel,rfl,by decide +kernel,by decide +kernel⟩
theorem Di (F:bN K mg) {f:Addr} {fd:Xg} (G:Gd K mg "marks_on" (top 39) ["days_by_mark","day"] f fd):aW P w K mg base bb 1 f fd ["days_by_mark","day"] (bu K qW):=by
 have bB:(["mark","day","days_by_mark"]:List Str).Nodup:=by decide +kernel
 have aA:=Dh.nd;exact bJ (k:=0) G.fn Dh λbg A outer s H E hr=>(aL (bo (jd j8 rfl F.gm gn (ah (cY (N:=["mark","day","days_by_mark"]) (nt:=1) (cap:=[1,0]) rfl (cw (by kernel_rfl)) (cm 0) (de rfl F.cG (ah (eY F.nh rfl) ak)) (λcl C s H ex pn=>⟨(bC (i:=0) bB rfl (Yj rfl)),(fR (bG (fV hr) (ag 1) (aQ (ag 2) (ag 0)) rfl)),(ag 0)⟩)) ak))))
theorem Cq:bx ["book","mould","present","absent"] ["book","mould"] (aX (top 38)):=⟨rfl,rfl,rfl,by decide +kernel,rfl,by decide +kernel,by decide +kernel⟩
theorem Cr (F:bN K mg) {f:Addr} {fd:Xg} (G:Gd K mg "sure_sheets" (top 38) ["book","mould"] f fd):aW P w K mg base bb 3 f fd ["book","mould"] (bu K ph):=by
 obtain⟨_,_,ue⟩:=F.JC;obtain⟨_,_,ui⟩:=F.JJ;obtain⟨_,_,l7⟩:=F.KC;have bB:(["mark","book","mould"]:List Str).Nodup:=by decide +kernel
 have jY:(["mark","book","mould"]:List Str).Nodup:=by decide +kernel
 have oR:(["day","present","absent"]:List Str).Nodup:=by decide +kernel
 have aA:=Cq.nd;exact bJ (k:=2) G.fn Cq λbg A outer s H E hr=>(aJ (bZ 2 aA (cY (N:=["mark","book","mould"]) (nt:=1) (cap:=[0,1]) rfl (cw (by kernel_rfl)) (cm 0) (de rfl F.cG (ah (eY F.nh rfl) ak)) (λcl C s H ex pn=>⟨(bC (i:=0) bB rfl (Yj rfl)),eV,(aH (JD F ue) (hr.mono (by decide)) rfl ue.mg ue.fn.kp ue.b (ah (ag 1) (ah (ag 2) (ah (ag 0) ak))))⟩))) (aJ (bZ 3 aA (cY (N:=["mark","book","mould"]) (nt:=1) (cap:=[0,1]) rfl (cw (by kernel_rfl)) (cm 0) (de rfl F.cG (ah (eY F.nh rfl) ak)) (λcl C s H ex pn=>⟨(bC (i:=0) jY rfl (Yj rfl)),eV,(aH (JL F ui) (hr.mono (by decide)) rfl ui.mg ui.fn.kp ui.b (ah (ag 1) (ah (ag 2) (ah (ag 0) ak))))⟩))) (aL (bo (cY (N:=["day","present","absent"]) (nt:=1) (cap:=[2,3]) rfl (cw (by kernel_rfl)) (cm 0) (de rfl F.cG (ah (eY F.nq rfl) ak)) (λcl C s H ex pn=>⟨(bC (i:=0) oR rfl (Yj rfl)),eV,(cU (ah (aH (Di F l7) (hr.mono (by decide)) rfl l7.mg l7.fn.kp l7.b (ah (ag 1) (ah (ag 0) ak))) (ah (aH (Di F l7) (hr.mono (by decide)) rfl l7.mg l7.fn.kp l7.b (ah (ag 2) (ah (ag 0) ak))) ak)))⟩))))))
theorem CZ:bx ["book","sheet"] ["book","sheet"] (aX (top 37)):=⟨rfl,rfl,rfl,by decide +kernel,rfl,by decide +kernel,by decide +kernel⟩
theorem C0 (F:bN K mg) {f:Addr} {fd:Xg} (G:Gd K mg "places_of" (top 37) ["book","sheet"] f fd):aW P w K mg base bb 10 f fd ["book","sheet"] (bu K m8):=by
 obtain⟨_,_,kQ⟩:=F.CK;obtain⟨_,_,kO⟩:=F.Cv;obtain⟨_,_,kN⟩:=F.Cn;obtain⟨_,_,lg⟩:=F.EM;obtain⟨_,_,uF⟩:=F.Ke
 have bB:(["mould","first","last","sheet","book"]:List Str).Nodup:=by decide +kernel
 have jY:(["sure","sheet"]:List Str).Nodup:=by decide +kernel
 have aA:=CZ.nd
 exact bJ (k:=9) G.fn CZ λbg A outer s H E hr=>(aJ (gY (aH (CV F kQ) (hr.mono (by decide)) rfl kQ.mg kQ.fn.kp kQ.b (ah (ag 0) ak))) (aJ (gY (aH (Cy F kO) (hr.mono (by decide)) rfl kO.mg kO.fn.kp kO.b (ah (ag 1) ak))) (aL (bo (Nr (N:=["mould","first","last","sheet","book"]) (nt:=3) (cap:=[1,0]) rfl (zw (by kernel_rfl)) (cm 0) (rl 0) (rE (j7 1 (j7 2 rk))) (vE [1,2]) (de rfl F.cG (ah (eY F.q0 rfl) ak)) (λcl C s H ex pn=>⟨(bC (i:=0) bB rfl (Yj rfl)),eV,(df (aH (Ki F uF) (hr.mono (by decide)) rfl uF.mg uF.fn.kp uF.b (ah (cY (N:=["sure","sheet"]) (nt:=1) (cap:=[3]) rfl (cw (by kernel_rfl)) (cm 0) (df (aH (Cr F kN) (hr.mono (by decide)) rfl kN.mg kN.fn.kp kN.b (ah (ag 4) (ah (ag 0) ak)))) (λcl C s H ex pn=>⟨(bC (i:=0) jY rfl (Yj rfl)),eV,(aH (EO F lg) (hr.mono (by decide)) rfl lg.mg lg.fn.kp lg.b (ah (ag 1) (ah (ag 0) ak)))⟩)) ak))),(lp rfl (jy (bC (i:=1) bB rfl (Yj rfl)) (jy (bC (i:=2) bB rfl (Yj rfl)) pM))),eV,(cU (ah (ag 0) (ah (ag 1) (ah (ag 2) ak))))⟩))))))
theorem ER:bx ["_law_state_here","_law_many","_law_found","_law_stirred"] ["_law_state_here","_law_many"] (aX (top 47)):=⟨rfl,rfl,rfl,by decide +kernel,rfl,by decide +kernel,by decide +kernel⟩
theorem dw (F:bN K mg) {f:Addr} {fd:Xg} (G:Gd K mg "_law_take" (top 47) ["_law_state_here","_law_many"] f fd):aW P w K mg base bb 1 f fd ["_law_state_here","_law_many"] (bu K bj):=by
 have aA:=ER.nd;exact bJ (k:=0) G.fn ER λbg A outer s H E hr=>(aJ (dh (bG H9 (aQ (ag 0) az) az (bS _)) (aJ (bZ 2 aA (cg qd (aQ (ag 0) az) (ag 1))) (aJ (mx (cg Hj (aQ (ag 0) az) (ag 1)) (ag 0) az) (aL (bo (ag 2))))) dR) (aJ (mx (cg qd (cg fS (cg rT (aQ (ag 0) az) az) az) az) (ag 0) az) (aJ (bZ 3 aA (cg qd (cg fS (cg fS (cg rT (aQ (ag 0) az) (aQ (ag 0) az)) (cg rT az (aQ (ag 0) az))) az) az)) (aJ (bZ 3 aA (cg qd (cg fS (cg rT (ag 3) (ag 3)) (cg rT az (ag 3))) az)) (aL (bo (cg qd (cg Hj (ag 3) az) (ag 1))))))))
theorem D7:bx ["_law_state_here","_law_mended","_law_there","_law_found","_law_way","_law_day"] ["_law_state_here","_law_mended"] (aX (top 52)):=⟨rfl,rfl,rfl,by decide +kernel,rfl,by decide +kernel,by decide +kernel⟩
theorem Mi (F:bN K mg) {f:Addr} {fd:Xg} (G:Gd K mg "_law_lived" (top 52) ["_law_state_here","_law_mended"] f fd):aW P w K mg base bb 2 f fd ["_law_state_here","_law_mended"] (bu K pH):=by
 obtain⟨_,_,aD⟩:=F.pK;have aA:=D7.nd;exact bJ (k:=1) G.fn D7 λbg A outer s H E hr=>(aJ (ze 2 3 4 rfl aA (ah (eT (dX hr) (aH (dw F aD) (hr.mono (by decide)) rfl aD.mg aD.fn.kp aD.b (ah (ag 0) (ah az ak))) az (bS _)) (ah (lE ak) (ah (cg fS az (aH (dw F aD) (hr.mono (by decide)) rfl aD.mg aD.fn.kp aD.b (ah (ag 0) (ah az ak)))) ak)))) (aJ (fQ XH rfl (de rfl F.cG (ah az ak)) (bY 5 aA) (aJ (bZ 2 aA (ff (qo (ag 2) (eU (eT (dX hr) (aH (dw F aD) (hr.mono (by decide)) rfl aD.mg aD.fn.kp aD.b (ah (ag 0) (ah (ag 4) ak))) az (bS _)))) (eU (eT (j9 hr) (ag 5) (ag 1) rfl)))) (aL (dh (dQ (ag 2)) (aL (gY (lJ (ag 3) (ag 5)))) dR)))) (aL (bo (qc (ag 3))))))
theorem ES:bx ["_law_state_here","_law_found","_law_moulds","_law_often","_law_mould","_law_mended","_law_lives","_law_turn","_law_mark","_law_day","_law_seen","_law_has"] ["_law_state_here"] (aX (top 53)):=⟨rfl,rfl,rfl,by decide +kernel,rfl,by decide +kernel,by decide +kernel⟩
theorem Ny (F:bN K mg) {f:Addr} {fd:Xg} (G:Gd K mg "_law_book" (top 53) ["_law_state_here"] f fd):aW P w K mg base bb 3 f fd ["_law_state_here"] (bu K (vn w)):=by
 obtain⟨_,_,aD⟩:=F.pK;obtain⟨_,_,uZ⟩:=F.Md;have bB:(["_law_mark"]:List Str).Nodup:=by decide +kernel
 have jY:(["_law_mark","_law_state_here","_law_often"]:List Str).Nodup:=by decide +kernel
 have oR:(["_law_mark","_law_day","_law_lives"]:List Str).Nodup:=by decide +kernel
 have qL:(["_law_mark","_law_day","_law_lives"]:List Str).Nodup:=by decide +kernel
 have aA:=ES.nd;exact bJ (k:=2) G.fn ES λbg A outer s H E hr=>(aJ (mw (cU (ah TK.GV (ah (cg fS az (aH (dw F aD) (hr.mono (by decide)) rfl aD.mg aD.fn.kp aD.b (ah (ag 0) (ah az ak)))) (ah (cg fS az (aH (dw F aD) (hr.mono (by decide)) rfl aD.mg aD.fn.kp aD.b (ah (ag 0) (ah az ak)))) ak)))) (mv rfl (fI (bY 1 aA) (fI (bY 2 aA) (fI (bY 3 aA) mf))))) (aJ (fQ XH rfl (de rfl F.cG (ah (ag 2) ak)) (bY 4 aA) (aJ (mw (cU (ah (cY (N:=["_law_mark"]) (nt:=1) (cap:=[]) rfl (cw (by kernel_rfl)) (cm 0) (de rfl F.cG (ah az ak)) (λcl C s H ex pn=>⟨(bC (i:=0) bB rfl (Yj rfl)),eV,(lE ak)⟩)) (ah (lE ak) ak))) (mv rfl (fI (bY 5 aA) (fI (bY 6 aA) mf)))) (aJ (fQ XH rfl (de rfl F.cG (ah (aH (dw F aD) (hr.mono (by decide)) rfl aD.mg aD.fn.kp aD.b (ah (ag 0) (ah az ak))) ak)) (bY 7 aA) (aJ (mw (cU (ah (aH (dw F aD) (hr.mono (by decide)) rfl aD.mg aD.fn.kp aD.b (ah (ag 0) (ah az ak))) (ah (aH (dw F aD) (hr.mono (by decide)) rfl aD.mg aD.fn.kp aD.b (ah (ag 0) (ah az ak))) ak))) (mv rfl (fI (bY 8 aA) (fI (bY 9 aA) mf)))) (aJ (gY (lJ (aQ (ag 5) (ag 8)) (ag 9))) (aL (TK.vI rfl hr eI (ag 1) (cU (ah jD (ah (ag 4) (ah (ag 9) (ah (ag 8) ak)))))))))) (aJ (fQ XH rfl (de rfl F.cG (ah az ak)) (bY 8 aA) (aL (gY (lJ (ag 6) (aH (Mi F uZ) (hr.mono (by decide)) rfl uZ.mg uZ.fn.kp uZ.b (ah (ag 0) (ah (aQ (ag 5) (ag 8)) ak))))))) (aL (fQ XH rfl (de rfl F.cG (ah (aH (dw F aD) (hr.mono (by decide)) rfl aD.mg aD.fn.kp aD.b (ah (ag 0) (ah az ak))) ak)) (bY 7 aA) (aJ (bZ 9 aA (aH (dw F aD) (hr.mono (by decide)) rfl aD.mg aD.fn.kp aD.b (ah (ag 0) (ah az ak)))) (aJ (yD 10 (N:=["_law_mark","_law_state_here","_law_often"]) (nt:=1) (cap:=[0,3]) aA rfl (cw (by kernel_rfl)) (cm 0) (de rfl F.cG (ah az ak)) (λcl C s H ex pn=>⟨(bC (i:=0) jY rfl (Yj rfl)),(fR (bG (dX hr) (aH (dw F aD) (hr.mono (by decide)) rfl aD.mg aD.fn.kp aD.b (ah (ag 1) (ah (ag 2) ak))) az (bS _))),(ag 0)⟩)) (aJ (bZ 11 aA (jd j8 rfl F.gm gn (ah (cY (N:=["_law_mark","_law_day","_law_lives"]) (nt:=1) (cap:=[9,6]) rfl (cw (by kernel_rfl)) (cm 0) (df (ag 10)) (λcl C s H ex pn=>⟨(bC (i:=0) oR rfl (Yj rfl)),(fR (bG (fV hr) (ag 1) (aQ (ag 2) (ag 0)) rfl)),(ag 0)⟩)) ak))) (aL (TK.vI rfl hr eI (ag 1) (cU (ah jD (ah (ag 4) (ah (ag 9) (ah (cU (ah (ag 11) (ah (jd j8 rfl F.gm gn (ah (cY (N:=["_law_mark","_law_day","_law_lives"]) (nt:=1) (cap:=[9,6]) rfl (cw (by kernel_rfl)) (cm 0) (df (ag 10)) (λcl C s H ex pn=>⟨(bC (i:=0) qL rfl (Yj rfl)),(fR (bG (j9 hr) (ag 1) (aQ (ag 2) (ag 0)) rfl)),(ag 0)⟩)) ak)) ak))) ak)))))))))))))))) (aL (bo (jd j8 rfl F.gm gn (ah (cv (TK.FK hr) rfl F.xN x8 (ah (jd (TK.FJ rfl) rfl F.rn rF (ah (ag 1) ak)) ak)) ak))))))
theorem D8:bx ["_law_state_here","_law_most","_law_way"] ["_law_state_here","_law_most"] (aX (top 49)):=⟨rfl,rfl,rfl,by decide +kernel,rfl,by decide +kernel,by decide +kernel⟩
theorem ra (F:bN K mg) {f:Addr} {fd:Xg} (G:Gd K mg "_law_marks" (top 49) ["_law_state_here","_law_most"] f fd):aW P w K mg base bb 2 f fd ["_law_state_here","_law_most"] (bu K jz):=by
 obtain⟨_,_,aD⟩:=F.pK;have bB:(["_law_mark","_law_state_here","_law_way"]:List Str).Nodup:=by decide +kernel
 have aA:=D8.nd;exact bJ (k:=1) G.fn D8 λbg A outer s H E hr=>(aJ (bZ 2 aA (cg fS az (aH (dw F aD) (hr.mono (by decide)) rfl aD.mg aD.fn.kp aD.b (ah (ag 0) (ah az ak))))) (aL (bo (jd j8 rfl F.gm gn (ah (cY (N:=["_law_mark","_law_state_here","_law_way"]) (nt:=1) (cap:=[0,2]) rfl (cw (by kernel_rfl)) (cm 0) (de rfl F.cG (ah (ag 1) ak)) (λcl C s H ex pn=>⟨(bC (i:=0) bB rfl (Yj rfl)),(fR (bG (dX hr) (aH (dw F aD) (hr.mono (by decide)) rfl aD.mg aD.fn.kp aD.b (ah (ag 1) (ah (cg fS (ag 2) az) ak))) az (bS _))),(ag 0)⟩)) ak)))))
theorem ET:bx ["_law_state_here","_law_found","_law_moulds","_law_last","_law_most","_law_turn","_law_mould","_law_day","_law_has","_law_lacks"] ["_law_state_here"] (aX (top 51)):=⟨rfl,rfl,rfl,by decide +kernel,rfl,by decide +kernel,by decide +kernel⟩
theorem Nz (F:bN K mg) {f:Addr} {fd:Xg} (G:Gd K mg "_law_near" (top 51) ["_law_state_here"] f fd):aW P w K mg base bb 3 f fd ["_law_state_here"] (bu K (vo w)):=by
 obtain⟨_,_,aD⟩:=F.pK;obtain⟨_,_,eQ⟩:=F.xO;have bB:(["_law_mark","_law_has"]:List Str).Nodup:=by decide +kernel
 have aA:=ET.nd;exact bJ (k:=2) G.fn ET λbg A outer s H E hr=>(aJ (bZ 1 aA TK.GV) (aJ (ze 2 3 4 rfl aA (ah (cg fS az (aH (dw F aD) (hr.mono (by decide)) rfl aD.mg aD.fn.kp aD.b (ah (ag 0) (ah az ak)))) (ah (aQ (ke (ah az (ah az (ah az ak)))) (aH (dw F aD) (hr.mono (by decide)) rfl aD.mg aD.fn.kp aD.b (ah (ag 0) (ah az ak)))) (ah (cg fS az (aH (dw F aD) (hr.mono (by decide)) rfl aD.mg aD.fn.kp aD.b (ah (ag 0) (ah az ak)))) ak)))) (aJ (fQ XH rfl (de rfl F.cG (ah (aH (dw F aD) (hr.mono (by decide)) rfl aD.mg aD.fn.kp aD.b (ah (ag 0) (ah az ak))) ak)) (bY 5 aA) (aJ (Qq 6 7 rfl aA (ah (aH (dw F aD) (hr.mono (by decide)) rfl aD.mg aD.fn.kp aD.b (ah (ag 0) (ah (ag 2) ak))) (ah (aH (dw F aD) (hr.mono (by decide)) rfl aD.mg aD.fn.kp aD.b (ah (ag 0) (ah (ag 3) ak))) ak))) (aL (dh (bG (dX hr) (aH (dw F aD) (hr.mono (by decide)) rfl aD.mg aD.fn.kp aD.b (ah (ag 0) (ah az ak))) az (bS _)) (aL (TK.vI rfl hr eI (ag 1) (cU (ah jD (ah (ag 6) (ah (ag 7) (ah (aH (dw F aD) (hr.mono (by decide)) rfl aD.mg aD.fn.kp aD.b (ah (ag 0) (ah (ag 4) ak))) ak))))))) (aJ (bZ 8 aA (aH (ra F eQ) (hr.mono (by decide)) rfl eQ.mg eQ.fn.kp eQ.b (ah (ag 0) (ah (ag 4) ak)))) (aJ (bZ 9 aA (jd j8 rfl F.gm gn (ah (cY (N:=["_law_mark","_law_has"]) (nt:=1) (cap:=[8]) rfl (cw (by kernel_rfl)) (cm 0) (df (aH (ra F eQ) (hr.mono (by decide)) rfl eQ.mg eQ.fn.kp eQ.b (ah (ag 0) (ah (ag 4) ak)))) (λcl C s H ex pn=>⟨(bC (i:=0) bB rfl (Yj rfl)),(fR (bG (j9 hr) (ag 0) (ag 1) rfl)),(ag 0)⟩)) ak))) (aL (TK.vI rfl hr eI (ag 1) (cU (ah jD (ah (ag 6) (ah (ag 7) (ah (cU (ah (ag 8) (ah (ag 9) ak))) ak))))))))))))) (aL (bo (jd j8 rfl F.gm gn (ah (cv (TK.FK hr) rfl F.xN x8 (ah (jd (TK.FJ rfl) rfl F.rn rF (ah (ag 1) ak)) ak)) ak)))))))
theorem D9:bx ["_law_state_here","_law_has","_law_lacks"] ["_law_state_here"] (aX (top 50)):=⟨rfl,rfl,rfl,by decide +kernel,rfl,by decide +kernel,by decide +kernel⟩
theorem Mj (F:bN K mg) {f:Addr} {fd:Xg} (G:Gd K mg "_law_sheet" (top 50) ["_law_state_here"] f fd):aW P w K mg base bb 3 f fd ["_law_state_here"] (bu K uY):=by
 obtain⟨_,_,eQ⟩:=F.xO;have bB:(["_law_mark","_law_has"]:List Str).Nodup:=by decide +kernel
 have aA:=D9.nd;exact bJ (k:=2) G.fn D9 λbg A outer s H E hr=>(aJ (mw (cU (ah (aH (ra F eQ) (hr.mono (by decide)) rfl eQ.mg eQ.fn.kp eQ.b (ah (ag 0) (ah az ak))) (ah (aH (ra F eQ) (hr.mono (by decide)) rfl eQ.mg eQ.fn.kp eQ.b (ah (ag 0) (ah az ak))) ak))) (mv rfl (fI (bY 1 aA) (fI (bY 2 aA) mf)))) (aL (bo (cU (ah (ag 1) (ah (jd j8 rfl F.gm gn (ah (cY (N:=["_law_mark","_law_has"]) (nt:=1) (cap:=[1]) rfl (cw (by kernel_rfl)) (cm 0) (df (ag 2)) (λcl C s H ex pn=>⟨(bC (i:=0) bB rfl (Yj rfl)),(fR (bG (j9 hr) (ag 0) (ag 1) rfl)),(ag 0)⟩)) ak)) ak))))))
theorem Cs:bx ["_law_state_here","_law_book_here","_law_made","_law_one","_law_has","_law_whole"] ["_law_state_here","_law_book_here"] (aX (top 57)):=⟨rfl,rfl,rfl,by decide +kernel,rfl,by decide +kernel,by decide +kernel⟩
theorem JM (F:bN K mg) {f:Addr} {fd:Xg} (G:Gd K mg "_law_some_sheet" (top 57) ["_law_state_here","_law_book_here"] f fd):aW P w K mg base bb 4 f fd ["_law_state_here","_law_book_here"] (bu K qO):=by
 obtain⟨_,_,aD⟩:=F.pK;obtain⟨_,_,eQ⟩:=F.xO;obtain⟨_,_,u0⟩:=F.Me;have bB:(["_law_page"]:List Str).Nodup:=by decide +kernel
 have jY:(["_law_mark","_law_has"]:List Str).Nodup:=by decide +kernel
 have aA:=Cs.nd;exact bJ (k:=3) G.fn Cs λbg A outer s H E hr=>(aJ (yD 2 (N:=["_law_page"]) (nt:=1) (cap:=[]) aA rfl (cw (by kernel_rfl)) (cm 0) (df (ag 1)) (λcl C s H ex pn=>⟨(bC (i:=0) bB rfl (Yj rfl)),(fR (bG (dX hr) (aQ (ag 0) az) jD (bS _))),(aQ (ag 0) az)⟩)) (aJ (bZ 3 aA (Tp (bG (mC hr) (ag 2) (ke ak) (bS _)) (aQ (ag 2) (aH (dw F aD) (hr.mono (by decide)) rfl aD.mg aD.fn.kp aD.b (ah (ag 0) (ah (cv lH rfl F.lB lK (ah (ag 2) ak)) ak)))) (cU (ah (cU ak) (ah (cU ak) ak))))) (aJ (bZ 4 aA (aH (ra F eQ) (hr.mono (by decide)) rfl eQ.mg eQ.fn.kp eQ.b (ah (ag 0) (ah az ak)))) (aJ (bZ 5 aA (cU (ah (ag 4) (ah (jd j8 rfl F.gm gn (ah (cY (N:=["_law_mark","_law_has"]) (nt:=1) (cap:=[4]) rfl (cw (by kernel_rfl)) (cm 0) (de rfl F.cG (ah az ak)) (λcl C s H ex pn=>⟨(bC (i:=0) jY rfl (Yj rfl)),(fR (bG (j9 hr) (ag 0) (ag 1) rfl)),(ag 0)⟩)) ak)) ak)))) (aL (bo (aQ (ke (ah (aH (Mj F u0) (hr.mono (by decide)) rfl u0.mg u0.fn.kp u0.b (ah (ag 0) ak)) (ah (ag 3) (ah (RR (ag 3)) (ah (ag 5) (ah (cU (ah (cU ak) (ah (cU ak) ak))) ak)))))) (aH (dw F aD) (hr.mono (by decide)) rfl aD.mg aD.fn.kp aD.b (ah (ag 0) (ah az ak))))))))))
theorem EU:bx ["_law_found","_law_due"] ["_law_found","_law_due"] (aX (top 48)):=⟨rfl,rfl,rfl,by decide +kernel,rfl,by decide +kernel,by decide +kernel⟩
theorem u4 (F:bN K mg) {f:Addr} {fd:Xg} (G:Gd K mg "_law_same" (top 48) ["_law_found","_law_due"] f fd):∀n,aW P w K mg base bb (1+n) f fd ["_law_found","_law_due"] (bu K (eD n))
 |0=>RV λ_ _=>rfl
 |n+1=>by
  have bB:(["_law_one","_law_other"]:List Str).Nodup:=by decide +kernel
  have aA:=EU.nd;have ih:=u4 F G n;exact bJ G.fn EU λbg A outer s H E hr=>(aJ (dh (dQ (OE (ag 1) rfl F.iK iL (yn rfl F.gm gn rfl) (yn rfl F.rn rF rfl))) (aJ (dh (PW.pt (w_or (bG (mC hr) (cv jk rfl F.iK iL (ah (ag 0) (ah (jo gn rfl F.gm) ak))) (cv jk rfl F.iK iL (ah (ag 1) (ah (jo gn rfl F.gm) ak))) (bS _)) (mq (bG (mC hr) (cv jk rfl F.iK iL (ah (ag 0) (ah (jo rF rfl F.rn) ak))) (cv jk rfl F.iK iL (ah (ag 1) (ah (jo rF rfl F.rn) ak))) (bS _))))) (aL (bo eI)) dR) (aL (bo (ff (eT (dX hr) (cv lH rfl F.lB lK (ah (ag 0) ak)) (cv lH rfl F.lB lK (ah (ag 1) ak)) (bS _)) (eU (cv (vZ rfl) rfl F.vJ v5 (ah (Nt (N:=["_law_one","_law_other"]) (nt:=2) (cap:=[]) rfl (cw (by kernel_rfl)) (rE (j7 0 (j7 1 rk))) (QH rfl F.GZ (ah (ag 0) (ah (ag 1) ak))) (λcl C s H ex pn=>⟨(lp rfl (jy (bC (i:=0) bB rfl (Yj rfl)) (jy (bC (i:=1) bB rfl (Yj rfl)) pM))),eV,(aH ih hr rfl G.mg G.fn.kp G.b (ah (ag 0) (ah (ag 1) ak)))⟩)) ak))))))) dR) (aL (bo (ff (eT (dX hr) (cv jk rfl F.iK iL (ah (ag 0) (ah (jo yY rfl F.yG) ak))) (cv jk rfl F.iK iL (ah (ag 1) (ah (jo yY rfl F.yG) ak))) (bS _)) (eU (eT (dX hr) (ag 0) (ag 1) (bS _)))))))
theorem Ea:bx ["_law_later","_law_one","_law_free"] ["_law_later","_law_one","_law_free"] (aX (top 56)):=⟨rfl,rfl,rfl,by decide +kernel,rfl,by decide +kernel,by decide +kernel⟩
theorem Ml (F:bN K mg) {f:Addr} {fd:Xg} (G:Gd K mg "_law_leads" (top 56) ["_law_later","_law_one","_law_free"] f fd):aW P w K mg base bb 1 f fd ["_law_later","_law_one","_law_free"] (bu K ye):=by
 have aA:=Ea.nd;exact bJ (k:=0) G.fn Ea λbg A outer s H E hr=>(aL (bo (qo (eT (fV hr) eI (ag 0) rfl) (eU (ff (eT (fV hr) eI (ag 0) rfl) (eU (qo (vV (ag 1)) (eU (ag 2)))))))))
theorem EV:bx ["_law_ahead","_law_one","_law_free"] ["_law_ahead","_law_one","_law_free"] (aX (top 55)):=⟨rfl,rfl,rfl,by decide +kernel,rfl,by decide +kernel,by decide +kernel⟩
theorem NA (F:bN K mg) {f:Addr} {fd:Xg} (G:Gd K mg "_law_gone" (top 55) ["_law_ahead","_law_one","_law_free"] f fd):aW P w K mg base bb 1 f fd ["_law_ahead","_law_one","_law_free"] (bu K yF):=by
 have aA:=EV.nd;exact bJ (k:=0) G.fn EV λbg A outer s H E hr=>(aL (bo (ff (vV (ag 1)) (eU (qo (eT (fV hr) eI (ag 0) rfl) (eU (ff (ag 2) (eU (eT (mC hr) (ag 0) (ke ak) (bS _))))))))))
theorem FO:bx ["_law_laid","_law_mould","_law_mark","_law_rows","_law_free","_law_page","_law_day","_law_ahead","_law_off"] ["_law_laid","_law_mould","_law_mark"] (aX (top 54)):=⟨rfl,rfl,rfl,by decide +kernel,rfl,by decide +kernel,by decide +kernel⟩
theorem OV (F:bN K mg) {f:Addr} {fd:Xg} (G:Gd K mg "_law_may" (top 54) ["_law_laid","_law_mould","_law_mark"] f fd):aW P w K mg base bb 2 f fd ["_law_laid","_law_mould","_law_mark"] (bu K pX):=by
 obtain⟨_,_,vq⟩:=F.Nx;obtain⟨_,_,u5⟩:=F.Mf;have bB:(["_law_day"]:List Str).Nodup:=by decide +kernel
 have jY:(["_law_day"]:List Str).Nodup:=by decide +kernel
 have oR:(["_law_one"]:List Str).Nodup:=by decide +kernel
 have qL:(["_law_one","_law_mark","_law_page"]:List Str).Nodup:=by decide +kernel
 have U7:(["_law_one","_law_ahead","_law_off"]:List Str).Nodup:=by decide +kernel
 have U8:(["_law_one","_law_rows","_law_free","_law_day"]:List Str).Nodup:=by decide +kernel
 have U9:(["_law_row"]:List Str).Nodup:=by decide +kernel
 have aA:=FO.nd;exact bJ (k:=1) G.fn FO λbg A outer s H E hr=>(aJ (bZ 3 aA (EH (N:=["_law_day"]) (nt:=1) (cap:=[]) rfl (cw (by kernel_rfl)) (cm 0) (de rfl F.cG (ah az ak)) (λcl C s H ex pn=>⟨(bC (i:=0) bB rfl (Yj rfl)),eV,(ke (ah eI (ah eI ak)))⟩))) (aJ (bZ 4 aA (EH (N:=["_law_day"]) (nt:=1) (cap:=[]) rfl (cw (by kernel_rfl)) (cm 0) (de rfl F.cG (ah az ak)) (λcl C s H ex pn=>⟨(bC (i:=0) jY rfl (Yj rfl)),eV,eI⟩))) (aJ (fQ XH rfl (df (ag 0)) (bY 5 aA) (aJ (dh (PW.pt (w_and (bG (dX hr) (aQ (ag 5) az) jD (bS _)) (w_and (bG (dX hr) (aQ (ag 5) az) (ag 1) (bS _)) (lq (bG (dX hr) (aQ (ag 5) az) (ag 2) (bS _)))))) (aJ (mx (cY (N:=["_law_one"]) (nt:=1) (cap:=[]) rfl (cw (by kernel_rfl)) (cm 0) (df (aQ (ag 3) (aQ (ag 5) az))) (λcl C s H ex pn=>⟨(bC (i:=0) oR rfl (Yj rfl)),(fR (iy (dQ (ag 0)))),(ag 0)⟩)) (ag 3) (aQ (ag 5) az)) (aL (mx eI (ag 4) (aQ (ag 5) az)))) dR) (aL (dh (PW.pt (w_and (bG (dX hr) (aQ (ag 5) az) jD (bS _)) (w_and (bG (dX hr) (aQ (ag 5) az) (ag 1) (bS _)) (lq (bG (fV hr) (ag 2) (cg fS (aQ (aQ (ag 5) az) az) (aQ (aQ (ag 5) az) az)) rfl))))) (aL (mx (cY (N:=["_law_one","_law_mark","_law_page"]) (nt:=1) (cap:=[2,5]) rfl (cw (by kernel_rfl)) (cm 0) (df (aQ (ag 3) (aQ (ag 5) az))) (λcl C s H ex pn=>⟨(bC (i:=0) qL rfl (Yj rfl)),(fR (bG (dX hr) (ag 0) (eT (fV hr) (ag 1) (aQ (aQ (ag 2) az) az) rfl) (bS _))),(ag 0)⟩)) (ag 3) (aQ (ag 5) az))) dR)))) (aJ (fQ XH rfl (GB rfl F.cG (ah az (ah az ak))) (bY 6 aA) (aJ (mw (cU (ah (aQ (ag 3) (cg vX (ag 6) az)) (ah (aQ (ag 4) (ag 6)) ak))) (mv rfl (fI (bY 7 aA) (fI (bY 8 aA) mf)))) (aL (mx (cY (N:=["_law_one","_law_ahead","_law_off"]) (nt:=1) (cap:=[7,8]) rfl (cw (by kernel_rfl)) (cm 0) (df (aQ (ag 3) (ag 6))) (λcl C s H ex pn=>⟨(bC (i:=0) U7 rfl (Yj rfl)),(fR (PW.pt (w_or (PW.pt (w_and (dQ (ag 0)) (lq (bG (mC hr) (ag 1) (ke ak) (bS _))))) (mq (dQ (aH (NA F vq) (hr.mono (by decide)) rfl vq.mg vq.fn.kp vq.b (ah (ag 1) (ah (ag 0) (ah (ag 2) ak))))))))),(ag 0)⟩)) (ag 3) (ag 6))))) (aJ (fQ XH rfl (Qv rfl F.cG (ah az (ah (wx vY az) (ah (wx vY az) ak)))) (bY 6 aA) (aL (mx (cY (N:=["_law_one","_law_rows","_law_free","_law_day"]) (nt:=1) (cap:=[3,4,6]) rfl (cw (by kernel_rfl)) (cm 0) (df (aQ (ag 3) (ag 6))) (λcl C s H ex pn=>⟨(bC (i:=0) U8 rfl (Yj rfl)),(fR (dQ (aH (Ml F u5) (hr.mono (by decide)) rfl u5.mg u5.fn.kp u5.b (ah (aQ (ag 1) (cg fS (ag 3) az)) (ah (ag 0) (ah (aQ (ag 2) (cg fS (ag 3) az)) ak)))))),(ag 0)⟩)) (ag 3) (ag 6)))) (aL (bo (cY (N:=["_law_row"]) (nt:=1) (cap:=[]) rfl (cw (by kernel_rfl)) (cm 0) (df (qc (ag 3))) (λcl C s H ex pn=>⟨(bC (i:=0) U9 rfl (Yj rfl)),eV,(jd j8 rfl F.gm gn (ah (ag 0) ak))⟩)))))))))
theorem Cz:bx ["_law_days","_law_found","_law_day","_law_last"] ["_law_days"] (aX (top 58)):=⟨rfl,rfl,rfl,by decide +kernel,rfl,by decide +kernel,by decide +kernel⟩
theorem JX (F:bN K mg) {f:Addr} {fd:Xg} (G:Gd K mg "_law_stretches" (top 58) ["_law_days"] f fd):aW P w K mg base bb 1 f fd ["_law_days"] (bu K pk):=by
 have aA:=Cz.nd;exact bJ (k:=0) G.fn Cz λbg A outer s H E hr=>(aJ (bZ 1 aA (lE ak)) (aJ (fQ XH rfl (de rfl F.cG (ah az ak)) (bY 2 aA) (aL (dh (PW.pt (w_and (bG (fV hr) (ag 2) (ag 0) rfl) (lq (bG (j9 hr) (cg vX (ag 2) az) (ag 0) rfl)))) (aJ (bZ 3 aA (ag 2)) (aJ (RO 100 XH (bG (fV hr) (cg fS (ag 3) az) (ag 0) rfl) (aL (bZ 3 aA (cg fS (ag 3) az)))) (aL (gY (lJ (ag 1) (cU (ah (ag 2) (ah (ag 3) ak)))))))) dR))) (aL (bo (qc (ag 1))))))
theorem CB:bx ["thing"] ["thing"] (aX (top 16)):=⟨rfl,rfl,rfl,by decide +kernel,rfl,by decide +kernel,by decide +kernel⟩
theorem JY (F:bN K mg) {f:Addr} {fd:Xg} (G:Gd K mg "need_mould" (top 16) ["thing"] f fd):aW P w K mg base bb 4 f fd ["thing"] (bu K uu):=by
 obtain⟨_,_,kR⟩:=F.C6;have aA:=CB.nd;exact bJ (k:=3) G.fn CB λbg A outer s H E hr=>(aL (dh (iy (dQ (aH (De F kR) (hr.mono (by decide)) rfl kR.mg kR.fn.kp kR.b (ah (ag 0) ak)))) uU dR))
theorem Dj:bx ["thing"] ["thing"] (aX (top 17)):=⟨rfl,rfl,rfl,by decide +kernel,rfl,by decide +kernel,by decide +kernel⟩
theorem KI (F:bN K mg) {f:Addr} {fd:Xg} (G:Gd K mg "need_day" (top 17) ["thing"] f fd):aW P w K mg base bb 4 f fd ["thing"] (bu K uK):=by
 obtain⟨_,_,kX⟩:=F.D3;have aA:=Dj.nd;exact bJ (k:=3) G.fn Dj λbg A outer s H E hr=>(aL (dh (iy (dQ (aH (D6 F kX) (hr.mono (by decide)) rfl kX.mg kX.fn.kp kX.b (ah (ag 0) ak)))) uU dR))
theorem Eb:bx ["book","mould","day","sheet"] ["book","mould","day","sheet"] (aX (top 36)):=⟨rfl,rfl,rfl,by decide +kernel,rfl,by decide +kernel,by decide +kernel⟩
theorem Mm (F:bN K mg) {f:Addr} {fd:Xg} (G:Gd K mg "may_be" (top 36) ["book","mould","day","sheet"] f fd):aW P w K mg base bb 10 f fd ["book","mould","day","sheet"] (bu K pI):=by
 obtain⟨_,_,kQ⟩:=F.CK;obtain⟨_,_,ux⟩:=F.JW;obtain⟨_,_,uN⟩:=F.KD;obtain⟨_,_,kO⟩:=F.Cv;obtain⟨_,_,kN⟩:=F.Cn;obtain⟨_,_,lg⟩:=F.EM;have aA:=Eb.nd;exact bJ (k:=9) G.fn Eb λbg A outer s H E hr=>(aJ (gY (aH (CV F kQ) (hr.mono (by decide)) rfl kQ.mg kQ.fn.kp kQ.b (ah (ag 0) ak))) (aJ (gY (aH (JY F ux) (hr.mono (by decide)) rfl ux.mg ux.fn.kp ux.b (ah (ag 1) ak))) (aJ (gY (aH (KI F uN) (hr.mono (by decide)) rfl uN.mg uN.fn.kp uN.b (ah (ag 2) ak))) (aJ (gY (aH (Cy F kO) (hr.mono (by decide)) rfl kO.mg kO.fn.kp kO.b (ah (ag 3) ak))) (aL (bo (aH (EO F lg) (hr.mono (by decide)) rfl lg.mg lg.fn.kp lg.b (ah (ag 3) (ah (aQ (aH (Cr F kN) (hr.mono (by decide)) rfl kN.mg kN.fn.kp kN.b (ah (ag 0) (ah (ag 1) ak))) (ag 2)) ak)))))))))
theorem G0:bx ["_law_script","_law_k","_law_state_here","_law_book_here","_law_sheet_here","_law_kept","_law_due","_law_mould","_law_rows","_law_days","_law_day","_law_short","_law_told"] ["_law_script"] (aX (top 59)):=⟨rfl,rfl,rfl,by decide +kernel,rfl,by decide +kernel,by decide +kernel⟩
theorem QM (F:bN K mg) {f:Addr} {fd:Xg} (G:Gd K mg "law" (top 59) ["_law_script"] f fd):aW P w K mg base bb 11 f fd ["_law_script"] (bu K (wa w)):=by
 obtain⟨_,_,u6⟩:=F.Mc;obtain⟨_,_,vt⟩:=F.Nu;obtain⟨_,_,vv⟩:=F.Nv;obtain⟨_,_,kU⟩:=F.Du;obtain⟨_,_,uj⟩:=F.JK;obtain⟨_,_,vK⟩:=F.OU;obtain⟨_,_,uy⟩:=F.JV;obtain⟨_,_,aD⟩:=F.pK;obtain⟨_,_,u7⟩:=F.Mg;obtain⟨_,_,jg⟩:=F.Nw;obtain⟨_,_,l6⟩:=F.Kf;have bB:(["_law_mark","_law_book_here","_law_mould"]:List Str).Nodup:=by decide +kernel
 have jY:(["_law_mark","_law_day","_law_rows"]:List Str).Nodup:=by decide +kernel
 have oR:(["_law_mark","_law_day","_law_rows"]:List Str).Nodup:=by decide +kernel
 have qL:(["_law_first","_law_last","_law_mould"]:List Str).Nodup:=by decide +kernel
 have aA:=G0.nd;exact bJ (k:=10) G.fn G0 λbg A outer s H E hr=>(aJ (fQ XH rfl (de rfl F.cG (ah (cv (GC rfl) rfl F.GY Ht (ah az (ah (cv (Qm rfl) rfl F.QJ RU (ah (cv lH rfl F.lB lK (ah (ag 0) ak)) (ah az ak))) ak))) ak)) (bY 1 aA) (aJ (bZ 2 aA (aH (Mh F u6) (hr.mono (by decide)) rfl u6.mg u6.fn.kp u6.b (ah (ag 0) (ah (ag 1) ak)))) (aL (fQ XH rfl (df (ke (ah (Ib (aH (Ny F vt) (hr.mono (by decide)) rfl vt.mg vt.fn.kp vt.b (ah (ag 2) ak)) Ia (Hl az)) (ah (TK.QE (c:=3) (by decide) (aH (Nz F vv) (hr.mono (by decide)) rfl vv.mg vv.fn.kp vv.b (ah (ag 2) ak))) ak)))) (bY 3 aA) (aJ (dh (iy (dQ (aH (DA F kU) (hr.mono (by decide)) rfl kU.mg kU.fn.kp kU.b (ah (ag 3) ak)))) (aL Qi) dR) (aJ (ze 4 5 6 rfl aA (ah (aH (JM F uj) (hr.mono (by decide)) rfl uj.mg uj.fn.kp uj.b (ah (ag 2) (ah (ag 3) ak))) (ah (cv (GG hr) rfl F.FN GI (ah (ag 3) ak)) (ah (ke ak) ak)))) (aJ (fQ XH rfl (de rfl F.cG (ah az ak)) (bY 7 aA) (aJ (mw (cU (ah (cY (N:=["_law_mark","_law_book_here","_law_mould"]) (nt:=1) (cap:=[3,7]) rfl (cw (by kernel_rfl)) (cm 0) (de rfl F.cG (ah az ak)) (λcl C s H ex pn=>⟨(bC (i:=0) bB rfl (Yj rfl)),eV,(aH (OV F vK) (hr.mono (by decide)) rfl vK.mg vK.fn.kp vK.b (ah (ag 1) (ah (ag 2) (ah (ag 0) ak))))⟩)) (ah (lE ak) ak))) (mv rfl (fI (bY 8 aA) (fI (bY 9 aA) mf)))) (aJ (fQ XH rfl (de rfl F.cG (ah az ak)) (bY 10 aA) (aJ (yD 11 (N:=["_law_mark","_law_day","_law_rows"]) (nt:=1) (cap:=[10,8]) aA rfl (cw (by kernel_rfl)) (cm 0) (df (aQ (ag 4) az)) (λcl C s H ex pn=>⟨(bC (i:=0) jY rfl (Yj rfl)),(fR (bG (j9 hr) eI (aQ (aQ (ag 2) (ag 0)) (ag 1)) rfl)),(ag 0)⟩)) (aL (dh (bG (dX hr) (cg fS (ag 11) (cY (N:=["_law_mark","_law_day","_law_rows"]) (nt:=1) (cap:=[10,8]) rfl (cw (by kernel_rfl)) (cm 0) (df (aQ (ag 4) az)) (λcl C s H ex pn=>⟨(bC (i:=0) oR rfl (Yj rfl)),(fR (bG (j9 hr) eI (aQ (aQ (ag 2) (ag 0)) (ag 1)) rfl)),(ag 0)⟩))) (ke ak) (bS _)) (aL (gY (lJ (ag 9) (ag 10)))) dR)))) (aJ (bZ 6 aA (cg fS (ag 6) (cY (N:=["_law_first","_law_last","_law_mould"]) (nt:=2) (cap:=[7]) rfl (cw (by kernel_rfl)) (rE (j7 0 (j7 1 rk))) (df (aH (JX F uy) (hr.mono (by decide)) rfl uy.mg uy.fn.kp uy.b (ah (ag 9) ak))) (λcl C s H ex pn=>⟨(lp rfl (jy (bC (i:=0) qL rfl (Yj rfl)) (jy (bC (i:=1) qL rfl (Yj rfl)) pM))),eV,(cU (ah (ag 2) (ah (ag 0) (ah (ag 1) ak))))⟩)))) (aL (fQ XH rfl (df (ke (ah az (ah az (ah (aH (dw F aD) (hr.mono (by decide)) rfl aD.mg aD.fn.kp aD.b (ah (ag 2) (ah az ak))) (ah (aH (dw F aD) (hr.mono (by decide)) rfl aD.mg aD.fn.kp aD.b (ah (ag 2) (ah az ak))) ak)))))) (bY 10 aA) (aL (dh (iy (dQ (aH (u4 F jg 8) (hr.mono (by decide)) rfl jg.mg jg.fn.kp jg.b (ah (aH (Mm F u7) (hr.mono (by decide)) rfl u7.mg u7.fn.kp u7.b (ah (ag 3) (ah (ag 7) (ah (ag 10) (ah (ag 4) ak))))) (ah (eT (fV hr) (ag 10) (ag 9) rfl) ak))))) (aL (bo eI)) dR)))))))) (aJ (bZ 12 aA (aH (C0 F l6) (hr.mono (by decide)) rfl l6.mg l6.fn.kp l6.b (ah (ag 3) (ah (ag 4) ak)))) (aJ (dh (iy (dQ (aH (u4 F jg 8) (hr.mono (by decide)) rfl jg.mg jg.fn.kp jg.b (ah (ag 12) (ah (ag 6) ak))))) (aL (bo eI)) dR) (aJ (gY (lJ (ag 12) az)) (aL (dh (PW.pt (w_or (iy (dQ (aH (u4 F jg 8) (hr.mono (by decide)) rfl jg.mg jg.fn.kp jg.b (ah (aH (C0 F l6) (hr.mono (by decide)) rfl l6.mg l6.fn.kp l6.b (ah (ag 3) (ah (ag 4) ak))) (ah (ag 6) ak))))) (mq (bG (mC hr) (cv (GG hr) rfl F.FN GI (ah (ag 3) ak)) (ag 5) (bS _))))) (aL (bo eI)) dR)))))))))))) (aL (bo eI)))
end
end DI.cb
namespace DI
open PySem L2
def Wp {α:Type} (r:Res α) (Q:α->ae->Prop):Prop:=∃a s,r=some (.ok a,s)/\Q a s
section
variable {α β:Type} {r:Res α} {k:α->ae->Res β} {Q Q':α->ae->Prop} {R:β->ae->Prop} {env:Env} {s:ae}
theorem Wp.ok {a:α} (h:Q a s):Wp (DI.ok a s) Q:=⟨a,s,rfl,h⟩
theorem Wp.mono (h:Wp r Q) (i:∀a s,Q a s->Q' a s):Wp r Q':=by
 obtain⟨a,s,e,q⟩:=h;exact⟨a,s,e,i a s q⟩
theorem Wp.ar (h:Wp r λa s=>Wp (k a s) R):Wp (DI.ar r k) R:=by
 obtain⟨a,s,e,b,s',e',q⟩:=h;exact⟨b,s',by rw[e];exact e',q⟩
theorem Wp.ne (h:Wp r Q):Wp (DI.ne r) Q:=by
 obtain⟨a,s,e,q⟩:=h;exact⟨a,s,by rw[e];rfl,q⟩
theorem Wp.of {a:α} (e:r=some (.ok a,s)) (h:Q a s):Wp r Q:=⟨a,s,e,h⟩
theorem Wp.seq {f g:Env->ae->Res Fl} {Q:Fl->ae->Prop} (h:Wp (f env s) λfl s=>match fl with
  | .nx env=>Wp (g env s) Q
  |fl=>Q fl s):Wp (ay f g env s) Q:=by
 obtain⟨fl,s',e,h⟩:=h;unfold ay;rw[e]
 cases fl with
 |nx env=>exact h
 |rt d=>exact⟨_,_,rfl,h⟩
 |bk e=>exact⟨_,_,rfl,h⟩
 |ct e=>exact⟨_,_,rfl,h⟩
theorem Wp.fY {g:D->Env->Option Env} {b:Env->ae->Res Fl} {Q:Fl->ae->Prop} (I:Nat->Env->ae->Prop) (all:List D) (h0:I 0 env s)
  (step:∀i d env s,all[i]?=some d->I i env s->∃aC,g d env=some aC/\Wp (b aC s) λfl s=>match fl with
   | .nx e=>I (i+1) e s
   | .ct e=>I (i+1) e s
   | .bk e=>Q (.nx e) s
   | .rt d=>Q (.rt d) s) (fin:∀env s,I all.length env s->Q (.nx env) s):Wp (kf g b all env s) Q:=by
 have key:∀(ds:List D) (i:Nat) (env:Env) (s:ae),all.drop i=ds->i<=all.length->I i env s->Wp (kf g b ds env s) Q:=by
  intro ds
  induction ds with
  |nil =>
   intro i env s hd hi h;have e:i=all.length:=by
    have:=congrArg List.length hd;simp at this;omega
   subst e;exact Wp.ok (fin _ _ h)
  |cons d ds ih =>
   intro i env s hd hi h;have hx:all[i]?=some d:=by
    have:=congrArg (λl=>l[0]?) hd;simpa using this
   have hV:all.drop (i+1)=ds:=by
    have:=congrArg (List.drop 1) hd;simpa [List.drop_drop] using this
   obtain⟨aC,hg,hb⟩:=step i d env s hx h;have bp:=(WO.mp hx).1;unfold kf;rw[hg];refine Wp.ar (hb.mono λfl s q=>?_)
   cases fl with
   |nx e=>exact ih (i+1) e s hV bp q
   |ct e=>exact ih (i+1) e s hV bp q
   |bk e=>exact Wp.ok q
   |rt d=>exact Wp.ok q
 exact key all 0 env s rfl (X1 _) h0
theorem rq {nt:Nat} {caps:Env} {g:D->Env->Option Env} {t:Env->ae->Res Bool} {f:Env->ae->Res D} {Q:List D->ae->Prop} (I:Nat->List D->ae->Prop) (all:List D) (h0:I 0 [] s)
  (step:∀i d acc s,all[i]?=some d->I i acc s->∃env,g d (WM nt none++caps)=some env/\Wp (t env s) λb s=>if b=true then Wp (f env s) λx s=>I (i+1) (acc++[x]) s else I (i+1) acc s)
  (fin:∀acc s,I all.length acc s->Q acc s):Wp (fx nt caps g t f all s) Q:=by
 have key:∀(ds:List D) (i:Nat) (acc:List D) (s:ae),all.drop i=ds->i<=all.length->I i acc s->Wp (fx nt caps g t f ds s) λxs s=>Q (acc++xs) s:=by
  intro ds
  induction ds with
  |nil =>
   intro i acc s hd hi h;have e:i=all.length:=by
    have:=congrArg List.length hd;simp at this;omega
   subst e;exact Wp.ok (by rw[Yb];exact fin _ _ h)
  |cons d ds ih =>
   intro i acc s hd hi h;have hx:all[i]?=some d:=by
    have:=congrArg (λl=>l[0]?) hd;simpa using this
   have hV:all.drop (i+1)=ds:=by
    have:=congrArg (List.drop 1) hd;simpa [List.drop_drop] using this
   obtain⟨aC,hg,hb⟩:=step i d acc s hx h;have bp:=(WO.mp hx).1;unfold fx;rw[hg];refine Wp.ar (Wp.ne (hb.mono λb s q=>?_))
   cases b with
   |true =>
    rw[if_pos rfl] at q |-;refine Wp.ar (Wp.ne (q.mono λx s q=>?_));refine Wp.ar ((ih (i+1) (acc++[x]) s hV bp q).mono λxs s q=>Wp.ok ?_);rw[X3] at q;exact q
   |false =>
    rw[if_neg WV] at q |-;exact ih (i+1) acc s hV bp q
 have:=key all 0 [] s rfl (X1 _) h0;simpa using this
end
section
variable {α β:Type} {Q:D->ae->Prop} {QL:List D->ae->Prop} {QB:Bool->ae->Prop} {QF:Fl->ae->Prop} {QO:Option Int->ae->Prop} {env:Env} {s:ae} {f g h:Env->ae->Res D} {fa:Env->ae->Res (List D)} {c c':Env->ae->Res Bool} {st dI:Env->ae->Res Fl} {o o':D->D->ae->Res D} {u:D->ae->Res D} {bf:List D->ae->Res D}
theorem wp_ok {a:α} {Q:α->ae->Prop}:Wp (ok a s) Q=Q a s:=propext ⟨λ⟨b,s',e,q⟩=>by cases e;exact q,λq=>⟨a,s,rfl,q⟩⟩
theorem wp_ok' {a:α} {Q:α->ae->Prop}:Wp (some (Except.ok a,s)) Q=Q a s:=wp_ok
theorem bh {r:Res α} {k:α->ae->Res β} {R:β->ae->Prop}:Wp (ar r k) R=Wp r λa s=>Wp (k a s) R:=propext ⟨λ⟨b,s',e,q⟩=>by
 obtain⟨a,s,e1,e2⟩:=pG e;exact⟨a,s,e1,b,s',e2,q⟩,λh=>Wp.ar h⟩
theorem wp_ne {r:Res α} {Q:α->ae->Prop}:Wp (ne r) Q=Wp r Q:=propext ⟨λ⟨b,s',e,q⟩=>⟨b,s',yB e,q⟩,λh=>h.ne⟩
theorem wp_loc0 {a:D} {r:Env}:Wp (aa 0 (some a::r) s) Q=Q a s:=by rw[show aa 0 (some a::r) s=ok a s from rfl,wp_ok]
theorem wp_locS {i:Nat} {a:Option D} {r:Env}:Wp (aa (i+1) (a::r) s) Q=Wp (aa i r s) Q:=by rw[show aa (i+1) (a::r) s=aa i r s from rfl]
theorem wp_C {d:D}:Wp (eC d env s) Q=Q d s:=by rw[show eC d env s=ok d s from rfl,wp_ok]
theorem wp_e1:Wp (e1 u f env s) Q=Wp (f env s) λx s=>Wp (u x s) Q:=by unfold e1;rw[bh]
theorem wp_e2:Wp (e2 o f g env s) Q=Wp (f env s) λx s=>Wp (g env s) λy s=>Wp (o x y s) Q:=by unfold e2;simp only[bh]
theorem wp_aNil:Wp (ai env s) QL=QL [] s:=by unfold ai;rw[wp_ok]
theorem wp_aCons:Wp (af f fa env s) QL=Wp (f env s) λx s=>Wp (fa env s) λxs s=>QL (x::xs) s:=by unfold af;simp only[bh,wp_ok]
theorem wp_eB:Wp (eB bf fa env s) Q=Wp (fa env s) λds s=>Wp (bf ds s) Q:=by unfold eB;rw[bh]
theorem wp_call {fn:List D->ae->Res D}:Wp (ax fn fa env s) Q=Wp (fa env s) λds s=>Wp (fn ds s) Q:=by unfold ax;simp only[bh,wp_ne]
theorem kY {ds:List D} {r:Res α} {Q:α->ae->Prop}:Wp (gp ds r) Q=(ds.length<=WX/\Wp r Q):=propext ⟨λ⟨b,s',e,q⟩=>by
 unfold gp at e;split at e
 ·exact⟨by assumption,b,s',e,q⟩
 ·(cases e),λ⟨hl,b,s',e,q⟩=>⟨b,s',by unfold gp;rw[if_pos hl];exact e,q⟩⟩
theorem wp_tup:Wp (bz fa env s) Q=Wp (fa env s) λds s=>ds.length<=WX/\Q (.tup ds) s:=by unfold bz;simp only[bh,kY,wp_ok]
theorem wp_lst:Wp (fB fa env s) Q=Wp (fa env s) λds s=>ds.length<=WX/\Q (.lst ds) s:=by unfold fB;simp only[bh,kY,wp_ok]
theorem wp_new:Wp (eNew fa env s) Q=Wp (fa env s) λds s=>ds.length<=WX/\Q (.aj s.length) (s++[.lst ds]):=by unfold eNew;simp only[bh,kY,wp_ok]
theorem wp_frz:Wp (jn f env s) Q=Wp (f env s) λd s=>Wp (cL d s) Q:=by unfold jn;rw[bh]
theorem wp_tBl:Wp (aF f env s) QB=Wp (f env s) λd s=>Wp (fU d s) QB:=by unfold aF;rw[bh]
theorem wp_isBl {b:Bool}:Wp (fU (.bl b) s) QB=QB b s:=by rw[show fU (.bl b) s=ok b s from rfl,wp_ok]
theorem wp_tru:Wp (cu f env s) QB=Wp (f env s) λd s=>Wp (truth d s) QB:=by unfold cu;rw[bh]
theorem wp_truB {b:Bool}:Wp (truth (.bl b) s) QB=QB b s:=by rw[show truth (.bl b) s=ok b s from rfl,wp_ok]
theorem wp_tAnd:Wp (cx c c' env s) QB=Wp (c env s) λb s=>if b=true then Wp (c' env s) QB else QB false s:=by
 unfold cx;rw[bh];congr 1;funext b s
 cases b<;>simp[wp_ok]
theorem wp_tOr:Wp (gS c c' env s) QB=Wp (c env s) λb s=>if b=true then QB true s else Wp (c' env s) QB:=by
 unfold gS;rw[bh];congr 1;funext b s
 cases b<;>simp[wp_ok]
theorem wp_tNot:Wp (dF c env s) QB=Wp (c env s) λb s=>QB (!b) s:=by unfold dF;simp only[bh,wp_ok]
theorem wp_eAnd:Wp (cZ f g env s) Q=Wp (f env s) λx s=>Wp (fU x s) λb s=>if b=true then Wp (g env s) Q else Q (.bl false) s:=by
 unfold cZ;rw[bh];congr 1;funext x s;rw[bh];congr 1;funext b s
 cases b<;>simp[wp_ok]
theorem wp_eOr:Wp (kE f g env s) Q=Wp (f env s) λx s=>Wp (fU x s) λb s=>if b=true then Q (.bl true) s else Wp (g env s) Q:=by
 unfold kE;rw[bh];congr 1;funext x s;rw[bh];congr 1;funext b s
 cases b<;>simp[wp_ok]
theorem wp_eNot:Wp (nS f env s) Q=Wp (f env s) λx s=>Wp (fU x s) λb s=>Q (.bl (!b)) s:=by unfold nS;simp only[bh,wp_ok]
theorem wp_eIf:Wp (wX c f g env s) Q=Wp (c env s) λb s=>if b=true then Wp (f env s) Q else Wp (g env s) Q:=by
 unfold wX;rw[bh];congr 1;funext b s
 cases b<;>simp
theorem wp_eCh:Wp (tG o o' f g h env s) Q=Wp (f env s) λx s=>Wp (g env s) λy s=>Wp (o x y s) λz s=>Wp (fU z s) λb s=>if b=true then Wp (h env s) λu s=>Wp (o' y u s) Q else Q (.bl false) s:=by
 unfold tG;simp only[bh];congr 1;funext x s;congr 1;funext y s;congr 1;funext z s;congr 1;funext b s
 cases b<;>simp[wp_ok,bh]
theorem wp_sNil:Wp (bL env s) QF=QF (.nx env) s:=by unfold bL;rw[wp_ok]
theorem wp_sRet:Wp (aP f env s) QF=Wp (f env s) λd s=>QF (.rt d) s:=by unfold aP;simp only[bh,wp_ok]
theorem wp_sExpr:Wp (cP f env s) QF=Wp (f env s) λ_ s=>QF (.nx env) s:=by unfold cP;simp only[bh,wp_ok]
theorem wp_sCont:Wp (rQ env s) QF=QF (.ct env) s:=by unfold rQ;rw[wp_ok]
noncomputable def oS (st:Env->ae->Res Fl) (Q:Fl->ae->Prop):Fl->ae->Prop:=λfl s=>match fl with
 | .nx env=>Wp (st env s) Q
 |fl=>Q fl s
theorem wp_sSeq:Wp (ay st dI env s) QF=Wp (st env s) (oS dI QF):=propext ⟨λh=>by
 unfold ay at h;rw[bh] at h;refine h.mono λfl s q=>?_
 cases fl with
 |nx e=>exact q
 |rt d=>have q:Wp (ok (Fl.rt d) s) QF:=q;rw[wp_ok] at q;exact q
 |bk d=>have q:Wp (ok (Fl.bk d) s) QF:=q;rw[wp_ok] at q;exact q
 |ct d=>have q:Wp (ok (Fl.ct d) s) QF:=q;rw[wp_ok] at q;exact q,λh=>Wp.seq (h.mono λfl s q=>by cases fl<;>exact q)⟩
theorem Wp.step (h:∀R,R=dI->Wp (st env s) (oS R QF)):Wp (ay st dI env s) QF:=by rw[wp_sSeq];exact h _ rfl
theorem aft_nx:oS st QF (.nx env) s=Wp (st env s) QF:=rfl
theorem aft_rt {d:D}:oS st QF (.rt d) s=QF (.rt d) s:=rfl
theorem aft_ct:oS st QF (.ct env) s=QF (.ct env) s:=rfl
theorem wp_sIf:Wp (bA c st dI env s) QF=Wp (c env s) λb s=>if b=true then Wp (st env s) QF else Wp (dI env s) QF:=by
 unfold bA;rw[bh];congr 1;funext b s
 cases b<;>simp
theorem wp_sAsg {gd:D->Env->Option Env}:Wp (aN f gd env s) QF=Wp (f env s) λd s=>∃e,gd d env=some e/\QF (.nx e) s:=by
 unfold aN;rw[bh];congr 1;funext d s
 cases h:gd d env with
 |none=>exact propext ⟨λ⟨_,_,e,_⟩=>(by cases e),λ⟨_,e,_⟩=>(by cases e)⟩
 |some e=>rw[wp_ok];exact propext ⟨λq=>⟨e,rfl,q⟩,λ⟨e',z,q⟩=>by cases z;exact q⟩
theorem asg_N {i:Nat} {d:D} {P:Env->Prop}:(∃e,gN i d env=some e/\P e)=P (env.set i (some d)):=propext ⟨λ⟨e,z,q⟩=>by cases z;exact q,λq=>⟨_,rfl,q⟩⟩
theorem asg_T {gs:List (D->Env->Option Env)} {ds:List D} {P:Env->Prop}:(∃e,gT gs (.tup ds) env=some e/\P e)=∃e,gO gs ds env=some e/\P e:=rfl
theorem asg_nil {P:Env->Prop}:(∃e,gO [] [] env=some e/\P e)=P env:=propext ⟨λ⟨e,z,q⟩=>by cases z;exact q,λq=>⟨_,rfl,q⟩⟩
theorem asg_cons {i:Nat} {gs:List (D->Env->Option Env)} {d:D} {ds:List D} {P:Env->Prop}:(∃e,gO (gN i::gs) (d::ds) env=some e/\P e)=∃e,gO gs ds (env.set i (some d))=some e/\P e:=rfl
theorem wp_par2 {i j:Nat}:Wp (sk i j fa env s) QF=Wp (fa env s) λds s=>∃x y,ds=[x,y]/\QF (.nx ((env.set i (some x)).set j (some y))) s:=by
 unfold sk;rw[bh];congr 1;funext ds s
 match ds with
 | [x,y] =>
  show Wp (ok (Fl.nx ((env.set i (some x)).set j (some y))) s) QF=_;rw[wp_ok];exact propext ⟨λq=>⟨x,y,rfl,q⟩,λ⟨x',y',e,q⟩=>by cases e;exact q⟩
 | []=>exact propext ⟨λ⟨_,_,e,_⟩=>(by cases e),λ⟨_,_,e,_⟩=>(by cases e)⟩
 | [_]=>exact propext ⟨λ⟨_,_,e,_⟩=>(by cases e),λ⟨_,_,e,_⟩=>(by cases e)⟩
 |_::_::_::_=>exact propext ⟨λ⟨_,_,e,_⟩=>(by cases e),λ⟨_,_,e,_⟩=>(by cases e)⟩
theorem par_of {x y:D} {P:D->D->Prop}:(∃x' y',[x,y]=[x',y']/\P x' y')=P x y:=propext ⟨λ⟨_,_,e,q⟩=>by cases e;exact q,λq=>⟨x,y,rfl,q⟩⟩
theorem wp_sFor {it:Env->ae->Res (List D)} {gd:D->Env->Option Env}:Wp (cJ it gd st env s) QF=Wp (it env s) λds s=>Wp (kf gd st ds env s) QF:=by unfold cJ;rw[bh]
theorem wp_sSub {fo fi:Env->ae->Res D}:Wp (gy f fo fi env s) QF=Wp (f env s) λx s=>Wp (fo env s) λd s=>Wp (fi env s) λn s=>∃s',gw d n x s=some s'/\QF (.nx env) s':=by
 unfold gy;simp only[bh];congr 1;funext x s;congr 1;funext d s;congr 1;funext n s
 cases h:gw d n x s with
 |none=>exact propext ⟨λ⟨_,_,e,_⟩=>(by cases e),λ⟨_,e,_⟩=>(by cases e)⟩
 |some e=>simp only[wp_ok];exact propext ⟨λq=>⟨e,rfl,q⟩,λ⟨e',z,q⟩=>by cases z;exact q⟩
theorem wp_app:Wp (eJ f g env s) Q=Wp (f env s) λd s=>gv d s=true/\Wp (g env s) λx s=>Wp (fW d x s) Q:=by
 unfold eJ;rw[bh];congr 1;funext d s
 cases h:gv d s with
 |true=>rw[if_pos rfl,bh];simp
 |false=>rw[if_neg WV];exact propext ⟨λ⟨_,_,e,_⟩=>(by cases e),λ⟨e,_⟩=>(by cases e)⟩
noncomputable def sv (Q:D->ae->Prop):Fl->ae->Prop:=λfl s=>match fl with
 | .rt d=>Q d s
 | .nx _=>Q .aB s
 |_=>False
theorem wp_fn {np ns:Nat} {ds:List D}:Wp (bc np ns st ds s) Q=(ds.length=np/\Wp (st (ds.map some++WM (ns-np) none) s) (sv Q)):=by
 unfold bc;by_cases h:ds.length=np
 ·rw[if_pos h,bh]
  refine propext ⟨λq=>⟨h,q.mono λfl s q=>?_⟩,λ⟨_,q⟩=>q.mono λfl s q=>?_⟩
  ·cases fl with
   |rt d=>exact(show Wp (ok d s) Q from q) |> λz=>by rw[wp_ok] at z;exact z
   |nx e=>exact(show Wp (ok D.aB s) Q from q) |> λz=>by rw[wp_ok] at z;exact z
   |bk e=>obtain⟨_,_,e,_⟩:=q;cases e
   |ct e=>obtain⟨_,_,e,_⟩:=q;cases e
  ·cases fl with
   |rt d=>exact Wp.ok q
   |nx e=>exact Wp.ok q
   |bk e=>exact q.elim
   |ct e=>exact q.elim
 ·rw[if_neg h]
  exact propext ⟨λ⟨_,_,e,_⟩=>(by cases e),λ⟨e,_⟩=>absurd e h⟩
theorem fin_rt {d:D}:sv Q (.rt d) s=Q d s:=rfl
theorem fin_nx:sv Q (.nx env) s=Q .aB s:=rfl
theorem wp_comp {nt:Nat} {cap:List Nat} {it:Env->ae->Res (List D)} {gd:D->Env->Option Env}:Wp (aV nt cap it gd c f env s) Q=Wp (it env s) λds s=>ds.length<=WX/\Wp (fx nt (dE cap env) gd c f ds s) λxs s=>Q (.lst xs) s:=by
 unfold aV;simp only[bh,kY,wp_ok]
theorem wp_sl {l' h':Env->ae->Res (Option Int)}:Wp (oG f l' h' env s) Q=Wp (f env s) λd s=>Wp (l' env s) λlo s=>Wp (h' env s) λhi s=>Wp (nB d lo hi s) Q:=by unfold oG;simp only[bh]
theorem wp_pNo:Wp (oF env s) QO=QO none s:=by unfold oF;rw[wp_ok]
theorem yH {i:Int} (hi:f env s=ok (.int i) s):Wp (nX f env s) QO=QO (some i) s:=by unfold nX;rw[hi,fe,wp_ok]
end
end DI
namespace DI
open PySem L2
def aY (s:ae) (k:Nat):Prop:=∃a b:Int,s[k]?=some (.lst [.int a,.int b])/\0<=a/\0<=b/\b<2147483647
structure Ex (k:Nat) (s s':ae):Prop where
 len:s.length<=s'.length
 val:∀j,j<s.length->j≠k->s'[j]?=s[j]?
theorem Ex.refl (k:Nat) (s:ae):Ex k s s:=⟨Nat.le_refl _,λ_ _ _=>rfl⟩
theorem Ex.trans {k:Nat} {a b c:ae} (h:Ex k a b) (g:Ex k b c):Ex k a c:=⟨W7 h.len g.len,λj hj hk=>(g.val j (WL hj h.len) hk).trans (h.val j hj hk)⟩
theorem Ex.set (k:Nat) (s:ae) (c:Cell):Ex k s (s.set k c):=⟨by simp,λj _ hj=>Xa (Zx hj)⟩
theorem Ex.app (k:Nat) (s:ae) (c:List Cell):Ex k s (s++c):=⟨by simp,λj hj _=>W0 hj⟩
theorem aY.lt {s:ae} {k:Nat} (h:aY s k):k<s.length:=by
 obtain⟨a,b,e,_⟩:=h;exact(WO.mp e).1
theorem aY.app {s:ae} {k:Nat} (h:aY s k) (c:List Cell):aY (s++c) k:=by
 obtain⟨a,b,e,r⟩:=h;exact⟨a,b,by rw[W0 (WO.mp e).1];exact e,r⟩
theorem aY.set {s:ae} {k j:Nat} (h:aY s k) (hj:j≠k) (c:Cell):aY (s.set j c) k:=by
 obtain⟨a,b,e,r⟩:=h;exact⟨a,b,by rw[Xa hj];exact e,r⟩
theorem Bw (x y:D) (k:Nat) (s:ae) (h:s[k]?=some (.lst [x,y])):ao (.aj k) (.int 0) s=ok x s:=by
 simp[ao,gU,res,h,dJ,fm,bI]
theorem Bx (x y:D) (k:Nat) (s:ae) (h:s[k]?=some (.lst [x,y])):ao (.aj k) (.int 1) s=ok y s:=by
 simp[ao,gU,res,h,dJ,fm,bI]
theorem Ig (x y z:D) (k:Nat) (s:ae) (h:s[k]?=some (.lst [x,y])):gw (.aj k) (.int 0) z s=some (s.set k (.lst [z,y])):=by
 simp[gw,h,fm]
theorem Ih (x y z:D) (k:Nat) (s:ae) (h:s[k]?=some (.lst [x,y])):gw (.aj k) (.int 1) z s=some (s.set k (.lst [x,z])):=by
 simp[gw,h,fm]
@[simp] theorem pZ {a:D} {r:Env} {s:ae}:aa 0 (some a::r) s=ok a s:=rfl
@[simp] theorem p6 {i:Nat} {a:Option D} {r:Env} {s:ae}:aa (i+1) (a::r) s=aa i r s:=rfl
theorem ltI (i j:Int) (s:ae):kq (.int i) (.int j) s=ok (.bl (decide (i<j))) s:=rfl
theorem By (i j:Int) (s:ae):sg (.int i) (.int j) s=ok (.bl (decide (j<i))) s:=rfl
theorem Va (i j:Int) (s:ae):wB (.int i) (.int j) s=ok (.bl (decide (j<=i))) s:=rfl
theorem Vb (i j:Int) (s:ae):sf (.int i) (.int j) s=ok (.bl (decide (i<=j))) s:=rfl
theorem As (i j:Int) (s:ae):cj (.int i) (.int j) s=ok (.int (i+j)) s:=rfl
theorem Ii (i j:Int) (s:ae):nH (.int i) (.int j) s=ok (.int (i-j)) s:=rfl
theorem Jk (i j:Int) (s:ae):aS (.int i) (.int j) s=ok (.bl (i==j)) s:=rfl
theorem Vc (i j:Int) (s:ae):fE (.int i) (.int j) s=ok (.bl (!(i==j))) s:=rfl
theorem qu {i j:Int} (s:ae) (h:0<j):lF (.int i) (.int j) s=ok (.int (i % j)) s:=by
 simp[lF,Al,h,bI]
theorem Ij {i j:Int} (s:ae) (h:0<j) (h2:j<1073741824):rS (.int i) (.int j) s=ok (.int (i / j)) s:=by
 simp[rS,Am,h,h2,bI]
theorem sx {i j:Int} (s:ae) (h:rR i j=true):iQ (.int i) (.int j) s=ok (.int (i*j)) s:=by
 simp[iQ,Ak,h,bI]
theorem mulOk_of {i j:Int} (h1:-(2 ^ 64)<i) (h2:i<2 ^ 64):rR i j=true:=by
 unfold rR;rw[decide_eq_true h1,decide_eq_true h2];rfl
theorem dA {s:ae} {k:Nat} {m:Int} (h:aY s k) (h1:0<m) (h2:m<1073741824):Wp (bj [.aj k,.int m] s) λd s'=>∃r:Int,d=.int r/\0<=r/\r<m/\aY s' k/\Ex k s s':=by
 obtain⟨a,b,e,ha,hb,oP⟩:=h;have hk:=(WO.mp e).1;by_cases h0:0<a
 ·have es:(s.set k (.lst [.int (a / m),.int b]))[k]?=some (.lst [.int (a / m),.int b]):=Xc hk
  refine⟨.int (a % m),s.set k (.lst [.int (a / m),.int b]),?_,a % m,rfl,aae _ (by omega),Zv _ h1,⟨a / m,b,es,Int.ediv_nonneg ha (by omega),hb,oP⟩,Ex.set _ _ _⟩;simp only[bj,bc,ay,bA,aF,e2,pZ,p6,eC,fe,W4,XT,Xn,XG,Bw _ _ k s e,By,fU,W5,W9,decide_eq_true h0,if_true,aN,gN,qu s h1,gy,Ij s h1 h2,Ig _ _ _ k s e,aP,WY,WZ,WM]
 ·have hn:decide (0<a)=false:=decide_eq_false h0
  have ex:0<=(b*48271+29) % 2147483647/\(b*48271+29) % 2147483647<2147483647:=⟨aae _ (by decide),Zv _ (by decide)⟩;generalize hx:(b*48271+29) % 2147483647=x at ex;have es:(s.set k (.lst [.int a,.int x]))[k]?=some (.lst [.int a,.int x]):=Xc hk;generalize hy:(x*x+39373*x+7) % 2147483629=y;have ey:0<=y/\y<2147483629:=by rw[<- hy];exact⟨aae _ (by decide),Zv _ (by decide)⟩
  generalize hz:(y*y+16807*y) % 2147483587=z;refine⟨.int (z / 8 % m),s.set k (.lst [.int a,.int x]),?_,_,rfl,aae _ (by omega),Zv _ h1,⟨a,x,es,ha,ex.1,ex.2⟩,Ex.set _ _ _⟩;have m1:iQ (.int b) (.int 48271) s=ok (.int (b*48271)) s:=sx s (mulOk_of (by omega) (by omega));have m2:∀s',iQ (.int x) (.int x) s'=ok (.int (x*x)) s':=λs'=>sx s' (mulOk_of (by omega) (by omega));have m3:∀s',iQ (.int 39373) (.int x) s'=ok (.int (39373*x)) s':=λs'=>sx s' (mulOk_of (by decide) (by decide));have m4:∀s',iQ (.int y) (.int y) s'=ok (.int (y*y)) s':=λs'=>sx s' (mulOk_of (by omega) (by omega));have m5:∀s',iQ (.int 16807) (.int y) s'=ok (.int (16807*y)) s':=λs'=>sx s' (mulOk_of (by decide) (by decide));simp only[bj,bc,ay,bA,aF,e2,pZ,p6,eC,fe,W4,XT,Xn,XG,Bw _ _ k s e,Bx _ _ k s e,By,fU,W5,W9,hn,WH,if_false,if_true,bL,gy,m1,As,qu _ (show (0:Int)<2147483647 by decide),hx,Ih _ _ _ k s e,aN,gN,Bx _ _ k _ es,m2,m3,
   qu _ (show (0:Int)<2147483629 by decide),hy,WY,WZ,WM,m4,m5,qu _ (show (0:Int)<2147483587 by decide),hz,aP,Ij _ (show (0:Int)<8 by decide) (by decide),qu _ h1]
theorem le_size {n:Nat} (h:n<=1000000):n<=WX:=W7 h (by decide)
theorem yg {j:Int} (h1:-1000000<=j) (h2:j<=1000000):jj j=true:=by
 unfold jj;rw[decide_eq_true (show -(2 ^ 62)<=j by omega),decide_eq_true (show j<2 ^ 62 by omega)];rfl
theorem NB {α:Type} {ds:List D} {r:Res α} (h:ds.length<=1000000):gp ds r=r:=if_pos (le_size h)
theorem FP {α β:Type} (f:α->β) (xs:List α) (i:Int):dJ (xs.map f) i=(dJ xs i).map f:=by
 unfold dJ;rw[WJ]
 cases fm xs.length i with
 |none=>rfl
 |some j=>simp
theorem mi {α:Type} {xs:List α} {i:Int} (h0:0<=i) (h1:i<xs.length):∃x,dJ xs i=some x/\xs[i.toNat]?=some x:=by
 have hj:i.toNat<xs.length:=by omega
 refine⟨xs[i.toNat],?_,WQ hj⟩;unfold dJ fm;rw[if_pos h0,if_pos h1];exact WQ hj
theorem OW {ns:List Int} {i:Int} {s:ae} (h0:0<=i):∃c:Int,qT [.bQ ns,.int i] s=ok (.int c) s:=by
 by_cases h:i<(ns.length:Int)
 ·obtain⟨x,h1,_⟩:=mi h0 h
  refine⟨x,?_⟩;have hx:ao (.bQ ns) (.int i) s=ok (.int x) s:=by simp[ao,gU,res,h1,bI]
  simp only[qT,bc,ay,bA,aF,e2,eB,af,ai,dY,si,res,bI,pZ,p6,eC,fe,W4,XT,Xn,XG,W5,W9,if_true,ltI,fU,decide_eq_true h,aP,hx,WM]
 ·refine⟨0,?_⟩
  simp only[qT,bc,ay,bA,aF,e2,eB,af,ai,dY,si,res,bI,pZ,p6,eC,fe,W4,XT,Xn,XG,W5,W9,if_true,ltI,fU,decide_eq_false h,WH,if_false,bL,aP,WM]
theorem NC {ns:List Int} {i:Int} {s:ae} (h0:0<=i):Wp (uW [.bQ ns,.int i] s) λd s'=>d=.aj s.length/\aY s' s.length/\∃c,s'=s++[c]:=by
 obtain⟨c,hc⟩:=OW (ns:=ns) (s:=s) h0;have hp:∀s,vW (.int 10) (.int 18) s=ok (.int (10 ^ 18)) s:=λs=>by
  have e:An (.int 10) (.int 18)=some (.int (10 ^ 18)):=by
   show (if (decide ((0:Int)<=18)&&decide ((18:Int)<=1000000)&&decide ((10:Int).natAbs<2 ^ 64))=true then some (D.int (10 ^ (18:Int).toNat)) else none)=_
   rw[if_pos (by decide)];rfl
  simp only[vW,e,bI]
 refine⟨.aj s.length,s++[.lst [.int (if c-10 ^ 18 > 0 then c-10 ^ 18 else 0),.int (c % 2147483647)]],?_,rfl,⟨_,_,by simp;exact⟨rfl,rfl⟩,?_,aae _ (by decide),Zv _ (by decide)⟩,_,rfl⟩
 ·simp only[uW,bc,ay,aN,ax,af,ai,pZ,p6,eC,fe,W4,XT,Xn,XG,W5,W9,if_true,hc,kg,gN,WY,WZ,WM,aP,eNew,eB,nI,e2,hp,Ii,qu _ (show (0:Int)<2147483647 by decide)]
  rw[NB (by simp)];rfl
 ·split<;>omega
structure cW (m:Nat) (ns:List Int):Prop where
 lo:∀x∈ns,0<=x/\x<m
 up:ns.Pairwise (· < ·)
noncomputable abbrev mD (ns:List Int):D:=.tup (ns.map D.int)
theorem cW.len {m:Nat} {ns:List Int} (h:cW m ns):ns.length<=m:=by
 have key:∀(l:List Int) (b:Int),l.Pairwise (· < ·)->(∀x∈l,b<=x/\x<m)->(l.length:Int)<=m-b\/l=[]:=by
  intro l
  induction l with
  |nil=>intro b _ _;exact .inr rfl
  |cons x l ih =>
   intro b hp hb;obtain⟨h1,h2⟩:=Xx.mp hp;have hx:=hb x WR;left
   rcases ih (x+1) h2 (λy hy=>⟨by have:=h1 y hy;omega,(hb y (WT _ hy)).2⟩) with h|h
   ·rw[W5];omega
   ·subst h
    simp;omega
 rcases key ns 0 h.up h.lo with h'|h'
 ·omega
 ·subst h';simp
theorem Mn {s1:ae} {k n:Nat} {w:Int} (h1:aY s1 k) (w0:0<=w) (w1:w<4):Wp (fx 1 (dE [0,2] [some (.aj k),some (.int n),some (.int (1+w))]) (gN 0) (aF (e2 aS (ax bj (af (aa 1) (af (e2 cj (aa 2) (eC (.int 1))) ai))) (eC (.int 0)))) (aa 0) (bV 0 n) s1)
   λxs s'=>∃ns,xs=ns.map D.int/\cW n ns/\aY s' k/\Ex k s1 s':=by
 refine rq (λi acc s'=>∃ns:List Int,acc=ns.map D.int/\cW i ns/\aY s' k/\Ex k s1 s') (bV 0 n) ⟨[],rfl,⟨by simp,.nil⟩,h1,Ex.refl _ _⟩ (λi d acc s' hd hI=>?_) λacc s' hI=>?_
 ·obtain⟨ns,rfl,hm,h2,x2⟩:=hI
  rw[fP] at hd;split at hd
  ·cases hd
   refine⟨[some (.int (0+i)),some (.aj k),some (.int (1+w))],rfl,?_⟩;have ht:=dA h2 (m:=1+w+1) (by omega) (by omega);obtain⟨d,s3,e3,r,rfl,r0,r1,h3,x3⟩:=ht;have hb:aF (e2 aS (ax bj (af (aa 1) (af (e2 cj (aa 2) (eC (.int 1))) ai))) (eC (.int 0))) [some (.int (0+(i:Int))),some (.aj k),some (.int (1+w))] s'=ok (r==0) s3:=by
    simp only[aF,e2,ax,af,ai,pZ,p6,eC,fe,As,e3,kg,Jk,fU]
   refine Wp.of hb ?_;split
   ·refine Wp.ok ⟨ns++[0+(i:Int)],by simp,⟨λx hx=>?_,?_⟩,h3,x2.trans x3⟩
    ·rcases XX.mp hx with hx|hx
     ·have:=hm.lo x hx;omega
     ·rw[Yk.mp hx];omega
    ·refine aaN.mpr ⟨hm.up,by simp,λx hx y hy=>?_⟩
     rw[Yk.mp hy];have:=hm.lo x hx;omega
   ·exact⟨ns,rfl,⟨λx hx=>by have:=hm.lo x hx;omega,hm.up⟩,h3,x2.trans x3⟩
  ·cases hd
 ·rw[cX] at hI
  exact hI
theorem eR {fa:Env->ae->Res (List D)} {env:Env} {s s1:ae} {n:Nat} (h:fa env s=ok [.int n] s1) (hn:n<=1000000):bM fa env s=ok (bV 0 n) s1:=by
 unfold bM;rw[h,fe]
 show (if jj (n:Int)=true then ok (bV 0 (n:Int).toNat) s1 else none)=_
 rw[if_pos (yg (by omega) (by omega)),Xm]
theorem vw {fa:Env->ae->Res (List D)} {env:Env} {s s1:ae} {n:Nat} {i:Int} (h:fa env s=ok [.int i] s1) (hi:i=n) (hn:n<=1000000):bM fa env s=ok (bV 0 n) s1:=by
 subst hi;exact eR h hn
theorem G1 {fa:Env->ae->Res (List D)} {env:Env} {s s1:ae} {i j:Int} (h:fa env s=ok [.int i,.int j] s1) (h1:-1000000<=i) (h2:i<=1000000) (h3:-1000000<=j) (h4:j<=1000000):tK fa env s=ok (bV i (j-i).toNat) s1:=by
 unfold tK;rw[h,fe]
 show (if (jj i&&jj j)=true then ok (bV i (j-i).toNat) s1 else none)=_
 rw[if_pos (by rw[yg h1 h2,yg h3 h4];rfl)]
theorem wp_ltI {i j:Int} {s:ae} {Q:D->ae->Prop}:Wp (kq (.int i) (.int j) s) Q=Q (.bl (decide (i<j))) s:=by rw[ltI,wp_ok]
theorem wp_gtI {i j:Int} {s:ae} {Q:D->ae->Prop}:Wp (sg (.int i) (.int j) s) Q=Q (.bl (decide (j<i))) s:=by rw[By,wp_ok]
theorem wp_geI {i j:Int} {s:ae} {Q:D->ae->Prop}:Wp (wB (.int i) (.int j) s) Q=Q (.bl (decide (j<=i))) s:=by rw[Va,wp_ok]
theorem wp_leI {i j:Int} {s:ae} {Q:D->ae->Prop}:Wp (sf (.int i) (.int j) s) Q=Q (.bl (decide (i<=j))) s:=by rw[Vb,wp_ok]
theorem wp_addI {i j:Int} {s:ae} {Q:D->ae->Prop}:Wp (cj (.int i) (.int j) s) Q=Q (.int (i+j)) s:=by rw[As,wp_ok]
theorem wp_subI {i j:Int} {s:ae} {Q:D->ae->Prop}:Wp (nH (.int i) (.int j) s) Q=Q (.int (i-j)) s:=by rw[Ii,wp_ok]
theorem wp_eqI {i j:Int} {s:ae} {Q:D->ae->Prop}:Wp (aS (.int i) (.int j) s) Q=Q (.bl (i==j)) s:=by rw[Jk,wp_ok]
theorem wp_neI {i j:Int} {s:ae} {Q:D->ae->Prop}:Wp (fE (.int i) (.int j) s) Q=Q (.bl (!(i==j))) s:=by rw[Vc,wp_ok]
theorem rj {s:ae} {k n:Nat} (h:aY s k) (hn:n<=8):Wp (jz [.aj k,.int n] s) λd s'=>∃ns,d=mD ns/\cW n ns/\aY s' k/\Ex k s s':=by
 unfold jz;simp only[wp_ok,wp_ok',wp_ne,wp_loc0,wp_locS,wp_C,wp_e1,wp_e2,wp_aNil,wp_aCons,wp_eB,wp_call,wp_tup,wp_lst,wp_new,wp_frz,wp_tBl,wp_isBl,wp_tru,wp_truB,wp_tAnd,wp_tOr,wp_tNot,wp_eAnd,wp_eOr,wp_eNot,wp_eIf,wp_eCh,wp_sNil,wp_sRet,wp_sExpr,wp_sCont,wp_sSeq,aft_nx,aft_rt,aft_ct,wp_sIf,wp_sAsg,asg_N,asg_T,asg_nil,asg_cons,wp_par2,par_of,wp_sFor,wp_sSub,wp_app,wp_fn,fin_rt,fin_nx,wp_comp,wp_sl,wp_pNo,W4,XT,Xn,XG,W5,W9,WY,WZ,WM,true_and,Nat.reduceSub,Nat.reduceAdd,wp_ltI,wp_gtI,wp_geI,wp_leI,wp_addI,wp_subI,wp_eqI,wp_neI];refine(dA h (by decide) (by decide)).mono λd s1 hd=>?_;obtain⟨w,rfl,w0,w1,h1,x1⟩:=hd;simp only[wp_ok,wp_ok',wp_ne,wp_loc0,wp_locS,wp_C,wp_e1,wp_e2,wp_aNil,wp_aCons,wp_eB,wp_call,wp_tup,wp_lst,wp_new,wp_frz,wp_tBl,wp_isBl,wp_tru,wp_truB,wp_tAnd,wp_tOr,wp_tNot,wp_eAnd,wp_eOr,wp_eNot,wp_eIf,wp_eCh,wp_sNil,wp_sRet,wp_sExpr,wp_sCont,wp_sSeq,aft_nx,aft_rt,aft_ct,wp_sIf,wp_sAsg,asg_N,asg_T,asg_nil,asg_cons,wp_par2,par_of,wp_sFor,wp_sSub,wp_app,wp_fn,fin_rt,fin_nx,wp_comp,wp_sl,wp_pNo,W4,XT,Xn,XG,W5,W9,WY,WZ,WM,true_and,Nat.reduceSub,Nat.reduceAdd,wp_ltI,wp_gtI,wp_geI,wp_leI,wp_addI,wp_subI,wp_eqI,wp_neI];refine Wp.of (eR rfl (by omega)) ⟨by rw[cX];exact le_size (by omega),(Mn h1 w0 w1).mono λxs s2 hx=>?_⟩;obtain⟨ns,rfl,hm,h2,x2⟩:=hx;exact Wp.of rfl ⟨ns,rfl,hm,h2,x1.trans x2⟩
end DI
local macro_rules | `(tactic| simp only[VC])=>`(tactic| simp only[DI.wp_ok,DI.wp_ok',DI.wp_ne,DI.wp_loc0,DI.wp_locS,DI.wp_C,DI.wp_e1,DI.wp_e2,DI.wp_aNil,DI.wp_aCons,DI.wp_eB,DI.wp_call,DI.wp_tup,DI.wp_lst,DI.wp_new,DI.wp_frz,DI.wp_tBl,DI.wp_isBl,DI.wp_tru,DI.wp_truB,DI.wp_tAnd,DI.wp_tOr,DI.wp_tNot,DI.wp_eAnd,DI.wp_eOr,DI.wp_eNot,DI.wp_eIf,DI.wp_eCh,DI.wp_sNil,DI.wp_sRet,DI.wp_sExpr,DI.wp_sCont,DI.wp_sSeq,DI.aft_nx,DI.aft_rt,DI.aft_ct,DI.wp_sIf,DI.wp_sAsg,DI.asg_N,DI.asg_T,DI.asg_nil,DI.asg_cons,DI.wp_par2,DI.par_of,DI.wp_sFor,DI.wp_sSub,DI.wp_app,DI.wp_fn,DI.fin_rt,DI.fin_nx,DI.wp_comp,DI.wp_sl,DI.wp_pNo,List.map_cons,List.map_nil,List.cons_append,List.nil_append,List.length_cons,List.length_nil,List.set_cons_succ,List.set_cons_zero,List.replicate,true_and,Nat.reduceSub,Nat.reduceAdd,DI.wp_ltI,DI.wp_gtI,DI.wp_geI,DI.wp_leI,DI.wp_addI,DI.wp_subI,DI.wp_eqI,DI.wp_neI])
local macro_rules | `(tactic| simp only[VC,$xs,*])=>`(tactic| simp only[DI.wp_ok,DI.wp_ok',DI.wp_ne,DI.wp_loc0,DI.wp_locS,DI.wp_C,DI.wp_e1,DI.wp_e2,DI.wp_aNil,DI.wp_aCons,DI.wp_eB,DI.wp_call,DI.wp_tup,DI.wp_lst,DI.wp_new,DI.wp_frz,DI.wp_tBl,DI.wp_isBl,DI.wp_tru,DI.wp_truB,DI.wp_tAnd,DI.wp_tOr,DI.wp_tNot,DI.wp_eAnd,DI.wp_eOr,DI.wp_eNot,DI.wp_eIf,DI.wp_eCh,DI.wp_sNil,DI.wp_sRet,DI.wp_sExpr,DI.wp_sCont,DI.wp_sSeq,DI.aft_nx,DI.aft_rt,DI.aft_ct,DI.wp_sIf,DI.wp_sAsg,DI.asg_N,DI.asg_T,DI.asg_nil,DI.asg_cons,DI.wp_par2,DI.par_of,DI.wp_sFor,DI.wp_sSub,DI.wp_app,DI.wp_fn,DI.fin_rt,DI.fin_nx,DI.wp_comp,DI.wp_sl,DI.wp_pNo,List.map_cons,List.map_nil,List.cons_append,List.nil_append,List.length_cons,List.length_nil,List.set_cons_succ,List.set_cons_zero,List.replicate,true_and,Nat.reduceSub,Nat.reduceAdd,DI.wp_ltI,DI.wp_gtI,DI.wp_geI,DI.wp_leI,DI.wp_addI,DI.wp_subI,DI.wp_eqI,DI.wp_neI,$xs,*])
namespace DI
open PySem L2
theorem Wp.eq {α:Type} {r:Res α} {d:α} {s:ae} (h:Wp r λa s'=>a=d/\s'=s):r=DI.ok d s:=by
 obtain⟨a,s',e,rfl,rfl⟩:=h;exact e
theorem je {f:Env->ae->Res D} {env:Env} {s s1:ae} {ds:List D} (h:f env s=ok (.tup ds) s1):aU f env s=ok ds s1:=by
 unfold aU;rw[h];rfl
theorem jf {f:Env->ae->Res D} {env:Env} {s s1:ae} {ds:List D} (h:f env s=ok (.lst ds) s1):aU f env s=ok ds s1:=by
 unfold aU;rw[h];rfl
theorem xP:∀(ns:List Int),cK (ns.map D.int)=true
 | []=>rfl
 |n::ns=>by simp only[W4,cK,lay,xP ns,Yl]
theorem FQ (x:Int) (ns:List Int):((ns.map D.int).any λy=>beq y (.int x))=decide (x∈ns):=by
 induction ns with
 |nil=>simp
 |cons n ns ih =>
  simp only[W4,List.any_cons,ih,beq];by_cases h:n=x
  ·subst h;simp
  ·have h':¬ x=n:=λe=>h e.symm
   simp[h,h']
theorem pP {x:Int} {ns:List Int} {s:ae}:bU (.int x) (mD ns) s=ok (.bl (decide (x∈ns))) s:=by
 have hl:qe 100 (.int x) (ns.map D.int)=true:=by simp only[qe,lay,xP,dep,Yl,X1,decide_true]
 have e:inD (.int x) (ns.map D.int)=some (decide (x∈ns)):=by unfold inD;rw[if_pos hl,FQ]
 unfold bU;rw[show kh (mD ns) s=some (ns.map D.int) from rfl];simp only[e];rfl
theorem uO {x:Int} {ns:List Int} {s:ae}:cq (.int x) (mD ns) s=ok (.bl (!decide (x∈ns))) s:=by
 have hl:qe 100 (.int x) (ns.map D.int)=true:=by simp only[qe,lay,xP,dep,Yl,X1,decide_true]
 have e:inD (.int x) (ns.map D.int)=some (decide (x∈ns)):=by unfold inD;rw[if_pos hl,FQ]
 unfold cq;rw[show kh (mD ns) s=some (ns.map D.int) from rfl];simp only[e];rfl
noncomputable def sub (a b:List Int):Bool:=a.all λx=>decide (x∈b)
theorem rz {α:Type} (p:α->Bool) (xs:List α) (s:ae):mE [.lst (xs.map λx=>D.bl (p x))] s=ok (.bl (xs.all p)) s:=by
 have e:ig (xs.map λx=>D.bl (p x))=some (xs.map p):=by
  have:=OC (bs:=xs.map p);rw[Ye] at this;exact this
 show bI ((ig (xs.map λx=>D.bl (p x))).map λ(bs:List Bool)=>D.bl (bs.all id)) s=_;rw[e];show ok (D.bl ((xs.map p).all id)) s=_;rw[List.all_map];rfl
theorem filter_tt {α:Type} (xs:List α):xs.filter (λ_=>true)=xs:=by simp
theorem iu {nt:Nat} {caps:Env} {g:D->Env->Option Env} {t:Env->ae->Res Bool} {f:Env->ae->Res D} {s:ae} (p:Int->Bool) (h:Int->D) (ns:List Int) (hh:∀n∈ns,∃env,g (.int n) (WM nt none++caps)=some env/\t env s=ok (p n) s/\(p n=true->f env s=ok (h n) s)) :
  fx nt caps g t f (ns.map D.int) s=ok ((ns.filter p).map h) s:=by
 induction ns with
 |nil=>rfl
 |cons n ns ih =>
  obtain⟨env,h1,h2,h3⟩:=hh n WR;have ih:=ih λn' h'=>hh n' (WT _ h');rw[W4];unfold fx;rw[h1];simp only[h2,kg,fe]
  cases hp:p n with
  |true=>simp only[if_true,h3 hp,kg,fe,ih,X9,hp,W4]
  |false=>simp only[WH,if_false,ih,X9,hp]
theorem comp_map {α:Type} (d:α->D) {nt:Nat} {caps:Env} {g:D->Env->Option Env} {t:Env->ae->Res Bool} {f:Env->ae->Res D} {s:ae} (p:α->Bool) (h:α->D) (xs:List α) (hh:∀x∈xs,∃env,g (d x) (WM nt none++caps)=some env/\t env s=ok (p x) s/\(p x=true->f env s=ok (h x) s)) :
  fx nt caps g t f (xs.map d) s=ok ((xs.filter p).map h) s:=by
 induction xs with
 |nil=>rfl
 |cons n ns ih =>
  obtain⟨env,h1,h2,h3⟩:=hh n WR;have ih:=ih λn' h'=>hh n' (WT _ h');rw[W4];unfold fx;rw[h1];simp only[h2,kg,fe]
  cases hp:p n with
  |true=>simp only[if_true,h3 hp,kg,fe,ih,X9,hp,W4]
  |false=>simp only[WH,if_false,ih,X9,hp]
end DI
namespace DI
open PySem L2
theorem Mo {i:Int} {s:ae}:xx [.int i] s=ok (.bl (decide (0<=i))) s:=by
 rfl
theorem pE {i m:Int} {s:ae}:pA [.int i,.int m] s=ok (.bl (decide (0<=i)&&decide (i<m))) s:=by
 refine Wp.eq ?_;unfold pA;simp only[VC,Mo];by_cases h:0<=i
 ·simp[h]
 ·simp[h]
theorem FR {i:Int} {s:ae}:qY [.int i] s=ok (.bl (decide (0<=i)&&decide (i<8))) s:=by
 refine Wp.eq ?_;unfold qY;simp only[VC,pE,true_and]
theorem EW (xs:List D):cutD xs (some 1) none=xs.drop 1:=by
 unfold cutD HT.aR
 cases xs with
 |nil=>simp
 |cons x xs =>
  simp only[W5]
  have e:(if (1:Int)<0 then (1+((xs.length+1:Nat):Int)).toNat else min (1:Int).toNat (xs.length+1))=1:=by simp
  simp
noncomputable def rise:List Int->Bool
 | []=>true
 | [_]=>true
 |a::b::r=>decide (a<b)&&rise (b::r)
theorem OX {ns:List Int} (h:ns.Pairwise (· < ·)):rise ns=true:=by
 induction ns with
 |nil=>rfl
 |cons a ns ih =>
  cases ns with
  |nil=>rfl
  |cons b r =>
   obtain⟨h1,h2⟩:=Xx.mp h;simp only[rise,ih h2,ZM];exact decide_eq_true (h1 b WR)
theorem EX:∀(ns:List Int),((ns.zip (ns.drop 1)).all λp=>decide (p.1<p.2))=rise ns
 | []=>rfl
 | [_]=>rfl
 |a::b::r=>by
  have ih:=EX (b::r);simp only[List.drop_succ_cons,List.drop_zero,Yc,List.all_cons,rise] at ih |-;rw[ih]
theorem Mp (xs ys:List Int):fC (xs.map D.int) (ys.map D.int)=(xs.zip ys).map λp=>D.tup [.int p.1,.int p.2]:=by
 unfold fC;rw[List.zip_map,Ye];rfl
theorem EY {fa:Env->ae->Res (List D)} {env:Env} {s s1:ae} {xs ys:List D} (h:fa env s=ok [.tup xs,.tup ys] s1):nU fa env s=ok (fC xs ys) s1:=by
 unfold nU;rw[h];rfl
theorem Mq {ns:List Int} {s:ae} (hl:ns.length<=1000000):m7 [mD ns] s=ok (.bl (rise ns)) s:=by
 refine Wp.eq ?_;unfold m7;simp only[VC];have hz:nU (af (aa 0) (af (oG (aa 0) (nX (eC (.int 1))) oF) ai)) [some (mD ns)] s=ok (fC (ns.map D.int) ((ns.drop 1).map D.int)) s:=by
  refine EY (Wp.eq ?_);simp only[VC];rw[yH (i:=1) rfl]
  try simp only[VC]
  refine Wp.of (show nB (mD ns) (some 1) none s=ok (.tup (cutD (ns.map D.int) (some 1) none)) s from rfl) ⟨?_,rfl⟩;rw[EW,List.map_drop]
 refine Wp.of hz ⟨le_size (by rw[rb];simp only[WJ];omega),?_⟩;rw[Mp];refine Wp.of (comp_map (λp:Int×Int=>D.tup [.int p.1,.int p.2]) (λ_=>true) (λp=>.bl (decide (p.1<p.2))) _ λp _=>⟨[some (.int p.1),some (.int p.2)],rfl,rfl,λ_=>rfl⟩) ?_;rw[filter_tt];exact Wp.of (rz _ _ _) ⟨by rw[EX],rfl⟩
structure Wh (rs:List (List Int)):Prop where
 lo:1<=rs.length
 hi:rs.length<=10
 xi:∀r∈rs,cW 8 r
end DI
namespace DI
open PySem L2
theorem yI (lo:Int) (n:Nat):bV lo n=(WW n).map λi:Nat=>D.int (lo+i):=rfl
noncomputable def QN (rs:List (List Int)) (laid:List Int) (m:Int):Bool:=((WW laid.length).filter λi=>laid.getD i 0==m).all λi=>sub (rs.getD i []) (rs.getD laid.length [])
theorem p9 {α:Type} (d:α->D) {jJ:Env} {g:D->Env->Option Env} {t:Env->ae->Res Bool} {act:Env->ae->Res (List D)} {s:ae} (p:α->Bool) (h:α->List D) (xs:List α) (hh:∀x∈xs,∃env,g (d x) jJ=some env/\t env s=ok (p x) s/\(p x=true->act env s=ok (h x) s)) :
  fX g t act jJ (xs.map d) s=ok ((xs.filter p).flatMap h) s:=by
 induction xs with
 |nil=>rfl
 |cons n ns ih =>
  obtain⟨env,h1,h2,h3⟩:=hh n WR;have ih:=ih λn' h'=>hh n' (WT _ h');rw[W4];unfold fX;rw[h1];simp only[h2,kg,fe]
  cases hp:p n with
  |true=>simp only[if_true,h3 hp,kg,fe,ih,X9,hp,aax]
  |false=>simp only[WH,if_false,ih,X9,hp]
theorem EZ {nt:Nat} {cap:List Nat} {it:Env->ae->Res (List D)} {gd:D->Env->Option Env} {c:Env->ae->Res Bool} {act:Env->ae->Res (List D)} {env:Env} {s:ae} {Q:D->ae->Prop} :
  Wp (rG nt cap it gd c act env s) Q=Wp (it env s) λds s=>Wp (fX gd c act (WM nt none++dE cap env) ds s) λxs s=>xs.length<=WX/\Q (.lst xs) s:=by
 unfold rG;simp only[bh,wp_ne,kY,wp_ok]
noncomputable def step (rs:List (List Int)) (told:List (List Int)):List (List Int):=told.flatMap λlaid=>([0,1].filter λm=>QN rs laid m).map λm=>laid++[m]
theorem gB {a b:List Int} {s:ae} (h:a.length+b.length<=1000000):cj (mD a) (mD b) s=ok (mD (a++b)) s:=by
 have e:nW (mD a) (mD b)=some (mD (a++b)):=by
  show (if nV (a.map D.int) (b.map D.int)=true then some (D.tup (a.map D.int++b.map D.int)) else none)=_
  have hf:nV (a.map D.int) (b.map D.int)=true:=by
   unfold nV;rw[WJ,WJ];exact decide_eq_true (le_size h)
  rw[if_pos hf];show some (D.tup (a.map D.int++b.map D.int))=some (D.tup ((a++b).map D.int));rw[Xz]
 show bI (nW (mD a) (mD b)) s=_;rw[e];rfl
end DI
namespace DI
open PySem L2 TK
noncomputable def markB (i:Int):Bool:=decide (0<=i)&&decide (i<8)
noncomputable def jh (i:Int):Bool:=decide (0<=i)&&decide (i<4)
noncomputable def iX (i:Int):Bool:=decide (0<=i)&&decide (i<31)
noncomputable def ji (ns:List Int):Bool:=ns.all markB&&rise ns
noncomputable def kb (a b:List Int):Bool:=!(a.any λx=>decide (x∈b))
noncomputable def eG:Pg->Bool
 | .made m d h l=>jh m&&iX d&&(ji h&&(ji l&&kb h l))
 | .bP m d k=>jh m&&iX d&&markB k
noncomputable def fk:Pg->Prop
 | .made _ _ h l=>h.length<=1000/\l.length<=1000
 | .bP _ _ _=>True
theorem ND {bs:List Bool}:ig (bs.map D.bl)=some bs:=by
 induction bs with
 |nil=>rfl
 |cons b bs ih=>simp only[W4,ig,ih];rfl
theorem E1 {α:Type} (p:α->Bool) (xs:List α) (s:ae):qq [.lst (xs.map λx=>D.bl (p x))] s=ok (.bl (xs.any p)) s:=by
 have e:ig (xs.map λx=>D.bl (p x))=some (xs.map p):=by
  have:=ND (bs:=xs.map p);rw[Ye] at this;exact this
 simp only[qq,res,e,bI,YC,List.any_map,YM,id]
theorem E2 {ns:List Int} {s:ae} (hl:ns.length<=1000):qQ [mD ns] s=ok (.bl (ji ns)) s:=by
 refine Wp.eq ?_;unfold qQ;simp only[VC];refine Wp.of (show cF [mD ns,.ty "tuple"] s=ok (.bl true) s from rfl) ?_;simp only[VC,if_true];refine Wp.of (je rfl) ⟨le_size (by rw[WJ];omega),?_⟩;refine Wp.of (iu (λ_=>true) (λx=>.bl (markB x)) ns λn _=>⟨[some (.int n)],rfl,rfl,λ_=>?_⟩) ?_
 ·refine Wp.eq ?_
  simp only[VC,FR,markB,true_and]
 ·rw[filter_tt]
  refine Wp.of (rz _ _ _) ?_;simp only[VC];unfold ji
  cases e:ns.all markB with
  |true =>
   simp only[if_true,Xq];exact Wp.of (Mq (by omega)) ⟨rfl,rfl⟩
  |false=>simp
theorem yh {a b:List Int} {s:ae} (ha:a.length<=1000):pq [mD a,mD b] s=ok (.bl (kb a b)) s:=by
 refine Wp.eq ?_;unfold pq;simp only[VC];refine Wp.of (je rfl) ⟨le_size (by rw[WJ];omega),?_⟩;refine Wp.of (iu (λ_=>true) (λx=>.bl (decide (x∈b))) a λn _=>⟨[some (.int n),some (mD b)],rfl,rfl,λ_=>?_⟩) ?_
 ·refine Wp.eq ?_
  simp only[VC,pP,true_and]
 ·rw[filter_tt]
  refine Wp.of (E1 _ _ _) ?_;simp only[VC];exact⟨rfl,trivial⟩
theorem E3 {h l:List Int} {s:ae} (h1:h.length<=1000) (h2:l.length<=1000):qU [.tup [mD h,mD l]] s=ok (.bl (ji h&&(ji l&&kb h l))) s:=by
 refine Wp.eq ?_;unfold qU;simp only[VC];refine Wp.of (show cF [.tup [mD h,mD l],.ty "tuple"] s=ok (.bl true) s from rfl) ?_;simp only[VC,Xl,WH,if_false];refine Wp.of (show dY [.tup [mD h,mD l]] s=ok (.int 2) s from rfl) ?_;simp only[VC];simp only[VC,beq_self_eq_true,Xl,WH,if_false];refine Wp.of (E2 h1) ?_;simp only[VC]
 cases ji h with
 |false=>simp
 |true =>
  simp only[if_true,Xq];refine Wp.of (E2 h2) ?_;simp only[VC]
  cases ji l with
  |false=>simp
  |true =>
   simp only[if_true,Xq];exact Wp.of (yh h1) ⟨rfl,rfl⟩
theorem yi {i:Int} {s:ae}:qV [.int i] s=ok (.bl (jh i)) s:=by
 refine Wp.eq ?_;unfold qV;simp only[VC,pE,jh,and_self]
theorem zf {i:Int} {s:ae}:rg [.int i] s=ok (.bl (iX i)) s:=by
 refine Wp.eq ?_;unfold rg;simp only[VC,pE,iX,and_self]
theorem ij {x y:Str} {s:ae}:aS (.str x) (.str y) s=ok (.bl (decide (x=y))) s:=by
 show ok (D.bl (x==y)) s=_
 by_cases e:x=y<;>simp[e]
theorem FT:¬ (XC "made"=XC "mended"):=by decide +kernel
theorem rA:¬ (XC "mended"=XC "made"):=by decide +kernel
theorem OY {p:Pg} {s:ae} (hf:fk p):uQ [p.d] s=ok (.bl (eG p)) s:=by
 refine Wp.eq ?_;unfold uQ;have key:∀(a b c d:D),p.d=.tup [a,b,c,d]->cF [p.d,.ty "tuple"] s=ok (.bl true) s/\dY [p.d] s=ok (.int 4) s:=λa b c d e=>by rw[e];exact⟨rfl,rfl⟩
 cases p with
 |made m d h l =>
  obtain⟨k1,k2⟩:=key _ _ _ _ rfl;simp only[VC];refine Wp.of k1 ?_;simp only[VC,Xl,WH,if_false];refine Wp.of k2 ?_;simp only[VC];simp only[VC,beq_self_eq_true,Xl,WH,if_false,Pg.d];refine Wp.of yi ?_;simp only[VC,eG]
  cases jh m with
  |false=>simp[aft_rt,fin_rt,wp_sRet,wp_C]
  |true =>
   simp only[Xl,WH,if_false,Xq];refine Wp.of zf ?_;simp only[VC]
   cases iX d with
   |false=>simp[aft_rt,fin_rt,wp_sRet,wp_C]
   |true =>
    simp only[VC,Xl,WH,if_false,Xq];refine Wp.of ij ?_;simp only[VC,decide_true,if_true];exact Wp.of (E3 hf.1 hf.2) ⟨rfl,rfl⟩
 |bP m d k =>
  obtain⟨k1,k2⟩:=key _ _ _ _ rfl;simp only[VC];refine Wp.of k1 ?_;simp only[VC,Xl,WH,if_false];refine Wp.of k2 ?_;simp only[VC];simp only[VC,beq_self_eq_true,Xl,WH,if_false,Pg.d];refine Wp.of yi ?_;simp only[VC,eG]
  cases jh m with
  |false=>simp[aft_rt,fin_rt,wp_sRet,wp_C]
  |true =>
   simp only[Xl,WH,if_false,Xq];refine Wp.of zf ?_;simp only[VC]
   cases iX d with
   |false=>simp[aft_rt,fin_rt,wp_sRet,wp_C]
   |true =>
    simp only[VC,Xl,WH,if_false,Xq];refine Wp.of ij ?_;simp only[VC,decide_eq_false rA,WH,if_false];refine Wp.of ij ?_;simp only[VC,decide_true,if_true];exact Wp.of FR ⟨rfl,rfl⟩
end DI
namespace DI
open PySem L2 TK
noncomputable abbrev bD (ps:List Pg):D:=.tup (ps.map Pg.d)
theorem QP {p q:Pg} {s:ae}:kq p.d q.d s=ok (.bl (fb.lt p q)) s:=by
 unfold kq;rw[if_pos (by rw[nC _ (nM p),nC _ (nM q)];simp only[Yl,Xq,decide_eq_true_eq];have:=zc p;omega),HA];rfl
noncomputable def wb (ps:List Pg):Bool:=(ps.zip (ps.drop 1)).all λp=>fb.lt p.1 p.2
theorem NF (xs ys:List Pg):fC (xs.map Pg.d) (ys.map Pg.d)=(xs.zip ys).map λp=>D.tup [p.1.d,p.2.d]:=by
 unfold fC;rw[List.zip_map,Ye];rfl
theorem Lm {ps:List Pg} {s:ae} (hl:ps.length<=1000):m7 [bD ps] s=ok (.bl (wb ps)) s:=by
 refine Wp.eq ?_;unfold m7;simp only[VC];have hz:nU (af (aa 0) (af (oG (aa 0) (nX (eC (.int 1))) oF) ai)) [some (bD ps)] s=ok (fC (ps.map Pg.d) ((ps.drop 1).map Pg.d)) s:=by
  refine EY (Wp.eq ?_);simp only[VC];rw[yH (i:=1) rfl]
  try simp only[VC]
  refine Wp.of (show nB (bD ps) (some 1) none s=ok (.tup (cutD (ps.map Pg.d) (some 1) none)) s from rfl) ⟨?_,rfl⟩;rw[EW,List.map_drop]
 refine Wp.of hz ⟨le_size (by rw[rb];simp only[WJ];omega),?_⟩;rw[NF];refine Wp.of (comp_map (λp:Pg×Pg=>D.tup [p.1.d,p.2.d]) (λ_=>true) (λp=>.bl (fb.lt p.1 p.2)) _ λp _=>⟨[some p.1.d,some p.2.d],rfl,rfl,λ_=>?_⟩) ?_
 ·refine Wp.eq ?_
  simp only[VC,QP,and_self]
 rw[filter_tt];exact Wp.of (rz _ _ _) ⟨rfl,rfl⟩
noncomputable def jF (ps:List Pg):Bool:=decide (ps.length<=24)&&(ps.all eG&&wb ps)
theorem OZ {ps:List Pg} {s:ae} (hl:ps.length<=1000) (hf:∀p∈ps,fk p):uJ [bD ps] s=ok (.bl (jF ps)) s:=by
 refine Wp.eq ?_;unfold uJ jF;simp only[VC];refine Wp.of (show cF [bD ps,.ty "tuple"] s=ok (.bl true) s from rfl) ?_;simp only[VC,if_true];refine Wp.of (show dY [bD ps] s=ok (.int ps.length) s from by show ok (D.int (ps.map Pg.d).length) s=_;rw[WJ]) ?_;simp only[VC];by_cases h:ps.length<=24
 ·have h':(ps.length:Int)<=24:=by omega
  simp only[h,h',decide_true,if_true,Xq];refine Wp.of (je rfl) ⟨le_size (by rw[WJ];omega),?_⟩;refine Wp.of (comp_map Pg.d (λ_=>true) (λp=>.bl (eG p)) ps λp hp=>⟨[some p.d],rfl,rfl,λ_=>?_⟩) ?_
  ·refine Wp.eq ?_
   simp only[VC,OY (hf p hp),and_self]
  ·rw[filter_tt]
   refine Wp.of (rz _ _ _) ?_;simp only[VC]
   cases ps.all eG with
   |false=>simp
   |true =>
    simp only[if_true,Xq];exact Wp.of (Lm hl) ⟨rfl,rfl⟩
 ·have h':¬ (ps.length:Int)<=24:=by omega
  simp[h,h']
noncomputable def _root_.TK.Pg.day:Pg->Int
 | .made _ d _ _=>d
 | .bP _ d _=>d
noncomputable def kJ (m k:Int):Pg->Bool
 | .made m' _ h _=>decide (m'=m)&&decide (k∈h)
 |_=>false
noncomputable def kK (m k:Int):Pg->Bool
 | .made m' _ _ l=>decide (m'=m)&&decide (k∈l)
 |_=>false
noncomputable def jZ (m k:Int):Pg->Bool
 | .bP m' _ k'=>decide (m'=m)&&decide (k'=k)
 |_=>false
noncomputable def shown (ps:List Pg) (m k:Int):List Int:=(ps.filter (kJ m k)).map Pg.day
noncomputable def dC (ps:List Pg) (m k:Int):List Int:=(ps.filter (kK m k)).map Pg.day
noncomputable def cE (ps:List Pg) (m k:Int):List Int:=(ps.filter (jZ m k)).map Pg.day
noncomputable abbrev lI (ns:List Int):D:=.lst (ns.map D.int)
theorem eh (a b c d:D) (s:ae):ao (.tup [a,b,c,d]) (.int 0) s=ok a s/\ao (.tup [a,b,c,d]) (.int 1) s=ok b s/\ao (.tup [a,b,c,d]) (.int 2) s=ok c s/\ao (.tup [a,b,c,d]) (.int 3) s=ok d s:=⟨rfl,rfl,rfl,rfl⟩
theorem j0 (a b:D) (s:ae):ao (.tup [a,b]) (.int 0) s=ok a s/\ao (.tup [a,b]) (.int 1) s=ok b s:=⟨rfl,rfl⟩
theorem oT (p:Pg) (s:ae):ao p.d (.int 1) s=ok (.int (match p with | .made m _ _ _=>m | .bP m _ _=>m)) s/\ao p.d (.int 2) s=ok (.int p.day) s:=by cases p<;>exact⟨rfl,rfl⟩
theorem vz {ps:List Pg} {m k:Int} {s:ae} (hl:ps.length<=1000):j6 [bD ps,.int m,.int k,.int 0] s=ok (lI (shown ps m k)) s/\j6 [bD ps,.int m,.int k,.int 1] s=ok (lI (dC ps m k)) s:=by
 constructor
 ·refine Wp.eq ?_
  unfold j6;simp only[VC];refine Wp.of (je rfl) ⟨le_size (by rw[WJ];omega),?_⟩;refine Wp.of (comp_map Pg.d (kJ m k) (λp=>.int p.day) ps λp hp=>⟨[some p.d,some (.int m),some (.int k),some (.int 0)],rfl,?_,λ_=>?_⟩) ?_
  ·refine Wp.eq ?_
   cases p with
   |made m' d h l =>
    simp only[VC,Pg.d];rw[(eh _ _ _ _ s).1];simp only[VC,ij,decide_true,if_true];rw[(eh _ _ _ _ s).2.1];simp only[VC,kJ];by_cases e:m'=m
    ·simp only[e,beq_self_eq_true,if_true,decide_true,Xq]
     rw[(eh _ _ _ _ s).2.2.2];simp only[VC];rw[(j0 _ _ s).1];simp only[VC];refine Wp.of (pP (ns:=h)) ?_;simp only[VC,and_self]
    ·simp[e]
   |bP m' d k' =>
    simp only[VC,Pg.d];rw[(eh _ _ _ _ s).1];simp only[VC,ij,decide_eq_false rA,WH,if_false,kJ,and_self]
  ·refine Wp.eq ?_
   simp only[VC,(oT p s).2,and_self]
  ·simp only[shown,lI,Ye,YM,and_self]
 ·refine Wp.eq ?_
  unfold j6;simp only[VC];refine Wp.of (je rfl) ⟨le_size (by rw[WJ];omega),?_⟩;refine Wp.of (comp_map Pg.d (kK m k) (λp=>.int p.day) ps λp hp=>⟨[some p.d,some (.int m),some (.int k),some (.int 1)],rfl,?_,λ_=>?_⟩) ?_
  ·refine Wp.eq ?_
   cases p with
   |made m' d h l =>
    simp only[VC,Pg.d];rw[(eh _ _ _ _ s).1];simp only[VC,ij,decide_true,if_true];rw[(eh _ _ _ _ s).2.1];simp only[VC,kK];by_cases e:m'=m
    ·simp only[e,beq_self_eq_true,if_true,decide_true,Xq]
     rw[(eh _ _ _ _ s).2.2.2];simp only[VC];rw[(j0 _ _ s).2];simp only[VC];refine Wp.of (pP (ns:=l)) ?_;simp only[VC,and_self]
    ·simp[e]
   |bP m' d k' =>
    simp only[VC,Pg.d];rw[(eh _ _ _ _ s).1];simp only[VC,ij,decide_eq_false rA,WH,if_false,kK,and_self]
  ·refine Wp.eq ?_
   simp only[VC,(oT p s).2,and_self]
  ·simp only[dC,lI,Ye,YM,and_self]
theorem yJ {ps:List Pg} {m k:Int} {s:ae} (hl:ps.length<=1000):pf [bD ps,.int m,.int k] s=ok (lI (cE ps m k)) s:=by
 refine Wp.eq ?_;unfold pf;simp only[VC];refine Wp.of (je rfl) ⟨le_size (by rw[WJ];omega),?_⟩;refine Wp.of (comp_map Pg.d (jZ m k) (λp=>.int p.day) ps λp hp=>⟨[some p.d,some (.int m),some (.int k)],rfl,?_,λ_=>?_⟩) ?_
 ·refine Wp.eq ?_
  cases p with
  |bP m' d k' =>
   simp only[VC,Pg.d];rw[(eh _ _ _ _ s).1];simp only[VC,ij,decide_true,if_true];rw[(eh _ _ _ _ s).2.1];simp only[VC,jZ];by_cases e:m'=m
   ·simp only[e,beq_self_eq_true,if_true,decide_true,Xq]
    rw[(eh _ _ _ _ s).2.2.2];simp only[VC]
    by_cases e:k'=k<;>simp[e]
   ·simp[e]
  |made m' d h l =>
   simp only[VC,Pg.d];rw[(eh _ _ _ _ s).1];simp only[VC,ij,decide_eq_false FT,WH,if_false,jZ,and_self]
 ·refine Wp.eq ?_
  simp only[VC,(oT p s).2,and_self]
 ·simp only[cE,lI,Ye,YM,and_self]
theorem iP {n:Nat} (h:n<=1000):n<=WX:=le_size (by omega)
theorem nN {x:Int} {ns:List Int} {s:ae}:bU (.int x) (lI ns) s=ok (.bl (decide (x∈ns))) s:=by
 show bU (.int x) (mD ns) s=_;exact pP
theorem ni {x:Int} {ns:List Int} {s:ae}:cq (.int x) (lI ns) s=ok (.bl (!decide (x∈ns))) s:=by
 show cq (.int x) (mD ns) s=_;exact uO
noncomputable def Au (ds:List Int) (a b:Int):Bool:=ds.any λx=>decide (a<x)&&decide (x<=b)
theorem Mr {ds:List Int} {a b:Int} {s:ae} (hl:ds.length<=1000):t6 [lI ds,.int a,.int b] s=ok (.bl (Au ds a b)) s:=by
 refine Wp.eq ?_;unfold t6;simp only[VC];refine Wp.of (jf rfl) ⟨iP (by rw[WJ];omega),?_⟩;refine Wp.of (iu (λ_=>true) (λx=>.bl (decide (a<x)&&decide (x<=b))) ds λn _=>⟨[some (.int n),some (.int a),some (.int b)],rfl,rfl,λ_=>?_⟩) ?_
 ·refine Wp.eq ?_
  simp only[VC]
  by_cases e:a<n<;>simp[e,wp_ok,wp_leI,wp_locS,wp_loc0]
 ·rw[filter_tt]
  exact Wp.of (E1 _ _ _) ⟨rfl,rfl⟩
noncomputable def oU (ps:List Pg) (m k d l:Int):Bool:=(decide (l∈dC ps m k)||(decide (l=d)&&decide (d∈cE ps m k)))&&!Au (cE ps m k) d l
noncomputable def nF (d:Int):List Int:=(WW (31-d).toNat).map λi:Nat=>d+(i:Int)
noncomputable def lC (ps:List Pg) (m k:Int):List (Int×Int):=(gr (shown ps m k)).flatMap λd=>((nF d).filter (oU ps m k d)).map λl=>(d,l)
theorem u9 {ps:List Pg} {f:Pg->Bool}:((ps.filter f).map Pg.day).length<=ps.length:=by rw[WJ];exact X7 _ _
theorem nj {α β:Type} {f:α->List β} {b:Nat}:∀{l:List α},(∀x∈l,(f x).length<=b)->(l.flatMap f).length<=l.length*b
 | [],_=>by simp
 |x::l,h=>by
  rw[aax,Xw,W5,Nat.succ_mul];have h1:=h x WR;have h2:=nj (l:=l) λy hy=>h y (WT _ hy);omega
theorem DB (d:Int) (h:0<=d):(nF d).length<=31:=by unfold nF;rw[WJ,Yn];omega
structure qv (ps:List Pg):Prop where
 len:ps.length<=24
 lo:∀p∈ps,0<=p.day/\p.day<31
theorem qv.of {ps:List Pg} (h:qv ps) {f:Pg->Bool} {x:Int} (hx:x∈(ps.filter f).map Pg.day):0<=x/\x<31:=by
 obtain⟨p,hp,rfl⟩:=XN.mp hx;exact h.lo p (XF.mp hp).1
theorem Ec (l:List Int):(gr l).length<=l.length:=by
 induction l with
 |nil=>exact Nat.le_refl _
 |cons x l ih =>
  have:(gr (x::l)).length<=(gr l).length+1:=by
   show (ko x (gr l)).length<=_;generalize gr l=m
   induction m with
   |nil=>exact Nat.le_refl _
   |cons y m Ww =>
    unfold ko;split
    ·simp
    ·split
     ·simp
     ·simp only[W5];omega
  simp only[W5];omega
theorem Ln {ps:List Pg} {m k:Int} {s:ae} (h:qv ps):qZ [bD ps,.int m,.int k] s=ok (.lst ((lC ps m k).map λp=>D.tup [.int p.1,.int p.2])) s:=by
 have hl:=h.len;have l1:(shown ps m k).length<=24:=W7 u9 hl;have l2:(dC ps m k).length<=24:=W7 u9 hl;have l3:(cE ps m k).length<=24:=W7 u9 hl;refine Wp.eq ?_;unfold qZ;simp only[VC];refine Wp.of (vz (by omega)).2 ?_;refine Wp.of (yJ (by omega)) ?_;rw[EZ];have hs:aU (e1 pF (ax j6 (af (aa 0) (af (aa 1) (af (aa 2) (af (eC (.int (0))) ai)))))) [some (bD ps),some (.int m),some (.int k),some (lI (dC ps m k)),some (lI (cE ps m k))] s=ok ((gr (shown ps m k)).map D.int) s:=by
  refine jf (Wp.eq ?_);simp only[VC];refine Wp.of (vz (by omega)).1 ?_;refine Wp.of (show pF (lI (shown ps m k)) s=ok (lI (gr (shown ps m k))) s from ?_) ⟨rfl,rfl⟩;unfold pF;simp only[LO];rw[if_pos (by rw[decide_eq_true_eq];omega)]
 refine Wp.of hs ?_;have day:∀d∈gr (shown ps m k),0<=d/\d<31:=λd hd=>h.of (qX.mp hd);refine Wp.of (p9 D.int (λ_=>true) (λd=>((nF d).filter (oU ps m k d)).map λl=>D.tup [.int d,.int l]) _ λd hd=>⟨[some (.int d),none,some (lI (dC ps m k)),some (lI (cE ps m k))],rfl,rfl,λ_=>?_⟩) ?_
 ·have hd:=day d hd
  unfold more;rw[G1 (i:=d) (j:=31) rfl (by omega) (by omega) (by omega) (by omega),fe];have er:bV d (31-d).toNat=(nF d).map D.int:=by unfold nF;rw[yI,Ye];rfl
  rw[er];rw[p9 D.int (oU ps m k d) (λl=>[D.tup [.int d,.int l]]) (nF d) λl hl=>⟨[some (.int d),some (.int l),some (lI (dC ps m k)),some (lI (cE ps m k))],rfl,?_,λ_=>?_⟩]
  ·rw[<- aa3]
  ·refine Wp.eq ?_
   simp only[VC,nN];unfold oU;have Jl:=Mr (ds:=cE ps m k) (a:=d) (b:=l) (s:=s) (by omega);by_cases c1:l∈dC ps m k
   ·simp only[VC,c1,decide_true,if_true,Bool.true_or,Xq]
    exact Wp.of Jl (by simp only[VC,and_self])
   ·simp only[c1,decide_false,WH,if_false,Bool.false_or]
    by_cases c2:l=d
    ·subst c2
     simp only[VC,beq_self_eq_true,if_true,decide_true,Xq];by_cases c3:l∈cE ps m k
     ·simp only[c3,decide_true,if_true,Xq]
      exact Wp.of Jl (by simp only[VC,and_self])
     ·simp[c3]
    ·simp[c2]
  ·refine Wp.eq ?_
   unfold emit;rw[bh];simp only[VC];exact⟨by decide,trivial⟩
 ·rw[filter_tt]
  refine⟨?_,?_,rfl⟩
  ·refine iP (W7 (nj (b:=31) λd hd=>?_) ?_)
   ·rw[WJ]
    exact W7 (X7 _ _) (DB d (day d hd).1)
   ·have:=Ec (shown ps m k)
    have:(gr (shown ps m k)).length<=24:=by omega
    omega
  ·unfold lC
   simp only[List.map_flatMap,Ye,YM]
noncomputable def m4:List Int:=(WW 4).map λi:Nat=>(i:Int)
noncomputable def k8:List Int:=(WW 8).map λi:Nat=>(i:Int)
noncomputable def nG (ps:List Pg):List (Int×Int×Int×Int):=m4.flatMap λm=>k8.flatMap λk=>(lC ps m k).map λp=>(m,k,p.1,p.2)
noncomputable def fD (p:Int×Int×Int×Int):D:=.tup [.int p.1,.int p.2.1,.int p.2.2.1,.int p.2.2.2]
theorem Ms {ps:List Pg} (h:qv ps) (m k:Int):(lC ps m k).length<=744:=by
 have l1:(shown ps m k).length<=24:=W7 u9 h.len;have:=Ec (shown ps m k);refine W7 (nj (b:=31) λd hd=>?_) (by omega);rw[WJ];exact W7 (X7 _ _) (DB d (h.of (qX.mp hd)).1)
theorem Mt {ps:List Pg} {s:ae} (h:qv ps):uC [bD ps] s=ok (.lst ((nG ps).map fD)) s:=by
 refine Wp.eq ?_;unfold uC;simp only[wp_fn,wp_sRet,fin_rt,W4,XT,Xn,XG,W5,W9,WM,true_and,Nat.reduceSub,Nat.reduceAdd];rw[EZ];refine Wp.of (eR (n:=4) rfl (by decide)) ?_;have e4:bV 0 4=m4.map D.int:=rfl;have e8:bV 0 8=k8.map D.int:=rfl;rw[e4];refine Wp.of (p9 D.int (λ_=>true) (λm=>k8.flatMap λk=>(lC ps m k).map λp=>fD (m,k,p.1,p.2)) m4 λm hm=>⟨[some (.int m),none,none,none,some (bD ps)],rfl,rfl,λ_=>?_⟩) ?_
 ·unfold more
  rw[eR (n:=8) rfl (by decide),fe,e8];rw[p9 D.int (λ_=>true) (λk=>(lC ps m k).map λp=>fD (m,k,p.1,p.2)) k8 λk hk=>⟨[some (.int m),some (.int k),none,none,some (bD ps)],rfl,rfl,λ_=>?_⟩]
  ·rw[filter_tt]
  ·have hi:aU (ax qZ (af (aa 4) (af (aa 0) (af (aa 1) ai)))) [some (.int m),some (.int k),none,none,some (bD ps)] s=ok ((lC ps m k).map λp=>D.tup [.int p.1,.int p.2]) s:=by
    refine jf (Wp.eq ?_);simp only[VC];exact Wp.of (Ln h) ⟨rfl,rfl⟩
   rw[hi,fe];rw[p9 (λp:Int×Int=>D.tup [.int p.1,.int p.2]) (λ_=>true) (λp=>[fD (m,k,p.1,p.2)]) (lC ps m k) λp hp=>⟨[some (.int m),some (.int k),some (.int p.1),some (.int p.2),some (bD ps)],rfl,rfl,λ_=>?_⟩]
   ·rw[filter_tt,<- aa3]
   ·refine Wp.eq ?_
    unfold emit;rw[bh];simp only[VC];exact⟨by decide,rfl,trivial⟩
 ·rw[filter_tt]
  refine⟨?_,?_,rfl⟩
  ·refine le_size (W7 (nj (b:=8*744) λm hm=>?_) (by decide))
   refine W7 (nj (b:=744) λk hk=>?_) (by decide);rw[WJ];exact Ms h m k
  ·unfold nG
   simp only[List.map_flatMap,Ye,YM]
noncomputable def gZ (ps:List Pg):Bool:=jF ps&&(nG ps).isEmpty
theorem Mu {ps:List Pg} (h:jF ps=true):qv ps:=by
 unfold jF at h;simp only[WK,decide_eq_true_eq,XO] at h;refine⟨h.1,λp hp=>?_⟩;have:=h.2.1 p hp
 cases p<;>simp only[eG,iX,WK,decide_eq_true_eq] at this<;>exact this.1.2
theorem FU {ps:List Pg} {s:ae} (hl:ps.length<=1000) (hf:∀p∈ps,fk p):pC [bD ps] s=ok (.bl (gZ ps)) s:=by
 refine Wp.eq ?_;unfold pC;simp only[VC];refine Wp.of (OZ hl hf) ?_;simp only[VC];unfold gZ
 cases h:jF ps with
 |false=>simp
 |true =>
  simp only[if_true,Xq];unfold zC;simp only[VC,bh];refine Wp.of (Mt (Mu h)) ?_;refine Wp.of (show truth (.lst ((nG ps).map fD)) s=ok (!((nG ps).map fD).isEmpty) s from rfl) ?_;simp only[wp_ok];refine⟨?_,trivial⟩
  cases nG ps<;>rfl
theorem QQ {m:Int}:m∈m4↔0<=m/\m<4:=by
 unfold m4;rw[XN];constructor
 ·rintro ⟨i,hi,rfl⟩
  have:=Xy.mp hi;omega
 ·rintro ⟨h1,h2⟩
  exact⟨m.toNat,Xy.mpr (by omega),by omega⟩
theorem vL {m:Int}:m∈k8↔0<=m/\m<8:=by
 unfold k8;rw[XN];constructor
 ·rintro ⟨i,hi,rfl⟩
  have:=Xy.mp hi;omega
 ·rintro ⟨h1,h2⟩
  exact⟨m.toNat,Xy.mpr (by omega),by omega⟩
theorem NG {ps:List Pg} (h:gZ ps=true) {m k d l:Int} (hm:0<=m/\m<4) (hk:0<=k/\k<8) (hd:d∈shown ps m k) (h1:d<=l) (h2:l<31):oU ps m k d l=false:=by
 unfold gZ at h;rw[WK,List.isEmpty_iff] at h
 cases hc:oU ps m k d l with
 |false=>rfl
 |true =>
  exfalso;have jU:(d,l)∈lC ps m k:=by
   refine aaL.mpr ⟨d,qX.mpr hd,XN.mpr ⟨l,XF.mpr ⟨?_,hc⟩,rfl⟩⟩;exact XN.mpr ⟨(l-d).toNat,Xy.mpr (by omega),by omega⟩
  have:(m,k,d,l)∈nG ps:=aaL.mpr ⟨m,QQ.mpr hm,aaL.mpr ⟨k,vL.mpr hk,XN.mpr ⟨(d,l),jU,rfl⟩⟩⟩;rw[h.2] at this;cases this
end DI
namespace DI
section
variable (s l m:Nat->Bool)
noncomputable def pr:Nat->Bool
 |0=>s 0
 |d+1=>s (d+1)||(pr d&&!m (d+1))
noncomputable def gj:Nat->Bool
 |0=>false
 |n+1=>(gj n||l (30-n))&&!m (30-n)
noncomputable def br (d:Nat):Bool:=gj l m (31-d)
noncomputable def ab (d:Nat):Bool:=br l m (d+1)||(l d||m d)
theorem HB {d:Nat} (h:d<=30):br l m d=((br l m (d+1)||l d)&&!m d):=by
 unfold br;have e1:31-d=(30-d)+1:=by omega
 have e2:31-(d+1)=30-d:=by omega
 rw[e1,e2];simp only[gj];rw[show 30-(30-d)=d by omega]
theorem HC:br l m 31=false:=rfl
noncomputable def f0 (d:Nat):Bool:=!s d
noncomputable def t0 (d:Nat):Bool:=!m d&&!l d
noncomputable def fw:Nat->Bool×Bool
 |0=>(f0 s 0,t0 l m 0)
 |d+1=>(f0 s (d+1)&&((fw d).1||(m (d+1)&&((fw d).1||(fw d).2))),t0 l m (d+1)&&((fw d).1||(fw d).2))
noncomputable def qM:Nat->Bool×Bool
 |0=>fw s l m 30
 |n+1=>let q:=qM n;let a:=fw s l m (29-n);(a.1&&(q.2||q.1),a.2&&(q.2||(q.1&&m (30-n))))
noncomputable def bw (d:Nat):Bool×Bool:=qM s l m (30-d)
def FV:Prop:=∀d e,s d=true->d<=e->e<=30->(l e=true\/(e=d/\m d=true))->∃x,d<x/\x<=e/\m x=true
variable {s l m}
theorem zg:∀{d:Nat},pr s m d=true↔∃e,e<=d/\s e=true/\∀x,e<x->x<=d->m x=false
 |0=>by
  simp only[pr];constructor
  ·intro h;exact⟨0,Nat.le_refl _,h,λx h1 h2=>by omega⟩
  ·rintro ⟨e,h1,h2,_⟩
   have:e=0:=by omega
   rw[<- this];exact h2
 |d+1=>by
  simp only[pr,Z9,WK,X4];rw[zg (d:=d)];constructor
  ·rintro (h | ⟨⟨e,h1,h2,h3⟩,h4⟩)
   ·exact⟨d+1,Nat.le_refl _,h,λx h1 h2=>by omega⟩
   ·refine⟨e,by omega,h2,λx iE ie=>?_⟩
    by_cases hx:x=d+1
    ·rw[hx];exact h4
    ·exact h3 x iE (by omega)
  ·rintro ⟨e,h1,h2,h3⟩
   by_cases he:e=d+1
   ·left;rw[<- he];exact h2
   ·right
    exact⟨⟨e,by omega,h2,λx iE ie=>h3 x iE (by omega)⟩,h3 (d+1) (by omega) (Nat.le_refl _)⟩
theorem R9:∀{n:Nat},n<=31->br l m (31-n)=true->∃e,31-n<=e/\e<=30/\l e=true/\∀x,31-n<=x->x<=e->m x=false:=by
 intro n
 induction n with
 |zero=>intro _ h;rw[show 31-0=31 from rfl,HC] at h;cases h
 |succ n ih =>
  intro hn h;have e1:31-(n+1)+1=31-n:=by omega
  rw[HB l m (by omega),e1,WK,Z9,X4] at h
  rcases h.1 with h1|h1
  ·obtain⟨e,q1,q2,q3,q4⟩:=ih (by omega) h1
   refine⟨e,by omega,q2,q3,λx iE ie=>?_⟩;by_cases hx:x=31-(n+1)
   ·rw[hx];exact h.2
   ·exact q4 x (by omega) ie
  ·refine⟨31-(n+1),Nat.le_refl _,by omega,h1,λx iE ie=>?_⟩
   rw[show x=31-(n+1) by omega];exact h.2
section
variable (N:FV s l m)
include N
theorem zD {d:Nat} (hd:d<=30) (h:pr s m d=true):t0 l m d=true:=by
 obtain⟨e,h1,h2,h3⟩:=zg.mp h;unfold t0;rw[WK,X4,X4];constructor
 ·cases hm:m d with
  |false=>rfl
  |true =>
   by_cases he:e=d
   ·subst he
    obtain⟨x,q1,q2,_⟩:=N e e h2 (Nat.le_refl _) hd (.inr ⟨rfl,hm⟩);omega
   ·have:=h3 d (by omega) (Nat.le_refl _)
    rw[this] at hm;cases hm
 ·cases hl:l d with
  |false=>rfl
  |true =>
   obtain⟨x,q1,q2,q3⟩:=N e d h2 h1 hd (.inl hl);rw[h3 x q1 q2] at q3;cases q3
theorem zE:∀{d:Nat},d<=30->fw s l m d=(!pr s m d,t0 l m d)
 |0,_=>rfl
 |d+1,h=>by
  have ih:=zE (d:=d) (by omega);have ne:(!pr s m d||t0 l m d)=true:=by
   cases hp:pr s m d with
   |false=>rfl
   |true=>rw[zD N (by omega) hp];rfl
  simp only[fw,ih,ne,ZM,f0,pr]
  cases s (d+1)<;>cases pr s m d<;>cases m (d+1)<;>simp
theorem Sa {d:Nat} (hd:d<=30) (h:pr s m d=true):ab l m d=false:=by
 have ht:=zD N hd h;unfold t0 at ht;rw[WK,X4,X4] at ht;unfold ab;rw[ht.1,ht.2]
 cases hb:br l m (d+1) with
 |false=>rfl
 |true =>
  exfalso;have fq:br l m (31-(30-d))=true:=by rw[show 31-(30-d)=d+1 by omega];exact hb
  obtain⟨e,q1,q2,q3,q4⟩:=R9 (by omega) fq;obtain⟨c,h1,h2,h3⟩:=zg.mp h;obtain⟨x,z1,z2,z3⟩:=N c e h2 (by omega) q2 (.inl q3);by_cases hx:x<=d
  ·rw[h3 x z1 hx] at z3;cases z3
  ·rw[q4 x (by omega) z2] at z3;cases z3
theorem G2:∀{n:Nat},n<=30->qM s l m n=(!pr s m (30-n),!ab l m (30-n))
 |0,_=>by
  simp only[qM,zE N (Nat.le_refl 30),Nat.sub_zero];congr 1;unfold ab t0;rw[HC]
  cases m 30<;>cases l 30<;>rfl
 |n+1,h=>by
  have ih:=G2 (n:=n) (by omega);have Vd:29-n=30-(n+1):=by omega
  have Ve:30-n=(30-(n+1))+1:=by omega
  generalize hd:30-(n+1)=d at *;have Av:d+1<=30:=by omega
  simp only[qM,ih,Vd,Ve,zE N (show d<=30 by omega)];have p1:=λz=>Sa N Av z;have p2:=λz=>zD N Av z;have eb:=HB l m Av;congr 1
  ·cases hp:pr s m (d+1) with
   |false=>simp
   |true=>rw[p1 hp];simp
  ·show (t0 l m d&&(!ab l m (d+1)||(!pr s m (d+1)&&m (d+1))))=!(br l m (d+1)||(l d||m d))
   rw[eb];unfold ab
   cases hm:m (d+1) with
   |false=>unfold t0;cases m d<;>cases l d<;>cases br l m (d+1+1)<;>cases l (d+1)<;>simp
   |true =>
    have hp:pr s m (d+1)=false:=by
     cases hp:pr s m (d+1) with
     |false=>rfl
     |true=>have:=p2 hp;unfold t0 at this;rw[hm] at this;cases this
    rw[hp];unfold t0
    cases m d<;>cases l d<;>simp
theorem Sb {d:Nat} (h:d<=30):bw s l m d=(!pr s m d,!ab l m d):=by
 unfold bw;rw[G2 N (by omega),show 30-(30-d)=d by omega]
end
end
end DI
namespace DI
open PySem L2 TK
theorem FW:∀{ns:List Int},rise ns=true->ns.Pairwise (· < ·)
 | [],_=>.nil
 | [a],_=>by simp
 |a::b::r,h=>by
  simp only[rise,WK,decide_eq_true_eq] at h;have ih:=FW h.2;refine Xx.mpr ⟨λx hx=>?_,ih⟩
  rcases W3.mp hx with rfl|hx
  ·exact h.1
  ·have:=(Xx.mp ih).1 x hx
   omega
theorem pB {ns:List Int} (h:ji ns=true):cW 8 ns:=by
 unfold ji at h;rw[WK,XO] at h;refine⟨λx hx=>?_,FW h.2⟩;have:=h.1 x hx;unfold markB at this;simp only[WK,decide_eq_true_eq] at this;exact this
theorem uP {n:Nat} {ns:List Int} (h:cW n ns) (hn:n<=8):ji ns=true:=by
 unfold ji;rw[WK,XO];refine⟨λx hx=>?_,OX h.up⟩;have:=h.lo x hx;unfold markB;simp only[WK,decide_eq_true_eq];omega
theorem cW.filter {n:Nat} {ns:List Int} (h:cW n ns) (p:Int->Bool):cW n (ns.filter p):=⟨λx hx=>h.lo x (XF.mp hx).1,h.up.filter p⟩
theorem Ed {m d k:Int} (hm:0<=m/\m<4) (hd:0<=d/\d<31) (hk:0<=k/\k<8):eG (.bP m d k)=true:=by
 simp only[eG,jh,iX,markB,WK,decide_eq_true_eq];omega
theorem Ee {m d:Int} {h l:List Int} {n:Nat} (hm:0<=m/\m<4) (hd:0<=d/\d<31) (h1:cW n h) (h2:cW n l) (hn:n<=8) (ha:∀x∈h,x∉l):eG (.made m d h l)=true:=by
 simp only[eG,jh,iX,WK,decide_eq_true_eq,kb,X4,aay];exact⟨⟨hm,hd⟩,uP h1 hn,uP h2 hn,ha⟩
theorem Ef {p:Pg} (h:eG p=true):fk p:=by
 cases p with
 |made m d h' l =>
  simp only[eG,WK] at h;exact⟨by have:=(pB h.2.1).len;omega,by have:=(pB h.2.2.1).len;omega⟩
 |bP m d k=>trivial
def cS (W:World) (R:Pg->Prop) (s:ae) (j n:Nat):Prop:=∃ps:List Pg,s[j]?=some (.dT (ps.map λp=>(p.d,hs W p.d)))/\(ps.Nodup/\∀p∈ps,R p)/\ps.length<=n
theorem cS.lt {W:World} {R:Pg->Prop} {s:ae} {j n:Nat} (h:cS W R s j n):j<s.length:=by
 obtain⟨ps,e,_⟩:=h;exact(WO.mp e).1
theorem cS.ex {W:World} {R:Pg->Prop} {s s':ae} {j n k:Nat} (h:cS W R s j n) (x:Ex k s s') (hj:j≠k):cS W R s' j n:=by
 have hl:=h.lt;obtain⟨ps,e,r⟩:=h;exact⟨ps,(x.val j hl hj).trans e,r⟩
theorem cS.more {W:World} {R:Pg->Prop} {s:ae} {j n m:Nat} (h:cS W R s j n) (hm:n<=m):cS W R s j m:=by
 obtain⟨ps,e,r,l⟩:=h;exact⟨ps,e,r,by omega⟩
theorem cS.app {W:World} {R:Pg->Prop} {s:ae} {j n:Nat} (h:cS W R s j n) (c:List Cell):cS W R (s++c) j n:=by
 have hl:=h.lt;obtain⟨ps,e,r⟩:=h;exact⟨ps,by rw[W0 hl];exact e,r⟩
theorem cS.set {W:World} {R:Pg->Prop} {s:ae} {j n i:Nat} (h:cS W R s j n) (hi:i≠j) (c:Cell):cS W R (s.set i c) j n:=by
 obtain⟨ps,e,r⟩:=h;exact⟨ps,by rw[Xa hi];exact e,r⟩
theorem cS.mono {W:World} {R R':Pg->Prop} {s:ae} {j n:Nat} (h:cS W R s j n) (hR:∀p,R p->R' p):cS W R' s j n:=by
 obtain⟨ps,e,r,l⟩:=h;exact⟨ps,e,⟨r.1,λp hp=>hR p (r.2 p hp)⟩,l⟩
theorem Ex.oV {k j:Nat} {s s':ae} (h:Ex k s s') (hj:s.length<=j) (c:Cell):Ex k s (s'.set j c) :=
 ⟨by rw[XZ];exact h.len,λi hi hk=>by rw[Xa (by omega)];exact h.val i hi hk⟩
theorem lp (p:Pg):∃ks,p.d=.tup ks/\cQ ks=true/\cV ks<=6:=by
 have h1:=nM p;have h2:=zc p;obtain⟨x,r,e⟩:=EK p;rw[e] at h1 h2;simp only[kd,dep] at h1 h2;exact⟨_,e,h1,by omega⟩
theorem QR (W:World) (ps:List Pg):(ps.map λp=>(p.d,hs W p.d)).all (keyOk W)=true:=by
 rw[List.all_map,XO];intro p _;obtain⟨ks,e,h1,h2⟩:=lp p;simp only[Function.comp,keyOk];rw[e];simp only[h1,decide_eq_true h2,decide_true,Yl]
theorem zh {W:World} {R:Pg->Prop} {s:ae} {j n:Nat} {p:Pg} (h:cS W R s j n) (hf:R p) (hn:n<1000):∃c,mG W (.aj j) p.d (.bl true) s=some (s.set j c)/\cS W R (s.set j c) j (n+1):=by
 have hl:=h.lt;obtain⟨ps,e,dW,len⟩:=h;obtain⟨ks,ep,k1,k2⟩:=lp p;have Ik:=QR W ps;generalize hk:(ps.map λp=>(p.d,hs W p.d))=aq at e Ik;have kl:aq.length=ps.length:=by rw[<- hk,WJ]
 refine⟨.dT (TK.gB W aq (.tup ks)),?_,?_⟩
 ·rw[ep]
  unfold mG;simp only[e];rw[if_pos];rw[k1,decide_eq_true k2,Ik,decide_eq_true (WL (show aq.length<1000 by omega) (le_size (by decide)))];rfl
 ·unfold TK.gB
  split
  ·exact⟨ps,by rw[hk];exact Xc hl,dW,by omega⟩
  ·rename_i AE
   refine⟨ps++[p],?_,⟨aau.mpr ⟨dW.1,by simp,λa ha b hb=>?_⟩,λq hq=>?_⟩,by simp;omega⟩
   ·rw[Xc hl,Xz,hk]
    simp only[W4,XT,ep]
   ·rw[Yk.mp hb]
    rintro rfl;refine AE (Zq.mpr ⟨(a.d,hs W a.d),?_,?_⟩)
    ·rw[<- hk];exact XN.mpr ⟨a,ha,rfl⟩
    ·rw[<- ep];exact(vH _ _ (nM a) (nM a)).mpr rfl
   ·rcases XX.mp hq with hq|hq
    ·exact dW.2 q hq
    ·rw[Yk.mp hq];exact hf
theorem vA {W:World} {f fo fi:Env->ae->Res D} {env:Env} {s:ae} {QF:Fl->ae->Prop}:Wp (iR W f fo fi env s) QF=Wp (f env s) λx s=>Wp (fo env s) λd s=>Wp (fi env s) λn s=>∃s',mG W d n x s=some s'/\QF (.nx env) s':=by
 unfold iR;simp only[bh];congr 1;funext x s;congr 1;funext d s;congr 1;funext n s
 cases mG W d n x s with
 |none=>exact propext ⟨λ⟨_,_,e,_⟩=>(by cases e),λ⟨_,e,_⟩=>(by cases e)⟩
 |some s'=>exact propext ⟨λh=>⟨s',rfl,by simpa only [wp_ok] using h⟩,λ⟨t,e,h⟩=>by cases e;simpa only [wp_ok] using h⟩
theorem FX {env:Env} {s:ae} {Q:D->ae->Prop}:Wp (rX env s) Q=Q (.aj s.length) (s++[.dT []]):=by unfold rX;rw[wp_ok]
theorem FY:∀{ps:List Pg},ps.Pairwise (λa b=>fb.lt a b=true)->wb ps=true
 | [],_=>rfl
 | [a],_=>rfl
 |a::b::r,h=>by
  obtain⟨h1,h2⟩:=Xx.mp h;have ih:=FY h2;unfold wb at ih |-;simp only[List.drop_succ_cons,List.drop_zero,Yc,List.all_cons,WK] at ih |-;exact⟨h1 b WR,ih⟩
theorem NH {ps:List Pg} (h:ps.Nodup):(ST.jl fb ps).Pairwise λa b=>fb.lt a b=true:=by
 have h1:=ST.EG (O:=fb) ps;have h2:(ST.jl fb ps).Nodup:=(ST.uH ps).nodup_iff.mpr h;refine(h1.and h2).imp λ{a b} tm=>?_
 cases hl:fb.lt a b with
 |true=>rfl
 |false=>exact(tm.2 (fb.tW a b hl tm.1)).elim
theorem FZ {W:World} {R:Pg->Prop} {s:ae} {j n:Nat} {env:Env} {Q:D->ae->Prop} (h:cS W R s j n) (hn:n<64) (hj:env[1]?=some (some (.aj j)))
  (q:∀ps:List Pg,(∀p∈ps,R p)->ps.length<=n->(ps.Pairwise λa b=>fb.lt a b=true)->Q (bD ps) s):Wp (eB dB (af (eB nE (af (eB nD (af (aa 1) ai)) ai)) ai) env s) Q:=by
 obtain⟨ps,e,dW,len⟩:=h;have e1:aa 1 env s=ok (.aj j) s:=by unfold aa;rw[hj]
 have e2:nD [.aj j] s=ok (.lst (ps.map Pg.d)) s:=by
  unfold nD;simp only[e];rw[if_pos (by rw[WJ];exact iP (by omega)),Ye];rfl
 have e3:nE [.lst (ps.map Pg.d)] s=ok (.lst ((ST.jl fb ps).map Pg.d)) s:=by
  unfold nE;simp only[res];rw[if_pos (by rw[WJ];omega),EL];rfl
 simp only[wp_eB,wp_aCons,wp_aNil];refine Wp.of e1 (Wp.of e2 (Wp.of e3 ?_));refine Wp.of (show dB [.lst ((ST.jl fb ps).map Pg.d)] s=ok (bD (ST.jl fb ps)) s from rfl) (q _ (λp hp=>dW.2 p ((ST.uH ps).mem_iff.mp hp)) (by rw[(ST.uH ps).length_eq];exact len) (NH dW.1))
theorem Wp.zF {i j k:Nat} {fa:Env->ae->Res (List D)} {env:Env} {s:ae} {QF:Fl->ae->Prop} (h:Wp (fa env s) λds s=>∃x y z,ds=[x,y,z]/\QF (.nx (((env.set i (some x)).set j (some y)).set k (some z))) s):Wp (nZ i j k fa env s) QF:=by
 unfold nZ;refine Wp.ar (h.mono λds s ⟨x,y,z,e,q⟩=>?_);subst e;exact Wp.ok q
theorem Sd {xs:List Int} {i:Int} {s:ae} (h0:0<=i) (h1:i<xs.length):∃x∈xs,ao (lI xs) (.int i) s=ok (.int x) s:=by
 obtain⟨x,e1,e2⟩:=mi h0 h1;refine⟨x,YF e2,?_⟩;simp only[ao,gU,res,lI,FP,e1,YC,bI]
abbrev lX (p:Pg):Prop:=eG p=true
structure Laid (ps:List Pg):Prop where
 pg:∀p∈ps,eG p=true
 up:ps.Pairwise λa b=>fb.lt a b=true
theorem Laid.jF {ps:List Pg} (h:Laid ps) (hl:ps.length<=24):jF ps=true:=by
 unfold DI.jF;rw[decide_eq_true hl,XO.mpr h.pg,FY h.up];rfl
theorem Laid.sub {ps qs:List Pg} (h:Laid ps) (hs:qs.Sublist ps):Laid qs:=⟨λp hp=>h.pg p (hs.subset hp),h.up.sublist hs⟩
theorem Mv {W:World} {s:ae} {k j n:Nat} {mo la ms:Int} {a5 a6 a7 a8 a9:Option D} {Q:Fl->ae->Prop} (h:aY s k) (hd:cS W lX s j n) (fH:j≠k) (hn:n<1000) (m1:0<mo) (m2:mo<=4) (l1:0<la) (l2:la<=31) (s1:0<ms) (s2:ms<=4)
  (q:∀(b5 b6 b7 b8 b9:Option D) (s':ae),aY s' k->cS W lX s' j (n+1)->(∀s0,s0.length<=j->Ex k s0 s->Ex k s0 s')->Q (.nx [some (.aj k),some (.aj j),some (.int mo),some (.int la),some (.int ms),b5,b6,b7,b8,b9]) s') :
  Wp ((ay (sk 6 7 (af (ax bj (af (aa 0) (af (aa 2) ai))) (af (ax bj (af (aa 0) (af (aa 3) ai))) ai))) (bA (aF (e2 aS (ax bj (af (aa 0) (af (eC (.int 4)) ai))) (eC (.int 0)))) (TK.iR W (eC (.bl true)) (aa 1) (bz (af (eC (.str "mended")) (af (aa 6) (af (aa 7) (af (ax bj (af (aa 0) (af (aa 4) ai))) ai)))))) (ay (aN (ax jz (af (aa 0) (af (aa 4) ai))) (gN 8)) (ay (aN (eB dB (af (aV 1 [8] (aU (ax jz (af (aa 0) (af (aa 4) ai)))) (gN 0) (aF (e2 cq (aa 0) (aa 1))) (aa 0)) ai)) (gN 9)) (TK.iR W (eC (.bl true)) (aa 1) (bz (af (eC (.str "made")) (af (aa 6) (af (aa 7) (af (bz (af (aa 8) (af (aa 9) ai))) ai)))))))))) [some (.aj k),some (.aj j),some (.int mo),some (.int la),some (.int ms),a5,a6,a7,a8,a9] s) Q:=by
 try simp only[VC]
 refine(dA h m1 (by omega)).mono λd t1 ik=>?_;obtain⟨x1,rfl,kL,kM,h1,e1⟩:=ik
 try simp only[VC]
 refine(dA h1 l1 (by omega)).mono λd t2 hd2=>?_;obtain⟨x2,rfl,oW,oX,h2,e2⟩:=hd2
 try simp only[VC]
 refine(dA h2 (by decide) (by decide)).mono λd t3 Bz=>?_;obtain⟨x3,rfl,_,_,h3,e3⟩:=Bz;have d3:=hd.ex (e1.trans (e2.trans e3)) fH
 try simp only[VC]
 split
 ·rw[vA]
  try simp only[VC]
  refine(dA h3 s1 (by omega)).mono λd t4 BA=>?_;obtain⟨x4,rfl,Vf,Vg,h4,e4⟩:=BA;refine⟨by decide,?_⟩;obtain⟨c,ec,dc⟩:=zh (p:=.bP x1 x2 x4) (d3.ex e4 fH) (Ed (by omega) (by omega) (by omega)) hn;exact⟨_,ec,q _ _ _ _ _ _ (h4.set fH c) dc λs0 l0 x0=>(x0.trans (e1.trans (e2.trans (e3.trans e4)))).oV l0 c⟩
 ·obtain⟨n4,rfl⟩:∃n4:Nat,ms=n4:=⟨ms.toNat,by omega⟩
  refine(rj h3 (by omega)).mono λd t4 BA=>?_;obtain⟨u1,rfl,k1,h4,e4⟩:=BA;have hi:∀{env:Env} {t:ae},aY t k->env[0]?=some (some (.aj k))->env[4]?=some (some (.int n4))->Wp (aU (ax jz (af (aa 0) (af (aa 4) ai))) env t) λds t'=>∃ns,ds=ns.map D.int/\cW n4 ns/\aY t' k/\Ex k t t':=λ{env t} ht z0 z4=>by
   obtain⟨d,t',e,ns,rfl,r⟩:=rj (n:=n4) ht (by omega);refine Wp.of (je (s1:=t') (ds:=ns.map D.int) (Wp.eq ?_)) ⟨ns,rfl,r⟩
   try simp only[VC]
   refine Wp.of (show aa 0 env t=ok (.aj k) t by unfold aa;rw[z0]) (Wp.of (show aa 4 env t=ok (.int n4) t by unfold aa;rw[z4]) (Wp.of e ⟨rfl,rfl⟩))
  try simp only[VC]
  refine(hi h4 rfl rfl).mono λds t5 Vh=>?_;obtain⟨u2,rfl,k2,h5,e5⟩:=Vh;refine⟨iP (by rw[WJ];have:=k2.len;omega),?_⟩;refine Wp.of (iu (λx=>!decide (x∈u1)) (λx=>.int x) u2 λx _=>⟨[some (.int x),some (mD u1)],rfl,?_,λ_=>rfl⟩) ?_
  ·refine Wp.eq ?_
   simp only[VC,uO,and_self]
  ·refine Wp.of (show dB [.lst ((u2.filter λx=>!decide (x∈u1)).map λx=>.int x)] t5=ok (mD (u2.filter λx=>!decide (x∈u1))) t5 from rfl) ?_
   rw[vA]
   try simp only[VC]
   refine⟨by decide,by decide,?_⟩;have ll:(u2.filter λx=>!decide (x∈u1)).length<=8:=W7 (X7 _ _) (by have:=k2.len;omega);obtain⟨c,ec,dc⟩:=zh (p:=.made x1 x2 u1 (u2.filter λx=>!decide (x∈u1))) (d3.ex (e4.trans e5) fH) (Ee (by omega) (by omega) k1 (k2.filter _) (by omega) λx hx hl=>by simpa [hx] using (XF.mp hl).2) hn;exact⟨_,ec,q _ _ _ _ _ _ (h5.set fH c) dc λs0 l0 x0=>(x0.trans (e1.trans (e2.trans (e3.trans (e4.trans e5))))).oV l0 c⟩
theorem O0 {W:World} {s:ae} {k:Nat} (h:aY s k):Wp (vo W [.aj k] s) λd s'=>∃ps,d=bD ps/\(∀p∈ps,fk p)/\ps.length<=24/\aY s' k/\Ex k s s'/\Laid ps:=by
 have hk:=h.lt;have fH:s.length≠k:=by omega
 unfold vo;simp only[wp_fn,wp_sSeq,wp_sAsg,asg_N,aft_nx,FX,W4,XT,Xn,XG,W5,W9,WM,true_and,Nat.reduceSub,Nat.reduceAdd,WY,WZ];have d0:cS W lX (s++[.dT []]) s.length 0:=⟨[],by simp,⟨.nil,λ_ h=>(XQ h).elim⟩,Nat.le_refl _⟩;have h0:aY (s++[.dT []]) k:=h.app _;refine Wp.zF ?_
 try simp only[VC]
 refine(dA h0 (by decide) (by decide)).mono λd t1 ik=>?_;obtain⟨x1,rfl,kL,kM,h1,e1⟩:=ik
 try simp only[VC]
 refine⟨by decide,?_⟩;refine(dA h1 (by decide) (by decide)).mono λd t2 hd2=>?_;obtain⟨x2,rfl,oW,oX,h2,e2⟩:=hd2;obtain⟨la,Jm,Vi⟩:=Sd (xs:=[3,8,31]) (s:=t2) oW (by simpa using oX);refine Wp.of Vi ?_;refine(dA h2 (by decide) (by decide)).mono λd t3 Bz=>?_;obtain⟨x3,rfl,Wx,Wy,h3,e3⟩:=Bz
 try simp only[VC]
 refine⟨_,_,_,rfl,?_⟩
 try simp only[VC]
 have Il:0<la/\la<=31:=by
  simp only[W3,XQ,or_false] at Jm
  rcases Jm with rfl|rfl|rfl<;>decide
 have dt:=d0.ex (e1.trans (e2.trans e3)) fH;have ext:Ex k s t3:=(Ex.app k s _).trans (e1.trans (e2.trans e3));obtain⟨d4,t4,e4,x4,rfl,Vf,Vg,h4,Jn⟩:=dA (m:=25) h3 (by decide) (by decide);have Vj:=dt.ex Jn fH;have TF:=ext.trans Jn;refine Wp.of (vw (s1:=t4) (n:=x4.toNat) (i:=x4) (Wp.eq ?_) (by omega) (by omega)) ?_
 ·simp only[VC]
  exact Wp.of e4 ⟨rfl,rfl⟩
 refine Wp.fY (λi env s'=>i<=x4.toNat->∃b5 b6 b7 b8 b9,env=[some (.aj k),some (.aj s.length),some (.int (1+x1)),some (.int la),some (.int (1+x3)),b5,b6,b7,b8,b9]/\aY s' k/\cS W lX s' s.length i/\Ex k s s') _ (λ_=>⟨_,_,_,_,_,rfl,h4,Vj,TF⟩) (λi d env s' hd hI=>?_) (λenv s' hI=>?_)
 ·rw[fP] at hd
  split at hd
  ·rename_i hi
   cases hd;obtain⟨b5,b6,b7,b8,b9,rfl,g1,g2,g3⟩:=hI (by omega);refine⟨_,rfl,?_⟩;exact Mv g1 g2 fH (by omega) (by omega) (by omega) Il.1 Il.2 (by omega) (by omega) λc5 c6 c7 c8 c9 s2 k1 k2 k3=>(λ_=>⟨_,_,_,_,_,rfl,k1,k2,k3 s (Nat.le_refl _) g3⟩)
  ·cases hd
 ·rw[cX] at hI
  obtain⟨b5,b6,b7,b8,b9,rfl,g1,g2,g3⟩:=hI (Nat.le_refl _);simp only[wp_sRet,aft_nx,fin_rt];exact FZ (g2.more (m:=24) (by omega)) (by decide) rfl λps hp hl hu=>⟨ps,rfl,λp h=>Ef (hp p h),hl,g1,g3,hp,hu⟩
end DI
namespace DI
open PySem L2 TK
def cT (s:ae) (j n:Nat):Prop:=∃ns:List Int,s[j]?=some (.lst (ns.map D.int))/\ns.length<=n
theorem cT.lt {s:ae} {j n:Nat} (h:cT s j n):j<s.length:=by
 obtain⟨ps,e,_⟩:=h;exact(WO.mp e).1
theorem cT.ex {s s':ae} {j n k:Nat} (h:cT s j n) (x:Ex k s s') (hj:j≠k):cT s' j n:=by
 have hl:=h.lt;obtain⟨ps,e,r⟩:=h;exact⟨ps,(x.val j hl hj).trans e,r⟩
theorem cT.set {s:ae} {j n i:Nat} (h:cT s j n) (hi:i≠j) (c:Cell):cT (s.set i c) j n:=by
 obtain⟨ps,e,r⟩:=h;exact⟨ps,by rw[Xa hi];exact e,r⟩
theorem cT.app {s:ae} {j n:Nat} (h:cT s j n) (c:List Cell):cT (s++c) j n:=by
 have hl:=h.lt;obtain⟨ps,e,r⟩:=h;exact⟨ps,by rw[W0 hl];exact e,r⟩
theorem G3 {s:ae} {j n:Nat} {x:Int} (h:cT s j n) (hn:n<1000):gv (.aj j) s=true/\∃c,fW (.aj j) (.int x) s=ok .aB (s.set j c)/\cT (s.set j c) j (n+1):=by
 have hl:=h.lt;obtain⟨ns,e,len⟩:=h;refine⟨by simp only[gv,e],.lst ((ns++[x]).map D.int),?_,ns++[x],Xc hl,by simp;omega⟩;unfold fW;simp only[e];rw[if_pos (by rw[decide_eq_true_eq,WJ];exact WL (show ns.length<1000 by omega) (le_size (by decide)))];simp
theorem E4 {s:ae} {j n:Nat} {x:Int} (h:cT s j n):∃b,cq (.int x) (.aj j) s=ok (.bl b) s:=by
 obtain⟨ns,e,len⟩:=h;have h2:cq (.int x) (.aj j) s=cq (.int x) (lI ns) s:=by
  simp only[cq,kh,res,e]
 exact⟨_,h2.trans ni⟩
theorem NI {s:ae} {k m n:Nat} (h:aY s k) (hm:cT s m n) (Jo:m≠k):Wp (pH [.aj k,.aj m] s) λd s'=>∃ds:List Int,d=lI ds/\ds.length<=31/\aY s' k/\Ex k s s':=by
 unfold pH;rw[wp_fn];refine⟨rfl,?_⟩;rw[wp_sSeq];refine Wp.zF ?_
 try simp only[VC]
 refine(dA h (by decide) (by decide)).mono λd t1 ik=>?_;obtain⟨x1,rfl,kL,kM,h1,e1⟩:=ik
 try simp only[VC]
 refine⟨by decide,?_⟩;have fH:t1.length≠k:=by have:=h1.lt;omega
 refine(dA (h1.app _) (by decide) (by decide)).mono λd t2 hd2=>?_;obtain⟨x2,rfl,oW,oX,h2,e2⟩:=hd2
 try simp only[VC]
 refine⟨_,_,_,rfl,?_⟩
 try simp only[VC]
 have Jp:Ex k s t2:=e1.trans ((Ex.app k t1 _).trans e2);have i2:cT t2 t1.length 0:=cT.ex (s:=t1++[Cell.lst []]) ⟨[],by simp,Nat.le_refl _⟩ e2 fH;have hlen:s.length<=t1.length:=e1.len;refine Wp.of (eR (n:=31) rfl (by decide)) ?_;have Vk:m≠t1.length:=by have:=hm.lt;omega
 refine Wp.fY (λi env s'=>i<=31->∃b a5,env=[some (.aj k),some (.aj m),some (.bl b),some (.aj t1.length),some (.int (2+x2)),a5]/\aY s' k/\cT s' t1.length i/\cT s' m n/\Ex k s s') _ (λ_=>⟨_,_,rfl,h2,i2,hm.ex Jp Jo,Jp⟩) (λi d env s' hd hI=>?_) (λenv s' hI=>?_)
 ·rw[fP] at hd
  split at hd
  ·rename_i hi
   cases hd;obtain⟨b,a5,rfl,g1,g2,g3,g4⟩:=hI (by omega);refine⟨_,rfl,?_⟩;simp only[VC];have fin:∀(c:Bool) (s2:ae),aY s2 k->cT s2 t1.length i->cT s2 m n->Ex k s s2 ->
     if c=true then gv (.aj t1.length) s2=true/\Wp (fW (.aj t1.length) (.int (0+(i:Int))) s2) λx s3=>i+1<=31->∃b a5,([some (.aj k),some (.aj m),some (.bl c),some (.aj t1.length),some (.int (2+x2)),some (.int (0+(i:Int)))]:Env)=[some (.aj k),some (.aj m),some (.bl b),some (.aj t1.length),some (.int (2+x2)),a5]/\aY s3 k/\cT s3 t1.length (i+1)/\cT s3 m n/\Ex k s s3
     else i+1<=31->∃b a5,([some (.aj k),some (.aj m),some (.bl c),some (.aj t1.length),some (.int (2+x2)),some (.int (0+(i:Int)))]:Env)=[some (.aj k),some (.aj m),some (.bl b),some (.aj t1.length),some (.int (2+x2)),a5]/\aY s2 k/\cT s2 t1.length (i+1)/\cT s2 m n/\Ex k s s2:=λc s2 k1 k2 k3 k4=>by
    cases c with
    |true =>
     obtain⟨q1,cc,q2,q3⟩:=G3 (x:=0+(i:Int)) k2 (by omega);rw[if_pos rfl];exact⟨q1,Wp.of q2 λ_=>⟨_,_,rfl,k1.set fH cc,q3,k3.set (Zx Vk) cc,k4.oV hlen cc⟩⟩
    |false =>
     rw[if_neg WV];obtain⟨ns,z1,z2⟩:=k2;exact λ_=>⟨_,_,rfl,k1,⟨ns,z1,by omega⟩,k3,k4⟩
   cases b with
   |true =>
    simp only[if_true];obtain⟨b2,eb⟩:=E4 (x:=0+(i:Int)) g3;refine Wp.of eb ?_;simp only[wp_truB];exact fin b2 s' g1 g2 g3 g4
   |false =>
    simp only[WH,if_false];refine(dA g1 (by omega) (by omega)).mono λd s2 hd2=>?_;obtain⟨x3,rfl,_,_,k1,e3⟩:=hd2;have k2:=g2.ex e3 fH;have k3:=g3.ex e3 Jo;have k4:=g4.trans e3;simp only[wp_eqI,wp_isBl]
    cases (x3==0) with
    |true =>
     simp only[if_true];obtain⟨b2,eb⟩:=E4 (x:=0+(i:Int)) k3;refine Wp.of eb ?_;simp only[wp_truB];exact fin b2 s2 k1 k2 k3 k4
    |false =>
     simp only[WH,if_false,wp_truB];exact fin false s2 k1 k2 k3 k4
  ·cases hd
 ·rw[cX] at hI
  obtain⟨b,a5,rfl,g1,⟨ns,z1,z2⟩,g3,g4⟩:=hI (Nat.le_refl _);simp only[VC];refine Wp.of (show cL (.aj t1.length) s'=ok (lI ns) (s'.set t1.length .dead) from by simp only[cL,z1]) ?_;exact⟨ns,rfl,z2,g1.set fH _,g4.oV hlen _⟩
end DI
namespace DI
open PySem L2 TK
theorem cT.more {s:ae} {j n m:Nat} (h:cT s j n) (hm:n<=m):cT s j m:=by
 obtain⟨ns,e,l⟩:=h;exact⟨ns,e,by omega⟩
def fc (s:ae) (j n:Nat):Prop:=∃ls:List (List Int),s[j]?=some (.lst (ls.map lI))/\ls.length=n
theorem fc.lt {s:ae} {j n:Nat} (h:fc s j n):j<s.length:=by
 obtain⟨ps,e,_⟩:=h;exact(WO.mp e).1
theorem fc.ex {s s':ae} {j n k:Nat} (h:fc s j n) (x:Ex k s s') (hj:j≠k):fc s' j n:=by
 have hl:=h.lt;obtain⟨ps,e,r⟩:=h;exact⟨ps,(x.val j hl hj).trans e,r⟩
theorem fc.set {s:ae} {j n i:Nat} (h:fc s j n) (hi:i≠j) (c:Cell):fc (s.set i c) j n:=by
 obtain⟨ps,e,r⟩:=h;exact⟨ps,by rw[Xa hi];exact e,r⟩
theorem F0 {s:ae} {j n:Nat} {ds:List Int} (h:fc s j n) (hn:n<1000):gv (.aj j) s=true/\∃c,fW (.aj j) (lI ds) s=ok .aB (s.set j c)/\fc (s.set j c) j (n+1):=by
 have hl:=h.lt;obtain⟨ns,e,len⟩:=h;refine⟨by simp only[gv,e],.lst ((ns++[ds]).map lI),?_,ns++[ds],Xc hl,by simp;omega⟩;unfold fW;simp only[e];rw[if_pos (by rw[decide_eq_true_eq,WJ];exact WL (show ns.length<1000 by omega) (le_size (by decide)))];simp
structure BI (W:World) (k j b n q:Nat) (s0 s:ae):Prop where
 st:aY s k
 dict:cS W lX s j n
 bP:∀i,i<8->cT s (b+i) q
 ext:Ex k s0 s
section
variable {W:World} {k j b n q:Nat} {s0 s:ae}
theorem BI.draw (h:BI W k j b n q s0 s) (hj:j≠k) (hb:∀i,i<8->b+i≠k) {s':ae} (x:Ex k s s') (hs:aY s' k):BI W k j b n q s0 s' :=
 ⟨hs,h.dict.ex x hj,λi hi=>(h.bP i hi).ex x (hb i hi),h.ext.trans x⟩
theorem BI.put (h:BI W k j b n q s0 s) (hj:j≠k) (lY:∀i,i<8->b+i≠j) (hl:s0.length<=j) {p:Pg} (hf:eG p=true) (hn:n<1000):∃s',mG W (.aj j) p.d (.bl true) s=some s'/\BI W k j b (n+1) q s0 s'/\Ex j s s':=by
 obtain⟨c,e,d⟩:=zh h.dict hf hn;exact⟨_,e,⟨h.st.set hj c,d,λi hi=>(h.bP i hi).set (Zx (lY i hi)) c,h.ext.oV hl c⟩,Ex.set j s c⟩
end
noncomputable def memD (b:Nat):D:=.lst ((WW 8).map λi:Nat=>D.aj (b+i))
theorem G4 {b:Nat} {i:Int} {s:ae} (h0:0<=i) (h1:i<8):ao (memD b) (.int i) s=ok (.aj (b+i.toNat)) s:=by
 obtain⟨x,e1,e2⟩:=mi (xs:=(WW 8).map λi:Nat=>D.aj (b+i)) h0 (by simpa using h1);have:x=.aj (b+i.toNat):=by
  rw[W6,XJ (by omega)] at e2;exact(Option.some.inj e2).symm
 subst this;simp only[ao,gU,res,memD,e1,bI]
theorem Mw {W:World} {k j b n q:Nat} {s0 s:ae} {mo of mu:Int} {a6 a7 a8 a9 iI gW:Option D} {Q:Fl->ae->Prop} (h:BI W k j b n q s0 s) (hj:j≠k) (hb:∀i,i<8->b+i≠k) (lY:∀i,i<8->b+i≠j) (hl:s0.length<=j) (Vl:s0.length<=b) (hn:n<1000) (hq:q<1000) (qN:0<=mu/\mu<4)
  (g:∀(b8 b9:Option D) (s':ae),BI W k j b (n+1) (q+1) s0 s'->(∀t,t<s.length->t≠k->t≠j->(∀i,i<8->b+i≠t)->s'[t]?=s[t]?)->Q (.nx [some (.aj k),some (.aj j),some (.int mo),some (.int of),some (.int mu),some (memD b),a6,a7,b8,b9,iI,gW]) s') :
  Wp ((ay (aN (bz (af (ax bj (af (aa 0) (af (eC (.int 8)) ai))) (af (ax bj (af (aa 0) (af (eC (.int 31)) ai))) ai))) (gT [(gN 8),(gN 9)])) (ay (cP (eJ (e2 ao (aa 5) (aa 8)) (aa 9))) (TK.iR W (eC (.bl true)) (aa 1) (bz (af (eC (.str "mended")) (af (aa 4) (af (aa 9) (af (aa 8) ai)))))))) [some (.aj k),some (.aj j),some (.int mo),some (.int of),some (.int mu),some (memD b),a6,a7,a8,a9,iI,gW] s) Q:=by
 simp only[VC];refine(dA h.st (by decide) (by decide)).mono λd t1 ik=>?_;obtain⟨x1,rfl,kL,kM,h1,e1⟩:=ik;refine(dA h1 (by decide) (by decide)).mono λd t2 hd2=>?_;obtain⟨x2,rfl,oW,oX,h2,e2⟩:=hd2;refine⟨by decide,?_⟩
 try simp only[VC]
 refine Wp.of (G4 kL kM) ?_;have B2:=h.draw hj hb (e1.trans e2) h2;obtain⟨q1,c,q2,q3⟩:=G3 (x:=x2) (B2.bP x1.toNat (by omega)) hq;refine⟨q1,Wp.of q2 ?_⟩;have hx:=hb x1.toNat (by omega);have Vm:=lY x1.toNat (by omega);have B3:BI W k j b n (q+1) s0 (t2.set (b+x1.toNat) c):=⟨B2.st.set hx c,B2.dict.set Vm c,λi hi=>by
  by_cases qJ:i=x1.toNat
  ·subst qJ;exact q3
  ·exact((B2.bP i hi).set (by omega) c).more (by omega),B2.ext.oV (by omega) c⟩
 rw[vA];simp only[VC];refine⟨by decide,?_⟩;obtain⟨s',e,B4,e4⟩:=B3.put hj lY hl (p:=.bP mu x2 x1) (Ed qN ⟨oW,oX⟩ ⟨kL,kM⟩) hn;refine⟨s',e,g _ _ _ B4 λt ht IE Vn Vo=>?_⟩;have l2:s.length<=t2.length:=(e1.trans e2).len;rw[e4.val t (by rw[XZ];omega) Vn,Xa (Vo _ (by omega)),(e1.trans e2).val t ht IE]
end DI
namespace DI
open PySem L2 TK
theorem Mx {W:World} {k j b n q:Nat} {s0 s:ae} {mo of mu:Int} {a5 a7 a8 a9 iI gW:Option D} {Q:Fl->ae->Prop} (h:BI W k j b n q s0 s) (L:fc s (b+8) 8) (hj:j≠k) (hb:∀i,i<8->b+i≠k) (j3:b+8≠k) (lY:∀i,i<8->b+i≠j) (oY:b+8≠j) (hl:s0.length<=j) (hn:n<1000) (o1:0<of) (o2:of<=3) (qN:0<=mu/\mu<4)
  (g:∀(b9 bW bX:Option D) (s':ae),BI W k j b (n+1) q s0 s'->fc s' (b+8) 8->Q (.nx [some (.aj k),some (.aj j),some (.int mo),some (.int of),some (.int mu),a5,some (.aj (b+8)),a7,a8,b9,bW,bX]) s') :
  Wp ((ay (aN (ax bj (af (aa 0) (af (eC (.int 31)) ai))) (gN 9)) (ay (aN (aV 1 [0,3] (bM (af (eC (.int 8)) ai)) (gN 0) (aF (e2 aS (ax bj (af (aa 1) (af (aa 2) ai))) (eC (.int 0)))) (aa 0)) (gN 10)) (ay (aN (eB dB (af (aV 1 [9,6] (aU (aa 10)) (gN 0) (aF (e2 bU (aa 1) (e2 ao (aa 2) (aa 0)))) (aa 0)) ai)) (gN 11)) (TK.iR W (eC (.bl true)) (aa 1) (bz (af (eC (.str "made")) (af (aa 4) (af (aa 9) (af (bz (af (aa 11) (af (eB dB (af (aV 1 [9,6] (aU (aa 10)) (gN 0) (aF (e2 cq (aa 1) (e2 ao (aa 2) (aa 0)))) (aa 0)) ai)) ai))) ai))))))))) [some (.aj k),some (.aj j),some (.int mo),some (.int of),some (.int mu),a5,some (.aj (b+8)),a7,a8,a9,iI,gW] s) Q:=by
 rw[wp_sSeq];simp only[VC];refine(dA h.st (by decide) (by decide)).mono λd t1 ik=>?_;obtain⟨x1,rfl,kL,kM,h1,e1⟩:=ik;have B1:=h.draw hj hb e1 h1;have L1:=L.ex e1 j3
 try simp only[VC]
 refine Wp.of (eR (n:=8) rfl (by decide)) ⟨by rw[cX];exact le_size (by decide),?_⟩;have seen:Wp (fx 1 (dE [0,3] [some (.aj k),some (.aj j),some (.int mo),some (.int of),some (.int mu),a5,some (.aj (b+8)),a7,a8,some (.int x1),iI,gW]) (gN 0) (aF (e2 aS (ax bj (af (aa 1) (af (aa 2) ai))) (eC (.int 0)))) (aa 0) (bV 0 8) t1)
   λxs s'=>∃ns:List Int,xs=ns.map D.int/\(∀x∈ns,0<=x/\x<8)/\(ns.Pairwise (· < ·)/\ns.length<=8)/\BI W k j b n q s0 s'/\fc s' (b+8) 8:=by
  refine rq (λi acc s'=>i<=8->∃ns:List Int,acc=ns.map D.int/\(∀x∈ns,0<=x/\x<8/\x<i)/\(ns.Pairwise (· < ·)/\ns.length<=i)/\BI W k j b n q s0 s'/\fc s' (b+8) 8) (bV 0 8) (λ_=>⟨[],rfl,by simp,⟨.nil,Nat.le_refl _⟩,B1,L1⟩) (λi d acc s' hd hI=>?_) λacc s' hI=>?_
  ·rw[fP] at hd
   split at hd
   ·rename_i hi
    cases hd;obtain⟨ns,rfl,m1,⟨xj,m2⟩,B,L'⟩:=hI (by omega);refine⟨[some (.int (0+i)),some (.aj k),some (.int of)],rfl,?_⟩;simp only[VC];refine(dA B.st o1 (by omega)).mono λd t2 hd2=>?_;obtain⟨x2,rfl,_,_,h2,e2⟩:=hd2
    try simp only[VC]
    have B':=B.draw hj hb e2 h2;have L2:=L'.ex e2 j3;split
    ·exact λ_=>⟨ns++[0+(i:Int)],by simp,λx hx=>by
      rcases XX.mp hx with hx|hx
      ·have:=m1 x hx;omega
      ·rw[Yk.mp hx];omega,⟨aaN.mpr ⟨xj,aac _ _,λa ha b hb=>by rw[Yk.mp hb];have:=m1 a ha;omega⟩,by simp;omega⟩,B',L2⟩
    ·exact λ_=>⟨ns,rfl,λx hx=>by have:=m1 x hx;omega,⟨xj,by omega⟩,B',L2⟩
   ·cases hd
  ·rw[cX] at hI
   obtain⟨ns,e,m1,r⟩:=hI (Nat.le_refl _);exact⟨ns,e,λx hx=>⟨(m1 x hx).1,(m1 x hx).2.1⟩,r⟩
 refine seen.mono λxs t2 hx=>?_;obtain⟨ns,rfl,m1,⟨xj,m2⟩,B2,ls,le,ll⟩:=hx;have mk:cW 8 ns:=⟨m1,xj⟩
 try simp only[VC]
 have Jq:∀x∈ns,∃ds:List Int,ao (.aj (b+8)) (.int x) t2=ok (lI ds) t2:=λx hx=>by
  obtain⟨y,e1,e2⟩:=mi (xs:=ls) (m1 x hx).1 (by have:=(m1 x hx).2;omega);refine⟨y,?_⟩;simp only[ao,gU,res,le,FP,e1,YC,bI]
 refine Wp.of (jf (ds:=ns.map D.int) rfl) ⟨iP (by rw[WJ];omega),?_⟩;have pick:∃p:Int->Bool,∀x∈ns,aF (e2 bU (aa 1) (e2 ao (aa 2) (aa 0))) [some (.int x),some (.int x1),some (.aj (b+8))] t2=ok (p x) t2/\aF (e2 cq (aa 1) (e2 ao (aa 2) (aa 0))) [some (.int x),some (.int x1),some (.aj (b+8))] t2=ok (!p x) t2:=by
  refine⟨λx=>if h:x∈ns then decide (x1∈Classical.choose (Jq x h)) else false,λx hx=>?_⟩
  have e:=Classical.choose_spec (Jq x hx);simp only[dif_pos hx];constructor
  ·refine Wp.eq ?_
   simp only[VC];refine Wp.of e ?_;simp only[VC,nN,and_self]
  ·refine Wp.eq ?_
   simp only[VC];refine Wp.of e ?_;simp only[VC,ni,and_self]
 obtain⟨p,hp⟩:=pick;refine Wp.of (iu p (λx=>.int x) ns λx hx=>⟨[some (.int x),some (.int x1),some (.aj (b+8))],rfl,(hp x hx).1,λ_=>rfl⟩) ?_;refine Wp.of (show dB [.lst ((ns.filter p).map λx=>.int x)] t2=ok (mD (ns.filter p)) t2 from rfl) ?_;rw[vA];simp only[VC];refine Wp.of (jf (ds:=ns.map D.int) rfl) ⟨iP (by rw[WJ];omega),?_⟩;refine Wp.of (iu (λx=>!p x) (λx=>.int x) ns λx hx=>⟨[some (.int x),some (.int x1),some (.aj (b+8))],rfl,(hp x hx).2,λ_=>rfl⟩) ?_;refine Wp.of (show dB [.lst ((ns.filter λx=>!p x).map λx=>.int x)] t2=ok (mD (ns.filter λx=>!p x)) t2 from rfl) ?_;refine⟨by decide,by decide,?_⟩;obtain⟨s',e,B4,e4⟩:=B2.put hj lY hl (p:=.made mu x1 (ns.filter p) (ns.filter λx=>!p x)) (Ee qN ⟨kL,kM⟩ (mk.filter _) (mk.filter _) (Nat.le_refl _) λx hx hl=>by simpa [(XF.mp hx).2] using (XF.mp hl).2) hn;exact⟨s',e,g _ _ _ _ B4 (fc.ex (⟨ls,le,ll⟩:fc t2 (b+8) 8) e4 oY)⟩
theorem My {W:World} {k j b n q i:Nat} {s0 s:ae} {mo of mu:Int} {a7 a9 iI gW:Option D} {Q:Fl->ae->Prop} (h:BI W k j b n q s0 s) (L:fc s (b+8) i) (hi:i<8) (hj:j≠k) (hb:∀i,i<8->b+i≠k) (j3:b+8≠k) (oY:b+8≠j) (Vl:s0.length<=b)
  (g:∀s',BI W k j b n q s0 s'->fc s' (b+8) (i+1)->Q (.nx [some (.aj k),some (.aj j),some (.int mo),some (.int of),some (.int mu),some (memD b),some (.aj (b+8)),a7,some (.int i),a9,iI,gW]) s') :
  Wp ((cP (eJ (aa 6) (ax pH (af (aa 0) (af (e2 ao (aa 5) (aa 8)) ai))))) [some (.aj k),some (.aj j),some (.int mo),some (.int of),some (.int mu),some (memD b),some (.aj (b+8)),a7,some (.int i),a9,iI,gW] s) Q:=by
 simp only[VC];obtain⟨q1,_⟩:=F0 (ds:=[]) L (by omega);refine⟨q1,?_⟩;refine Wp.of (G4 (i:=(i:Int)) (by omega) (by omega)) ?_;rw[Xm];refine(NI h.st (h.bP i hi) (hb i hi)).mono λd t1 hd=>?_;obtain⟨ds,rfl,_,h1,e1⟩:=hd;obtain⟨_,c,q2,q3⟩:=F0 (ds:=ds) (L.ex e1 j3) (by omega);have B1:=h.draw hj hb e1 h1;refine Wp.of q2 (g _ ⟨B1.st.set j3 c,B1.dict.set oY c,λi hi=>(B1.bP i hi).set (by omega) c,B1.ext.oV (by omega) c⟩ q3)
end DI
namespace DI
open PySem L2 TK
theorem O1 {env:Env} {s:ae} {Q:D->ae->Prop} (q:Q (memD s.length) (s++WM 8 (.lst []))):Wp (aV 1 [] (bM (af (eC (.int 8)) ai)) (gN 0) ck (eNew ai) env s) Q:=by
 rw[wp_comp];refine Wp.of (eR (n:=8) rfl (by decide)) ⟨by rw[cX];exact le_size (by decide),?_⟩;refine rq (λi acc s'=>acc=(WW i).map (λx:Nat=>D.aj (s.length+x))/\s'=s++WM i (.lst [])) (bV 0 8) ⟨rfl,by simp⟩ (λi d acc s' hd hI=>?_) λacc s' hI=>?_
 ·obtain⟨rfl,rfl⟩:=hI
  rw[fP] at hd;split at hd
  ·cases hd
   refine⟨[some (.int (0+i))],rfl,?_⟩;refine Wp.of (show ck _ _=ok true _ from rfl) ?_;rw[if_pos rfl];simp only[wp_new,wp_aNil];refine⟨by decide,?_,?_⟩
   ·rw[YN,Xz]
    simp
   ·rw[List.replicate_succ',X3]
  ·cases hd
 ·rw[cX] at hI
  obtain⟨rfl,rfl⟩:=hI;exact q
theorem Lo {W:World} {k j n:Nat} {s0 s:ae} {mo of mu:Int} {a5 a6 a7 a8 a9 iI gW:Option D} {Q:Fl->ae->Prop} (h:aY s k) (hd:cS W lX s j n) (x0:Ex k s0 s) (hj:j≠k) (hl:s0.length<=j) (hn:n<900) (o1:0<of) (o2:of<=3) (qN:0<=mu/\mu<4)
  (g:∀(b5 b6 b7 b8 b9 bW bX:Option D) (s':ae),aY s' k->cS W lX s' j (n+7)->Ex k s0 s'->Q (.nx [some (.aj k),some (.aj j),some (.int mo),some (.int of),some (.int mu),b5,b6,b7,b8,b9,bW,bX]) s') :
  Wp ((ay (aN (bz (af (aV 1 [] (bM (af (eC (.int 8)) ai)) (gN 0) ck (eNew ai)) (af (eNew ai) ai))) (gT [(gN 5),(gN 6)])) (ay (cJ (bM (af (ax bj (af (aa 0) (af (eC (.int 4)) ai))) ai)) (gN 7) (ay (aN (bz (af (ax bj (af (aa 0) (af (eC (.int 8)) ai))) (af (ax bj (af (aa 0) (af (eC (.int 31)) ai))) ai))) (gT [(gN 8),(gN 9)])) (ay (cP (eJ (e2 ao (aa 5) (aa 8)) (aa 9))) (TK.iR W (eC (.bl true)) (aa 1) (bz (af (eC (.str "mended")) (af (aa 4) (af (aa 9) (af (aa 8) ai))))))))) (ay (cJ (bM (af (eC (.int 8)) ai)) (gN 8) (cP (eJ (aa 6) (ax pH (af (aa 0) (af (e2 ao (aa 5) (aa 8)) ai)))))) (cJ (bM (af (ax bj (af (aa 0) (af (eC (.int 5)) ai))) ai)) (gN 7) (ay (aN (ax bj (af (aa 0) (af (eC (.int 31)) ai))) (gN 9)) (ay (aN (aV 1 [0,3] (bM (af (eC (.int 8)) ai)) (gN 0) (aF (e2 aS (ax bj (af (aa 1) (af (aa 2) ai))) (eC (.int 0)))) (aa 0)) (gN 10)) (ay (aN (eB dB (af (aV 1 [9,6] (aU (aa 10)) (gN 0) (aF (e2 bU (aa 1) (e2 ao (aa 2) (aa 0)))) (aa 0)) ai)) (gN 11)) (TK.iR W (eC (.bl true)) (aa 1) (bz (af (eC (.str "made")) (af (aa 4) (af (aa 9) (af (bz (af (aa 11) (af (eB dB (af (aV 1 [9,6] (aU (aa 10)) (gN 0) (aF (e2 cq (aa 1) (e2 ao (aa 2) (aa 0)))) (aa 0)) ai)) ai))) ai))))))))))))) [some (.aj k),some (.aj j),some (.int mo),some (.int of),some (.int mu),a5,a6,a7,a8,a9,iI,gW] s) Q:=by
 have hk:=h.lt;have Wz:=hd.lt;have i7:s0.length<=s.length:=x0.len;rw[wp_sSeq];simp only[wp_sAsg,wp_tup,wp_aCons,wp_aNil];refine O1 ?_;simp only[wp_new,wp_aNil];refine⟨by decide,le_size (by simp only[W5,W9];decide),?_⟩;simp only[asg_T,asg_cons,asg_nil,WY,WZ,aft_nx];generalize fG:s++WM 8 (Cell.lst [])++[Cell.lst []]=s1;have Vp:(s++WM 8 (Cell.lst [])).length=s.length+8:=by simp
 rw[Vp];have e1:Ex k s s1:=by rw[<- fG,X3];exact Ex.app k s _
 have B1:BI W k j s.length n 0 s0 s1:=by
  refine⟨by rw[<- fG,X3];exact h.app _,hd.ex e1 hj,λi hi=>⟨[],?_,Nat.le_refl _⟩,x0.trans e1⟩;rw[<- fG,X3,Xr (by omega),W0 (by simp;omega),show s.length+i-s.length=i by omega,X5,if_pos hi];rfl
 have L1:fc s1 (s.length+8) 0:=⟨[],by rw[<- fG,Xr (by simp)];simp,rfl⟩;have hb:∀i,i<8->s.length+i≠k:=λi _=>by omega
 have lY:∀i,i<8->s.length+i≠j:=λi _=>by omega
 have j3:s.length+8≠k:=by omega
 have oY:s.length+8≠j:=by omega
 have l1:s.length+8<s1.length:=L1.lt;rw[wp_sSeq,wp_sFor];obtain⟨_,t1,et,x1,rfl,kL,kM,h1,Jr⟩:=dA (m:=4) B1.st (by decide) (by decide);refine Wp.of (vw (s1:=t1) (n:=x1.toNat) (i:=x1) (Wp.eq (by simp only[VC];exact Wp.of et ⟨rfl,rfl⟩)) (by omega) (by omega)) ?_;have B2:=B1.draw hj hb Jr h1;have L2:=L1.ex Jr j3;refine Wp.fY (λi env s'=>i<=x1.toNat->∃b7 b8 b9 bW bX,env=[some (.aj k),some (.aj j),some (.int mo),some (.int of),some (.int mu),some (memD s.length),some (.aj (s.length+8)),b7,b8,b9,bW,bX]/\BI W k j s.length (n+i) i s0 s'/\fc s' (s.length+8) 0) _ (λ_=>⟨_,_,_,_,_,rfl,B2,L2⟩) (λi d env s' hd hI=>?_) (λenv s' hI=>?_)
 ·rw[fP] at hd
  split at hd
  ·cases hd
   obtain⟨b7,b8,b9,bW,bX,rfl,B,L⟩:=hI (by omega);refine⟨_,rfl,?_⟩;exact Mw B hj hb lY hl i7 (by omega) (by omega) qN λc8 c9 s2 B' keep=>(λ_=>⟨_,_,_,_,_,rfl,B',by
    obtain⟨ls,le,ll⟩:=L;exact⟨ls,(keep _ (WO.mp le).1 j3 oY λi hi=>by omega).trans le,ll⟩⟩)
  ·cases hd
 rw[cX] at hI;obtain⟨b7,b8,b9,bW,bX,rfl,B3,L3⟩:=hI (Nat.le_refl _);rw[aft_nx,wp_sSeq,wp_sFor];refine Wp.of (eR (n:=8) rfl (by decide)) ?_;refine Wp.fY (λi env s'=>i<=8->∃b7 b8 b9 bW bX,env=[some (.aj k),some (.aj j),some (.int mo),some (.int of),some (.int mu),some (memD s.length),some (.aj (s.length+8)),b7,b8,b9,bW,bX]/\BI W k j s.length (n+x1.toNat) x1.toNat s0 s'/\fc s' (s.length+8) i) _ (λ_=>⟨_,_,_,_,_,rfl,B3,L3⟩) (λi d env s' hd hI=>?_) (λenv s' hI=>?_)
 ·rw[fP] at hd
  split at hd
  ·rename_i hi
   cases hd;obtain⟨b7,b8,b9,bW,bX,rfl,B,L⟩:=hI (by omega);refine⟨_,rfl,?_⟩;simp only[aa5,WY,WZ];exact My B L hi hj hb j3 oY i7 λs2 B' L'=>(λ_=>⟨_,_,_,_,_,rfl,B',L'⟩)
  ·cases hd
 rw[cX] at hI;obtain⟨b7,b8,b9,bW,bX,rfl,B4,L4⟩:=hI (Nat.le_refl _);rw[aft_nx,wp_sFor];obtain⟨_,t5,Vq,x5,rfl,WA,WB,h5,Js⟩:=dA (m:=5) B4.st (by decide) (by decide);refine Wp.of (vw (s1:=t5) (n:=x5.toNat) (i:=x5) (Wp.eq (by simp only[VC];exact Wp.of Vq ⟨rfl,rfl⟩)) (by omega) (by omega)) ?_;have B5:=B4.draw hj hb Js h5;have L5:=L4.ex Js j3;refine Wp.fY (λi env s'=>i<=x5.toNat->∃b7 b8 b9 bW bX,env=[some (.aj k),some (.aj j),some (.int mo),some (.int of),some (.int mu),some (memD s.length),some (.aj (s.length+8)),b7,b8,b9,bW,bX]/\BI W k j s.length (n+x1.toNat+i) x1.toNat s0 s'/\fc s' (s.length+8) 8) _ (λ_=>⟨_,_,_,_,_,rfl,B5,L5⟩) (λi d env s' hd hI=>?_) (λenv s' hI=>?_)
 ·rw[fP] at hd
  split at hd
  ·rename_i hi
   cases hd;obtain⟨b7,b8,b9,bW,bX,rfl,B,L⟩:=hI (by omega);refine⟨_,rfl,?_⟩;exact Mx B L hj hb j3 lY oY hl (by omega) o1 o2 qN λc9 Vr Vs s2 B' L'=>(λ_=>⟨_,_,_,_,_,rfl,B',L'⟩)
  ·cases hd
 rw[cX] at hI;obtain⟨b7,b8,b9,bW,bX,rfl,B6,L6⟩:=hI (Nat.le_refl _);exact g _ _ _ _ _ _ _ _ B6.st (B6.dict.more (by omega)) B6.ext
theorem O2 {W:World} {s:ae} {k:Nat} (h:aY s k):Wp (vn W [.aj k] s) λd s'=>∃ps,d=bD ps/\(∀p∈ps,fk p)/\ps.length<=24/\aY s' k/\Ex k s s'/\Laid ps:=by
 have hk:=h.lt;have fH:s.length≠k:=by omega
 unfold vn;rw[wp_fn];refine⟨rfl,?_⟩;rw[wp_sSeq];simp only[wp_sAsg,wp_tup,wp_aCons,wp_aNil,FX];have d0:cS W lX (s++[.dT []]) s.length 0:=⟨[],by simp,⟨.nil,λ_ h=>(XQ h).elim⟩,Nat.le_refl _⟩;have h0:aY (s++[.dT []]) k:=h.app _
 try simp only[VC]
 refine(dA h0 (by decide) (by decide)).mono λd t1 ik=>?_;obtain⟨x1,rfl,kL,kM,h1,e1⟩:=ik
 try simp only[VC]
 refine(dA h1 (by decide) (by decide)).mono λd t2 hd2=>?_;obtain⟨x2,rfl,oW,oX,h2,e2⟩:=hd2
 try simp only[VC]
 refine⟨by decide,?_⟩;have dt:=d0.ex (e1.trans e2) fH;have ext:Ex k s t2:=(Ex.app k s _).trans (e1.trans e2)
 try simp only[VC]
 refine Wp.of (vw (s1:=t2) (n:=(1+x1).toNat) (i:=1+x1) rfl (by omega) (by omega)) ?_;refine Wp.fY (λi env s'=>i<=(1+x1).toNat->∃b4 b5 b6 b7 b8 b9 bW bX,env=[some (.aj k),some (.aj s.length),some (.int (1+x1)),some (.int (1+x2)),b4,b5,b6,b7,b8,b9,bW,bX]/\aY s' k/\cS W lX s' s.length (7*i)/\Ex k s s') _ (λ_=>⟨_,_,_,_,_,_,_,_,rfl,h2,dt,ext⟩) (λi d env s' hd hI=>?_) (λenv s' hI=>?_)
 ·rw[fP] at hd
  split at hd
  ·rename_i hi
   cases hd;obtain⟨b4,b5,b6,b7,b8,b9,bW,bX,rfl,g1,g2,g3⟩:=hI (by omega);refine⟨_,rfl,?_⟩;exact Lo g1 g2 g3 fH (Nat.le_refl _) (by omega) (by omega) (by omega) (by omega) λc5 c6 c7 c8 c9 Vr Vs s2 k1 k2 k3=>(λ_=>⟨_,_,_,_,_,_,_,_,rfl,k1,k2.more (by omega),k3⟩)
  ·cases hd
 ·rw[cX] at hI
  obtain⟨b4,b5,b6,b7,b8,b9,bW,bX,rfl,g1,g2,g3⟩:=hI (Nat.le_refl _);simp only[wp_sRet,aft_nx,fin_rt];exact FZ (g2.more (m:=24) (by omega)) (by decide) rfl λps hp hl hu=>⟨ps,rfl,λp h=>Ef (hp p h),hl,g1,g3,hp,hu⟩
end DI
namespace DI
open PySem L2 TK
section
variable (ps:List Pg) (m k:Int)
noncomputable def sN (d:Nat):Bool:=decide ((d:Int)∈shown ps m k)
noncomputable def lN (d:Nat):Bool:=decide ((d:Int)∈dC ps m k)
noncomputable def mN (d:Nat):Bool:=decide ((d:Int)∈cE ps m k)
noncomputable def ja:List Int:=((WW 31).filter λd=>pr (sN ps m k) (mN ps m k) d).map λd:Nat=>(d:Int)
noncomputable def il:List Int:=((WW 31).filter λn=>ab (lN ps m k) (mN ps m k) (30-n)).map λn:Nat=>((30-n:Nat):Int)
end
theorem O3 {ps:List Pg} (h:gZ ps=true) {m k:Int} (hm:0<=m/\m<4) (hk:0<=k/\k<8):FV (sN ps m k) (lN ps m k) (mN ps m k):=by
 intro d e hs WC he hc;simp only[sN,lN,mN,decide_eq_true_eq] at hs hc;have c:=NG h hm hk hs (l:=(e:Int)) (by omega) (by omega);unfold oU at c;have c1:(decide ((e:Int)∈dC ps m k)||(decide ((e:Int)=(d:Int))&&decide ((d:Int)∈cE ps m k)))=true:=by
  rcases hc with hc | ⟨h1,h2⟩
  ·rw[decide_eq_true hc];rfl
  ·rw[decide_eq_true (show (e:Int)=d by omega),decide_eq_true h2];simp
 rw[c1,Xq,Bool.not_eq_false'] at c;unfold Au at c;obtain⟨x,hx,hb⟩:=Zq.mp c;simp only[WK,decide_eq_true_eq] at hb;refine⟨x.toNat,by omega,by omega,?_⟩;simp only[mN,decide_eq_true_eq];rw[show ((x.toNat:Nat):Int)=x by omega];exact hx
theorem O4 {ps:List Pg} {m k:Int} {d:Nat} (h:d<=30):decide ((d:Int)∈ja ps m k)=pr (sN ps m k) (mN ps m k) d:=by
 have:(d:Int)∈ja ps m k↔pr (sN ps m k) (mN ps m k) d=true:=by
  unfold ja;rw[XN];constructor
  ·rintro ⟨e,he,hd⟩
   have:e=d:=by omega
   rw[<- this];exact(XF.mp he).2
  ·intro hp
   exact⟨d,XF.mpr ⟨Xy.mpr (by omega),hp⟩,rfl⟩
 cases hp:pr (sN ps m k) (mN ps m k) d with
 |true=>exact decide_eq_true (this.mpr hp)
 |false=>exact decide_eq_false λz=>by rw[this.mp z] at hp;cases hp
theorem O5 {ps:List Pg} {m k:Int} {d:Nat} (h:d<=30):decide ((d:Int)∈il ps m k)=ab (lN ps m k) (mN ps m k) d:=by
 have:(d:Int)∈il ps m k↔ab (lN ps m k) (mN ps m k) d=true:=by
  unfold il;rw[XN];constructor
  ·rintro ⟨e,he,hd⟩
   obtain⟨h1,h2⟩:=XF.mp he;have:=Xy.mp h1;have:30-e=d:=by omega
   rw[<- this];exact h2
  ·intro hp
   exact⟨30-d,XF.mpr ⟨Xy.mpr (by omega),by rw[show 30-(30-d)=d by omega];exact hp⟩,by omega⟩
 cases hp:ab (lN ps m k) (mN ps m k) d with
 |true=>exact decide_eq_true (this.mpr hp)
 |false=>exact decide_eq_false λz=>by rw[this.mp z] at hp;cases hp
theorem F1 {s:ae} {ns:List Int} {x:Int} (hn:ns.length<1000):gv (.aj s.length) (s++[.lst (ns.map D.int)])=true/\fW (.aj s.length) (.int x) (s++[.lst (ns.map D.int)])=ok .aB (s++[.lst ((ns++[x]).map D.int)]):=by
 have e:(s++[Cell.lst (ns.map D.int)])[s.length]?=some (.lst (ns.map D.int)):=by simp
 refine⟨by simp only[gv,e],?_⟩;unfold fW;simp only[e];rw[if_pos (by rw[decide_eq_true_eq,WJ];exact WL hn (le_size (by decide)))];simp[Ym]
theorem F2 {s:ae} {ns:List Int}:cL (.aj s.length) (s++[.lst (ns.map D.int)])=ok (lI ns) (s++[.dead]):=by
 have e:(s++[Cell.lst (ns.map D.int)])[s.length]?=some (.lst (ns.map D.int)):=by simp
 simp only[cL,e];simp[Ym]
theorem DC {p:Nat->Bool} {f:Nat->Int} {i:Nat}:((WW (i+1)).filter p).map f=((WW i).filter p).map f++(if p i=true then [f i] else []):=by
 rw[YN,Zw,Xz];congr 1
 cases h:p i<;>simp[h]
theorem Eg {p:Nat->Bool} {f:Nat->Int} {i:Nat}:(((WW i).filter p).map f).length<=i:=by
 rw[WJ];exact W7 (X7 _ _) (by rw[Yn];exact Nat.le_refl _)
noncomputable def pv (s m:Nat->Bool):Nat->Bool
 |0=>false
 |i+1=>pr s m i
theorem Lp {ps:List Pg} {m k:Int} {s:ae} (hl:ps.length<=1000):ua [bD ps,.int m,.int k] s=ok (lI (ja ps m k)) (s++[.dead]):=by
 refine Wp.eq ?_;unfold ua;simp only[VC];refine Wp.of (vz hl).1 ?_;refine Wp.of (yJ hl) ?_
 try simp only[VC]
 refine⟨by decide,?_⟩;refine Wp.of (eR (n:=31) rfl (by decide)) ?_;refine Wp.fY (λi env s'=>i<=31->∃a7,env=[some (bD ps),some (.int m),some (.int k),some (lI (shown ps m k)),some (lI (cE ps m k)),some (.aj s.length),some (.bl (pv (sN ps m k) (mN ps m k) i)),a7]/\s'=s++[.lst ((((WW i).filter λd=>pr (sN ps m k) (mN ps m k) d).map λd:Nat=>(d:Int)).map D.int)]) _ (λ_=>⟨_,rfl,rfl⟩) (λi d env s' hd hI=>?_) (λenv s' hI=>?_)
 ·rw[fP] at hd
  split at hd
  ·rename_i hi
   cases hd;obtain⟨a7,rfl,rfl⟩:=hI (by omega);refine⟨_,rfl,?_⟩;have e0:(0:Int)+(i:Int)=i:=by omega
   have key:(decide ((i:Int)∈shown ps m k)||(pv (sN ps m k) (mN ps m k) i&&!decide ((i:Int)∈cE ps m k)))=pr (sN ps m k) (mN ps m k) i:=by
    cases i with
    |zero=>simp[pv,pr,sN]
    |succ i=>rfl
   have fin:∀c:Bool,c=pr (sN ps m k) (mN ps m k) i->if c=true then gv (.aj s.length) (s++[.lst ((((WW i).filter λd=>pr (sN ps m k) (mN ps m k) d).map λd:Nat=>(d:Int)).map D.int)])=true/\Wp (fW (.aj s.length) (.int (0+(i:Int))) (s++[.lst ((((WW i).filter λd=>pr (sN ps m k) (mN ps m k) d).map λd:Nat=>(d:Int)).map D.int)])) λx s'=>i+1<=31->∃a7,([some (bD ps),some (.int m),some (.int k),some (lI (shown ps m k)),some (lI (cE ps m k)),some (.aj s.length),some (.bl c),some (.int (0+(i:Int)))]:Env)=[some (bD ps),some (.int m),some (.int k),some (lI (shown ps m k)),some (lI (cE ps m k)),some (.aj s.length),some (.bl (pv (sN ps m k) (mN ps m k) (i+1))),a7]/\s'=s++[.lst ((((WW (i+1)).filter λd=>pr (sN ps m k) (mN ps m k) d).map λd:Nat=>(d:Int)).map D.int)]
     else i+1<=31->∃a7,([some (bD ps),some (.int m),some (.int k),some (lI (shown ps m k)),some (lI (cE ps m k)),some (.aj s.length),some (.bl c),some (.int (0+(i:Int)))]:Env)=[some (bD ps),some (.int m),some (.int k),some (lI (shown ps m k)),some (lI (cE ps m k)),some (.aj s.length),some (.bl (pv (sN ps m k) (mN ps m k) (i+1))),a7]/\s++[.lst ((((WW i).filter λd=>pr (sN ps m k) (mN ps m k) d).map λd:Nat=>(d:Int)).map D.int)]=s++[.lst ((((WW (i+1)).filter λd=>pr (sN ps m k) (mN ps m k) d).map λd:Nat=>(d:Int)).map D.int)]:=λc hc=>by
    rw[DC];have hv:pv (sN ps m k) (mN ps m k) (i+1)=c:=hc.symm;rw[hv,<- hc]
    cases c with
    |true =>
     rw[if_pos rfl];obtain⟨q1,q2⟩:=F1 (s:=s) (ns:=((WW i).filter λd=>pr (sN ps m k) (mN ps m k) d).map λd:Nat=>(d:Int)) (x:=0+(i:Int)) (Nat.lt_of_le_of_lt Eg (by omega));exact⟨q1,Wp.of q2 λ_=>⟨_,rfl,by rw[e0];rfl⟩⟩
    |false =>
     rw[if_neg WV];exact λ_=>⟨_,rfl,by simp⟩
   simp only[VC,nN,e0];rw[e0] at fin;by_cases c1:(i:Int)∈shown ps m k
   ·simp only[c1,decide_true,if_true]
    exact fin true (by rw[<- key,decide_eq_true c1];rfl)
   ·simp only[c1,decide_false,WH,if_false]
    cases hp:pv (sN ps m k) (mN ps m k) i with
    |false =>
     simp only[VC,WH,if_false];exact fin false (by rw[<- key,decide_eq_false c1,hp];rfl)
    |true =>
     simp only[VC,if_true,ni];exact fin _ (by rw[<- key,decide_eq_false c1,hp];rfl)
  ·cases hd
 ·rw[cX] at hI
  obtain⟨a7,rfl,rfl⟩:=hI (Nat.le_refl _);simp only[VC];exact Wp.of F2 ⟨rfl,rfl⟩
end DI
namespace DI
open PySem L2 TK
noncomputable def downs:List D:=(WW 31).map λn:Nat=>D.int ((30-n:Nat):Int)
theorem QS {env:Env} {s:ae}:Bo (af (eC (.int 31)) ai) env s=ok downs s:=by
 have:(bV 0 31).reverse=downs:=by rfl
 rw[<- this];rfl
theorem Mz {i:Nat}:downs[i]?=if i<31 then some (.int ((30-i:Nat):Int)) else none:=by
 unfold downs;rw[W6];by_cases h:i<31
 ·rw[if_pos h,XJ h];rfl
 ·rw[if_neg h,Xt (by simpa using h)];rfl
noncomputable abbrev iJ (ps:List Pg) (m k:Int) (i:Nat):List Int:=((WW i).filter λn=>ab (lN ps m k) (mN ps m k) (30-n)).map λn:Nat=>((30-n:Nat):Int)
theorem MA {ps:List Pg} {m k:Int} {s:ae} (hl:ps.length<=1000):uh [bD ps,.int m,.int k] s=ok (lI (il ps m k)) (s++[.dead]):=by
 refine Wp.eq ?_;unfold uh;simp only[VC];refine Wp.of (vz hl).2 ?_;refine Wp.of (yJ hl) ?_
 try simp only[VC]
 refine⟨by decide,?_⟩;refine Wp.of QS ?_;refine Wp.fY (λi env s'=>i<=31->∃a7,env=[some (bD ps),some (.int m),some (.int k),some (lI (dC ps m k)),some (lI (cE ps m k)),some (.aj s.length),some (.bl (gj (lN ps m k) (mN ps m k) i)),a7]/\s'=s++[.lst ((iJ ps m k i).map D.int)]) _ (λ_=>⟨_,rfl,rfl⟩) (λi d env s' hd hI=>?_) (λenv s' hI=>?_)
 ·rw[Mz] at hd
  split at hd
  ·rename_i hi
   cases hd;obtain⟨a7,rfl,rfl⟩:=hI (by omega);refine⟨_,rfl,?_⟩;generalize hd:((30-i:Nat):Int)=d;have ea:ab (lN ps m k) (mN ps m k) (30-i)=(gj (lN ps m k) (mN ps m k) i||(decide (d∈dC ps m k)||decide (d∈cE ps m k))):=by
    unfold ab br lN mN;rw[show 31-(30-i+1)=i by omega,hd]
   have eb:gj (lN ps m k) (mN ps m k) (i+1)=((gj (lN ps m k) (mN ps m k) i||decide (d∈dC ps m k))&&!decide (d∈cE ps m k)):=by
    show ((gj _ _ i||lN ps m k (30-i))&&!mN ps m k (30-i))=_;unfold lN mN;rw[hd]
   have sec:∀s2,s2=s++[.lst ((iJ ps m k (i+1)).map D.int)]->Wp (aN (cZ (kE (aa 6) (e2 bU (aa 7) (aa 3))) (e2 cq (aa 7) (aa 4))) (gN 6) [some (bD ps),some (.int m),some (.int k),some (lI (dC ps m k)),some (lI (cE ps m k)),some (.aj s.length),some (.bl (gj (lN ps m k) (mN ps m k) i)),some (.int d)] s2) λfl s'=>match fl with
     | .nx env=>i+1<=31->∃a7,env=[some (bD ps),some (.int m),some (.int k),some (lI (dC ps m k)),some (lI (cE ps m k)),some (.aj s.length),some (.bl (gj (lN ps m k) (mN ps m k) (i+1))),a7]/\s'=s++[.lst ((iJ ps m k (i+1)).map D.int)]
     | .ct env=>i+1<=31->∃a7,env=[some (bD ps),some (.int m),some (.int k),some (lI (dC ps m k)),some (lI (cE ps m k)),some (.aj s.length),some (.bl (gj (lN ps m k) (mN ps m k) (i+1))),a7]/\s'=s++[.lst ((iJ ps m k (i+1)).map D.int)]
     | .bk env=>oS (aP (jn (aa 5))) (sv λa s'=>a=lI (il ps m k)/\s'=s++[.dead]) (.nx env) s'
     | .rt d=>oS (aP (jn (aa 5))) (sv λa s'=>a=lI (il ps m k)/\s'=s++[.dead]) (.rt d) s':=λs2 cB=>by
    simp only[VC,nN,ni];rw[eb]
    cases gj (lN ps m k) (mN ps m k) i with
    |true =>
     simp only[VC,if_true,ni];exact λ_=>⟨some (.int d),by simp,cB⟩
    |false =>
     simp only[WH,if_false,Bool.false_or];by_cases c:d∈dC ps m k
     ·simp only[VC,c,decide_true,if_true,ni]
      exact λ_=>⟨some (.int d),by simp,cB⟩
     ·simp only[c,decide_false,WH,if_false]
      exact λ_=>⟨some (.int d),by simp,cB⟩
   have Jt:=F1 (s:=s) (ns:=iJ ps m k i) (x:=d) (Nat.lt_of_le_of_lt Eg (by omega))
   have st:iJ ps m k (i+1)=iJ ps m k i++(if ab (lN ps m k) (mN ps m k) (30-i)=true then [d] else []):=by
    rw[<- hd];exact DC
   have yes:ab (lN ps m k) (mN ps m k) (30-i)=true->Wp (cP (eJ (aa 5) (aa 7)) [some (bD ps),some (.int m),some (.int k),some (lI (dC ps m k)),some (lI (cE ps m k)),some (.aj s.length),some (.bl (gj (lN ps m k) (mN ps m k) i)),some (.int d)] (s++[.lst ((iJ ps m k i).map D.int)])) λfl s'=>fl=.nx [some (bD ps),some (.int m),some (.int k),some (lI (dC ps m k)),some (lI (cE ps m k)),some (.aj s.length),some (.bl (gj (lN ps m k) (mN ps m k) i)),some (.int d)]/\s'=s++[.lst ((iJ ps m k (i+1)).map D.int)]:=λha=>by
    simp only[VC];refine⟨Jt.1,Wp.of Jt.2 ?_⟩;rw[st,ha];simp
   have no:ab (lN ps m k) (mN ps m k) (30-i)=false->s++[Cell.lst ((iJ ps m k i).map D.int)]=s++[Cell.lst ((iJ ps m k (i+1)).map D.int)]:=λha=>by
    rw[st,ha];simp
   have go:∀{c:Bool},c=ab (lN ps m k) (mN ps m k) (30-i)->∀{Q:Fl->ae->Prop},(∀s2,s2=s++[.lst ((iJ ps m k (i+1)).map D.int)]->Q (.nx [some (bD ps),some (.int m),some (.int k),some (lI (dC ps m k)),some (lI (cE ps m k)),some (.aj s.length),some (.bl (gj (lN ps m k) (mN ps m k) i)),some (.int d)]) s2)->if c=true then Wp (cP (eJ (aa 5) (aa 7)) [some (bD ps),some (.int m),some (.int k),some (lI (dC ps m k)),some (lI (cE ps m k)),some (.aj s.length),some (.bl (gj (lN ps m k) (mN ps m k) i)),some (.int d)] (s++[.lst ((iJ ps m k i).map D.int)])) Q else Wp (bL [some (bD ps),some (.int m),some (.int k),some (lI (dC ps m k)),some (lI (cE ps m k)),some (.aj s.length),some (.bl (gj (lN ps m k) (mN ps m k) i)),some (.int d)] (s++[.lst ((iJ ps m k i).map D.int)])) Q:=λ{c} hc {Q} q=>by
    cases c with
    |true =>
     rw[if_pos rfl];exact(yes hc.symm).mono λfl s2 ⟨e1,e2⟩=>by subst e1;exact q s2 e2
    |false =>
     rw[if_neg WV,wp_sNil];exact q _ (no hc.symm)
   rw[wp_sSeq,wp_sIf];simp only[wp_tOr,wp_tru,wp_loc0,wp_locS,wp_truB,wp_tBl,wp_e2,nN,wp_ok,wp_isBl,WY,WZ];rw[ea] at go
   cases hb:gj (lN ps m k) (mN ps m k) i with
   |true =>
    simp only[if_true];rw[hb] at go sec;exact go (c:=true) rfl λs2 h2=>sec s2 h2
   |false =>
    simp only[WH,if_false];rw[hb] at go sec;by_cases c:d∈dC ps m k
    ·simp only[c,decide_true,if_true]
     exact go (c:=true) (by simp[c]) λs2 h2=>sec s2 h2
    ·simp only[c,decide_false,WH,if_false]
     exact go (by simp[c]) λs2 h2=>sec s2 h2
  ·cases hd
 ·rw[show downs.length=31 from rfl] at hI
  obtain⟨a7,rfl,rfl⟩:=hI (Nat.le_refl _);simp only[VC];exact Wp.of F2 ⟨rfl,rfl⟩
end DI
namespace DI
open PySem L2 TK
noncomputable def oZ (F:Int->List Int):D:=.lst (k8.map λk=>lI (F k))
theorem QT {F:Int->List Int} {k:Int} {s:ae} (h:0<=k/\k<8):ao (oZ F) (.int k) s=ok (lI (F k)) s:=by
 obtain⟨x,e1,e2⟩:=mi (xs:=k8.map λk=>lI (F k)) h.1 (by show k<8;exact h.2);have:x=lI (F k):=by
  rw[W6] at e2;have e3:k8[k.toNat]?=some k:=by
   unfold k8;rw[W6,XJ (by omega)];simp;omega
  rw[e3] at e2;exact(Option.some.inj e2).symm
 subst this;simp only[ao,gU,res,oZ,e1,bI]
theorem Im:bV 0 8=k8.map D.int:=rfl
theorem HD {F:Int->List Int} {d:Int} {s:ae}:qW [oZ F,.int d] s=ok (mD (k8.filter λk=>decide (d∈F k))) s:=by
 refine Wp.eq ?_;unfold qW;simp only[VC];refine Wp.of (eR (n:=8) rfl (by decide)) ⟨by rw[cX];exact le_size (by decide),?_⟩;rw[Im];refine Wp.of (iu (λk=>decide (d∈F k)) (λk=>.int k) k8 λk hk=>⟨[some (.int k),some (.int d),some (oZ F)],rfl,?_,λ_=>rfl⟩) ?_
 ·refine Wp.eq ?_
  simp only[VC];refine Wp.of (QT (vL.mp hk)) ?_;simp only[VC,nN,and_self]
 ·exact Wp.of (show dB [.lst ((k8.filter λk=>decide (d∈F k)).map λk=>.int k)] s=ok (mD (k8.filter λk=>decide (d∈F k))) s from rfl) ⟨rfl,rfl⟩
noncomputable def gL:List Int:=(WW 31).map λi:Nat=>(i:Int)
theorem HE:bV 0 31=gL.map D.int:=by unfold gL;rw[yI,Ye];congr 1;funext i;simp
noncomputable def lM (P A:Int->List Int) (d:Int):D:=.tup [mD (k8.filter λk=>decide (d∈P k)),mD (k8.filter λk=>decide (d∈A k))]
theorem F3 {fn:List D->ae->Res D} {F:Int->List Int} {b:D} {mu:Int} (hf:∀k s,fn [b,.int mu,.int k] s=ok (lI (F k)) (s++[.dead])) {env:Env} {s:ae} (e0:env[0]?=some (some b)) (e1:env[1]?=some (some (.int mu))) {Q:D->ae->Prop} (q:∀c,Q (oZ F) (s++c)) :
  Wp (aV 1 [0,1] (bM (af (eC (.int (8))) ai)) (gN 0) ck (ax fn (af (aa 1) (af (aa 2) (af (aa 0) ai)))) env s) Q:=by
 rw[wp_comp];refine Wp.of (eR (n:=8) rfl (by decide)) ⟨by rw[cX];exact le_size (by decide),?_⟩;have ec:dE [0,1] env=[some b,some (.int mu)]:=by simp[dE,e0,e1]
 rw[ec];refine rq (λi acc s'=>i<=8->acc=((WW i).map λi:Nat=>(i:Int)).map (λk=>lI (F k))/\∃c,s'=s++c) (bV 0 8) (λ_=>⟨rfl,[],by simp⟩) (λi d acc s' hd hI=>?_) λacc s' hI=>?_
 ·rw[fP] at hd
  split at hd
  ·rename_i hi
   cases hd;obtain⟨rfl,c,rfl⟩:=hI (by omega);refine⟨[some (.int (0+i)),some b,some (.int mu)],rfl,?_⟩;refine Wp.of (show ck _ _=ok true _ from rfl) ?_;rw[if_pos rfl];simp only[VC];refine Wp.of (hf (0+(i:Int)) _) λ_=>⟨?_,c++[.dead],by simp⟩;rw[YN,Xz,Xz];simp
  ·cases hd
 ·rw[cX] at hI
  obtain⟨rfl,c,rfl⟩:=hI (Nat.le_refl _);exact q c
theorem F4 {ps:List Pg} {m:Int} {s:ae} (hl:ps.length<=1000):Wp (ph [bD ps,.int m] s) λd s'=>d=.lst (gL.map (lM (ja ps m) (il ps m)))/\∃c,s'=s++c:=by
 unfold ph;rw[wp_fn];refine⟨rfl,?_⟩;rw[wp_sSeq,wp_sAsg];refine F3 (b:=bD ps) (mu:=m) (λk s=>Lp hl) rfl rfl λc=>?_;simp only[asg_N,W4,XT,Xn,XG,WM,Nat.reduceSub,WY,WZ,aft_nx];rw[wp_sSeq,wp_sAsg];refine F3 (b:=bD ps) (mu:=m) (λk s=>MA hl) rfl rfl λc'=>?_;simp only[asg_N,WY,WZ,aft_nx,wp_sRet,wp_comp,fin_rt];refine Wp.of (eR (n:=31) rfl (by decide)) ⟨by rw[cX];exact le_size (by decide),?_⟩;rw[HE];refine Wp.of (iu (λ_=>true) (lM (ja ps m) (il ps m)) gL λd hd=>⟨[some (.int d),some (oZ (ja ps m)),some (oZ (il ps m))],rfl,rfl,λ_=>?_⟩) ?_
 ·refine Wp.eq ?_
  simp only[VC];refine Wp.of HD ?_;refine Wp.of HD ?_;exact⟨by decide,rfl,rfl⟩
 ·rw[filter_tt]
  exact⟨rfl,c++c',by simp⟩
end DI
namespace DI
open PySem L2 TK
noncomputable def iY (x:Bool×Bool):List Bool:=(if x.1=true then [false] else [])++(if x.2=true then [true] else [])
noncomputable abbrev fK (x:Bool×Bool):D:=.lst ((iY x).map D.bl)
theorem KJ (x:Bool×Bool) (p:Bool->Bool):(iY x).filter p=iY (x.1&&p false,x.2&&p true):=by
 obtain⟨f,t⟩:=x
 cases f<;>cases t<;>cases h1:p false<;>cases h2:p true<;>simp[iY,h1,h2]
noncomputable abbrev Rw:=Nat->Bool×Bool
noncomputable abbrev rY (R:Rw):Cell:=.lst ((WW 31).map λd=>fK (R d))
noncomputable abbrev fy (F:Nat->Bool):Cell:=.lst ((WW 32).map λd=>D.bl (F d))
noncomputable abbrev cf (s:ae) (R:Rw) (F:Nat->Bool):ae:=s++[rY R,fy F]
noncomputable def dG {α:Type} (R:Nat->α) (d:Nat) (x:α):Nat->α:=λe=>if e=d then x else R e
theorem Aw (s:ae) (R:Rw) (F:Nat->Bool):(cf s R F)[s.length]?=some (rY R):=by simp[cf]
theorem Io (s:ae) (R:Rw) (F:Nat->Bool):(cf s R F)[s.length+1]?=some (fy F):=by simp[cf]
theorem vB {α:Type} {n:Nat} {f:Nat->α} {d:Int} (h0:0<=d) (h1:d<n):dJ ((WW n).map f) d=some (f d.toNat):=by
 obtain⟨x,e1,e2⟩:=mi (xs:=(WW n).map f) h0 (by simpa using h1);rw[W6,XJ (by omega)] at e2;rw[e1];exact e2.symm
theorem rK {s:ae} {R:Rw} {F:Nat->Bool} {d:Int} (h0:0<=d) (h1:d<31):ao (.aj s.length) (.int d) (cf s R F)=ok (fK (R d.toNat)) (cf s R F):=by
 simp only[ao,gU,res,Aw,vB h0 h1,bI]
theorem F5 {s:ae} {R:Rw} {F:Nat->Bool} {d:Int} (h0:0<=d) (h1:d<32):ao (.aj (s.length+1)) (.int d) (cf s R F)=ok (.bl (F d.toNat)) (cf s R F):=by
 simp only[ao,gU,res,Io,vB h0 h1,bI]
theorem F6 {α:Type} {n d:Nat} {f:Nat->α} {x:α}:((WW n).map f).set d x=(WW n).map (dG f d x):=by
 apply YL;intro i;by_cases hi:i<n
 ·by_cases e:d=i
  ·subst e
   rw[Xc (by simpa using hi),W6,XJ hi];simp[dG]
  ·rw[Xa e,W6,W6,XJ hi]
   simp[dG,Zx e]
 ·rw[Xt (by simpa using hi),Xt (by simpa using hi)]
theorem G5 {n:Nat} {d:Int} (h0:0<=d) (h1:d<n):fm n d=some d.toNat:=by
 unfold fm;rw[if_pos h0,if_pos h1]
theorem E5 {α β:Type} {f:Nat->α} {g:α->β} {d:Nat} {x:α}:(λe=>g (dG f d x e))=dG (λe=>g (f e)) d (g x):=by
 funext e;unfold dG
 split<;>rfl
theorem vC {s:ae} {R:Rw} {F:Nat->Bool} {d:Int} {x:Bool×Bool} (h0:0<=d) (h1:d<31):gw (.aj s.length) (.int d) (fK x) (cf s R F)=some (cf s (dG R d.toNat x) F):=by
 have e:rY (dG R d.toNat x)=.lst (((WW 31).map λd=>fK (R d)).set d.toNat (fK x)):=by
  rw[F6];show Cell.lst ((WW 31).map λe=>fK (dG R d.toNat x e))=_;rw[E5 (g:=fK)]
 rw[show cf s (dG R d.toNat x) F=s++[rY (dG R d.toNat x),fy F] from rfl,e];simp only[gw,Aw,WJ,Yn,G5 h0 h1];simp[cf,Ym]
theorem NJ {s:ae} {R:Rw} {F:Nat->Bool} {d:Int} {x:Bool} (h0:0<=d) (h1:d<32):gw (.aj (s.length+1)) (.int d) (.bl x) (cf s R F)=some (cf s R (dG F d.toNat x)):=by
 have e:fy (dG F d.toNat x)=.lst (((WW 32).map λd=>D.bl (F d)).set d.toNat (.bl x)):=by
  rw[F6];show Cell.lst ((WW 32).map λe=>D.bl (dG F d.toNat x e))=_;rw[E5 (g:=D.bl)]
 rw[show cf s R (dG F d.toNat x)=s++[rY R,fy (dG F d.toNat x)] from rfl,e];simp only[gw,Io,WJ,Yn,G5 h0 h1];simp[cf,Ym]
theorem vD {t:Env->ae->Res Bool} {caps:Env} {s:ae} {x:Bool×Bool} (p:Bool->Bool) (h:∀b,t (some (.bl b)::caps) s=ok (p b) s):fx 1 caps (gN 0) t (aa 0) ((iY x).map D.bl) s=ok ((iY (x.1&&p false,x.2&&p true)).map D.bl) s:=by
 rw[comp_map D.bl p D.bl (iY x) λb _=>⟨some (.bl b)::caps,rfl,h b,λ_=>rfl⟩,KJ]
theorem va (x:Bool×Bool):((iY x).map D.bl).length<=WX:=by
 refine iP ?_;obtain⟨f,t⟩:=x
 cases f<;>cases t<;>simp[iY]
noncomputable def gC (m k:Int) (x:Rw×(Nat->Bool)) (p:Pg):Rw×(Nat->Bool):=match p with
 | .bP m' d k'=>if (decide (m'=m)&&decide (k'=k))=true then (dG x.1 d.toNat ((x.1 d.toNat).1,false),dG x.2 d.toNat true) else x
 | .made m' d h l=>if (decide (m'=m)&&decide (k∈h++l))=true then (dG x.1 d.toNat ((x.1 d.toNat).1&&!decide (k∈h),(x.1 d.toNat).2&&decide (k∈h)),x.2) else x
theorem NK {p:Pg} {ps:List Pg} {m k:Int} {s:ae} {R:Rw} {F:Nat->Bool} {a6 a7 a8:Option D} {Q:Fl->ae->Prop} (hd:0<=p.day/\p.day<31) (hf:fk p)
  (q:Q (.nx [some (bD ps),some (.int m),some (.int k),some (.aj s.length),some (.aj (s.length+1)),some p.d,a6,a7,a8]) (cf s (gC m k (R,F) p).1 (gC m k (R,F) p).2)) :
  Wp ((ay (bA (cx (aF (e2 aS (e2 ao (aa 5) (eC (.int 0))) (eC (.str "mended")))) (cx (aF (e2 aS (e2 ao (aa 5) (eC (.int 1))) (aa 1))) (aF (e2 aS (e2 ao (aa 5) (eC (.int 3))) (aa 2))))) (ay (gy (aV 1 [] (aU (e2 ao (aa 3) (e2 ao (aa 5) (eC (.int 2))))) (gN 0) (dF (cu (aa 0))) (aa 0)) (aa 3) (e2 ao (aa 5) (eC (.int 2)))) (gy (eC (.bl true)) (aa 4) (e2 ao (aa 5) (eC (.int 2))))) bL) (bA (cx (aF (e2 aS (e2 ao (aa 5) (eC (.int 0))) (eC (.str "made")))) (cx (aF (e2 aS (e2 ao (aa 5) (eC (.int 1))) (aa 1))) (aF (e2 bU (aa 2) (e2 cj (e2 ao (e2 ao (aa 5) (eC (.int 3))) (eC (.int 0))) (e2 ao (e2 ao (aa 5) (eC (.int 3))) (eC (.int 1)))))))) (gy (aV 1 [2,5] (aU (e2 ao (aa 3) (e2 ao (aa 5) (eC (.int 2))))) (gN 0) (aF (e2 aS (aa 0) (e2 bU (aa 1) (e2 ao (e2 ao (aa 2) (eC (.int 3))) (eC (.int 0)))))) (aa 0)) (aa 3) (e2 ao (aa 5) (eC (.int 2)))) bL)) [some (bD ps),some (.int m),some (.int k),some (.aj s.length),some (.aj (s.length+1)),some p.d,a6,a7,a8] (cf s R F)) Q:=by
 have row:∀{R:Rw} {F:Nat->Bool},aU (e2 ao (aa 3) (e2 ao (aa 5) (eC (.int 2)))) [some (bD ps),some (.int m),some (.int k),some (.aj s.length),some (.aj (s.length+1)),some p.d,a6,a7,a8] (cf s R F)=ok ((iY (R p.day.toNat)).map D.bl) (cf s R F):=λ{R F}=>by
  refine jf (Wp.eq ?_);simp only[VC,(oT p _).2];exact Wp.of (rK hd.1 hd.2) ⟨rfl,rfl⟩
 cases p with
 |bP m' d k' =>
  have t1:cx (aF (e2 aS (e2 ao (aa 5) (eC (.int 0))) (eC (.str "mended")))) (cx (aF (e2 aS (e2 ao (aa 5) (eC (.int 1))) (aa 1))) (aF (e2 aS (e2 ao (aa 5) (eC (.int 3))) (aa 2)))) [some (bD ps),some (.int m),some (.int k),some (.aj s.length),some (.aj (s.length+1)),some (Pg.bP m' d k').d,a6,a7,a8] (cf s R F)=ok (decide (m'=m)&&decide (k'=k)) (cf s R F):=by
   refine Wp.eq ?_;simp only[VC,Pg.d,(eh _ _ _ _ _).1,(eh _ _ _ _ _).2.1,(eh _ _ _ _ _).2.2.2,ij,decide_true,if_true];by_cases e:m'=m
   ·by_cases e2:k'=k<;>simp[e,e2]
   ·simp[e]
  have t2:∀st,cx (aF (e2 aS (e2 ao (aa 5) (eC (.int 0))) (eC (.str "made")))) (cx (aF (e2 aS (e2 ao (aa 5) (eC (.int 1))) (aa 1))) (aF (e2 bU (aa 2) (e2 cj (e2 ao (e2 ao (aa 5) (eC (.int 3))) (eC (.int 0))) (e2 ao (e2 ao (aa 5) (eC (.int 3))) (eC (.int 1))))))) [some (bD ps),some (.int m),some (.int k),some (.aj s.length),some (.aj (s.length+1)),some (Pg.bP m' d k').d,a6,a7,a8] st=ok false st:=λst=>by
   refine Wp.eq ?_;simp only[VC,Pg.d,(eh _ _ _ _ _).1,ij,decide_eq_false rA,WH,if_false,and_self]
  have fin:∀st,Q (.nx [some (bD ps),some (.int m),some (.int k),some (.aj s.length),some (.aj (s.length+1)),some (Pg.bP m' d k').d,a6,a7,a8]) st->Wp (bA (cx (aF (e2 aS (e2 ao (aa 5) (eC (.int 0))) (eC (.str "made")))) (cx (aF (e2 aS (e2 ao (aa 5) (eC (.int 1))) (aa 1))) (aF (e2 bU (aa 2) (e2 cj (e2 ao (e2 ao (aa 5) (eC (.int 3))) (eC (.int 0))) (e2 ao (e2 ao (aa 5) (eC (.int 3))) (eC (.int 1)))))))) (gy (aV 1 [2,5] (aU (e2 ao (aa 3) (e2 ao (aa 5) (eC (.int 2))))) (gN 0) (aF (e2 aS (aa 0) (e2 bU (aa 1) (e2 ao (e2 ao (aa 2) (eC (.int 3))) (eC (.int 0)))))) (aa 0)) (aa 3) (e2 ao (aa 5) (eC (.int 2)))) bL [some (bD ps),some (.int m),some (.int k),some (.aj s.length),some (.aj (s.length+1)),some (Pg.bP m' d k').d,a6,a7,a8] st) Q:=λst q=>by
   rw[wp_sIf];refine Wp.of (t2 st) ?_;rw[if_neg WV,wp_sNil];exact q
  rw[wp_sSeq,wp_sIf];refine Wp.of t1 ?_;unfold gC at q
  cases hc:(decide (m'=m)&&decide (k'=k)) with
  |false =>
   simp only[hc,WH,if_false] at q;rw[if_neg WV,wp_sNil,aft_nx];exact fin _ q
  |true =>
   simp only[hc,if_true] at q;rw[if_pos rfl,wp_sSeq,wp_sSub,wp_comp];refine Wp.of row ⟨va _,?_⟩;refine Wp.of (vD (λb=>!b) λb=>rfl) ?_;simp only[wp_loc0,wp_locS,wp_e2,wp_C,(oT (Pg.bP m' d k') _).2,wp_ok];refine⟨_,vC hd.1 hd.2,?_⟩;rw[aft_nx,wp_sSub];simp only[wp_loc0,wp_locS,wp_e2,wp_C,(oT (Pg.bP m' d k') _).2,wp_ok];refine⟨_,NJ hd.1 (by have:=hd.2;omega),?_⟩;rw[aft_nx];refine fin _ ?_;simpa [TK.Pg.day] using q
 |made m' d h l =>
  have t1:∀st,cx (aF (e2 aS (e2 ao (aa 5) (eC (.int 0))) (eC (.str "mended")))) (cx (aF (e2 aS (e2 ao (aa 5) (eC (.int 1))) (aa 1))) (aF (e2 aS (e2 ao (aa 5) (eC (.int 3))) (aa 2)))) [some (bD ps),some (.int m),some (.int k),some (.aj s.length),some (.aj (s.length+1)),some (Pg.made m' d h l).d,a6,a7,a8] st=ok false st:=λst=>by
   refine Wp.eq ?_;simp only[VC,Pg.d,(eh _ _ _ _ _).1,ij,decide_eq_false FT,WH,if_false,and_self]
  have t2:cx (aF (e2 aS (e2 ao (aa 5) (eC (.int 0))) (eC (.str "made")))) (cx (aF (e2 aS (e2 ao (aa 5) (eC (.int 1))) (aa 1))) (aF (e2 bU (aa 2) (e2 cj (e2 ao (e2 ao (aa 5) (eC (.int 3))) (eC (.int 0))) (e2 ao (e2 ao (aa 5) (eC (.int 3))) (eC (.int 1))))))) [some (bD ps),some (.int m),some (.int k),some (.aj s.length),some (.aj (s.length+1)),some (Pg.made m' d h l).d,a6,a7,a8] (cf s R F)=ok (decide (m'=m)&&decide (k∈h++l)) (cf s R F):=by
   refine Wp.eq ?_;simp only[VC,Pg.d,(eh _ _ _ _ _).1,(eh _ _ _ _ _).2.1,(eh _ _ _ _ _).2.2.2,ij,decide_true,if_true];by_cases e:m'=m
   ·simp only[VC,e,beq_self_eq_true,if_true,(j0 _ _ _).1,(j0 _ _ _).2,decide_true,Xq]
    refine Wp.of (gB (a:=h) (b:=l) (by have:=hf.1;have:=hf.2;omega)) ?_;refine Wp.of (pP (ns:=h++l)) ?_;simp only[VC,and_self]
   ·simp[e]
  rw[wp_sSeq,wp_sIf];refine Wp.of (t1 _) ?_;rw[if_neg WV,wp_sNil,aft_nx,wp_sIf];refine Wp.of t2 ?_;unfold gC at q
  cases hc:(decide (m'=m)&&decide (k∈h++l)) with
  |false =>
   simp only[hc,WH,if_false] at q;rw[if_neg WV,wp_sNil];exact q
  |true =>
   simp only[hc,if_true] at q;rw[if_pos rfl,wp_sSub,wp_comp];refine Wp.of row ⟨va _,?_⟩;refine Wp.of (vD (caps:=[some (.int k),some (Pg.made m' d h l).d]) (λb=>b==decide (k∈h)) λb=>?_) ?_
   ·refine Wp.eq ?_
    simp only[VC,Pg.d,(eh _ _ _ _ _).2.2.2,(j0 _ _ _).1];refine Wp.of (pP (ns:=h)) ?_;refine Wp.of (show aS (.bl b) (.bl (decide (k∈h))) (cf s R F)=ok (.bl (b==decide (k∈h))) (cf s R F) from rfl) ?_;simp only[VC,and_self]
   ·simp only[wp_loc0,wp_locS,wp_e2,wp_C,(oT (Pg.made m' d h l) _).2,wp_ok]
    refine⟨_,vC hd.1 hd.2,?_⟩
    have e1:(false==decide (k∈h))=!decide (k∈h):=by cases decide (k∈h)<;>rfl
    have e2:(true==decide (k∈h))=decide (k∈h):=by cases decide (k∈h)<;>rfl
    rw[e1,e2];exact q
end DI
namespace DI
open PySem L2 TK
noncomputable def mH (ps:List Pg) (m k:Int):Rw×(Nat->Bool):=ps.foldl (gC m k) (λ_=>(true,true),λ_=>false)
noncomputable def vM:Pg->Prop
 | .made _ _ h l=>∀x∈h,x∉l
 | .bP _ _ _=>True
theorem yj {x a:Int} {l:List Int}:decide (x∈a::l)=(decide (x=a)||decide (x∈l)):=by
 by_cases h:x=a<;>simp[h]
theorem E6 {m k:Int} {d:Nat}:∀(ps:List Pg) (x:Rw×(Nat->Bool)),(∀p∈ps,0<=p.day/\vM p) ->
  ((ps.foldl (gC m k) x).1 d).1=((x.1 d).1&&!sN ps m k d)/\((ps.foldl (gC m k) x).1 d).2=((x.1 d).2&&(!mN ps m k d&&!lN ps m k d))/\(ps.foldl (gC m k) x).2 d=(x.2 d||mN ps m k d)
 | [],x,_=>by simp[sN,mN,lN,shown,cE,dC]
 |p::ps,x,h=>by
  obtain⟨i1,i2,i3⟩:=E6 (d:=d) ps (gC m k x p) λq hq=>h q (WT _ hq);obtain⟨hd,ha⟩:=h p WR;rw[List.foldl_cons,i1,i2,i3];have key:((gC m k x p).1 d).1=((x.1 d).1&&!(kJ m k p&&decide ((d:Int)=p.day)))/\((gC m k x p).1 d).2=((x.1 d).2&&(!(jZ m k p&&decide ((d:Int)=p.day))&&!(kK m k p&&decide ((d:Int)=p.day))))/\(gC m k x p).2 d=(x.2 d||(jZ m k p&&decide ((d:Int)=p.day))):=by
   have ed:decide ((d:Int)=p.day)=decide (d=p.day.toNat):=by
    by_cases e:d=p.day.toNat
    ·rw[decide_eq_true e,decide_eq_true (by omega)]
    ·rw[decide_eq_false e,decide_eq_false (by omega)]
   rw[ed]
   cases p with
   |bP m' d' k' =>
    simp only[gC,kJ,kK,jZ,TK.Pg.day,Yq,Y4,ZM]
    cases (decide (m'=m)&&decide (k'=k)) with
    |false=>simp
    |true =>
     simp only[if_true,Xq,dG]
     by_cases e:d=d'.toNat<;>simp[e]
   |made m' d' h' l' =>
    simp only[gC,kJ,kK,jZ,TK.Pg.day,Yq,Y4,Xq,Bool.or_false];by_cases em:m'=m
    ·simp only[em,decide_true,Xq]
     by_cases e:d=d'.toNat
     ·subst e
      simp only[decide_true,ZM];by_cases c1:k∈h'
      ·have c2:k∉l':=ha k c1
       simp[c1,c2,dG]
      ·by_cases c2:k∈l'<;>simp[c1,c2,dG]
     ·simp only[e,decide_false,Bool.and_false,Y4,ZM]
      by_cases c:k∈h'++l'<;>simp[c,dG,e]
    ·simp[em]
  obtain⟨k1,k2,k3⟩:=key;rw[k1,k2,k3];have e1:sN (p::ps) m k d=((kJ m k p&&decide ((d:Int)=p.day))||sN ps m k d):=by
   unfold sN shown;rw[X9]
   cases kJ m k p with
   |false=>rw[if_neg WV];rfl
   |true=>rw[if_pos rfl,W4,yj];rfl
  have e2:lN (p::ps) m k d=((kK m k p&&decide ((d:Int)=p.day))||lN ps m k d):=by
   unfold lN dC;rw[X9]
   cases kK m k p with
   |false=>rw[if_neg WV];rfl
   |true=>rw[if_pos rfl,W4,yj];rfl
  have e3:mN (p::ps) m k d=((jZ m k p&&decide ((d:Int)=p.day))||mN ps m k d):=by
   unfold mN cE;rw[X9]
   cases jZ m k p with
   |false=>rw[if_neg WV];rfl
   |true=>rw[if_pos rfl,W4,yj];rfl
  rw[e1,e2,e3];generalize (kJ m k p&&decide ((d:Int)=p.day))=a;generalize (kK m k p&&decide ((d:Int)=p.day))=b;generalize (jZ m k p&&decide ((d:Int)=p.day))=c;refine⟨?_,?_,?_⟩
  ·cases a<;>cases sN ps m k d<;>cases (x.1 d).1<;>rfl
  ·cases b<;>cases c<;>cases lN ps m k d<;>cases mN ps m k d<;>cases (x.1 d).2<;>rfl
  ·cases c<;>cases mN ps m k d<;>cases x.2 d<;>rfl
theorem O6 {ps:List Pg} {m k:Int} (h:∀p∈ps,0<=p.day/\vM p) (d:Nat):(mH ps m k).1 d=(f0 (sN ps m k) d,t0 (lN ps m k) (mN ps m k) d)/\(mH ps m k).2 d=mN ps m k d:=by
 obtain⟨h1,h2,h3⟩:=E6 (m:=m) (k:=k) (d:=d) ps (λ_=>(true,true),λ_=>false) h;refine⟨Prod.ext ?_ ?_,?_⟩
 ·show ((mH ps m k).1 d).1=_;unfold mH f0;rw[h1];simp
 ·show ((mH ps m k).1 d).2=_;unfold mH t0;rw[h2];simp
 ·unfold mH;rw[h3];simp
end DI
namespace DI
open PySem L2 TK
noncomputable abbrev ne2 (x:Bool×Bool):Bool:=x.1||x.2
theorem QU {x:Bool×Bool} {s:ae}:fE (fK x) (.lst []) s=ok (.bl (ne2 x)) s:=by
 obtain⟨f,t⟩:=x
 cases f<;>cases t<;>rfl
theorem O7 {x:Bool×Bool} {b f:Bool} {s:ae}:yF [fK x,.bl b,.bl f] s=ok (.bl (!b&&(x.1||(f&&ne2 x)))) s:=by
 obtain⟨u,v⟩:=x
 cases u<;>cases v<;>cases b<;>cases f<;>rfl
theorem NL {x:Bool×Bool} {b f:Bool} {s:ae}:ye [fK x,.bl b,.bl f] s=ok (.bl (x.2||(x.1&&(!b||f)))) s:=by
 obtain⟨u,v⟩:=x
 cases u<;>cases v<;>cases b<;>cases f<;>rfl
theorem QV {env:Env} {s:ae}:Bu (af (eC (.int 29)) (af (e1 lG (eC (.int 1))) (af (e1 lG (eC (.int 1))) ai))) env s=ok ((WW 30).map λn:Nat=>D.int ((29-n:Nat):Int)) s:=by rfl
noncomputable def sy (x:Bool×Bool):D:=.tup ((iY x).map D.bl)
noncomputable def qw (ps:List Pg) (m k:Int):D:=.lst ((WW 31).map λd=>sy (bw (sN ps m k) (lN ps m k) (mN ps m k) d))
theorem Se (s l m:Nat->Bool):bw s l m 30=fw s l m 30:=rfl
theorem O8 (s l m:Nat->Bool) {d:Nat} (h:d<=29):bw s l m d=((fw s l m d).1&&((bw s l m (d+1)).2||(bw s l m (d+1)).1),(fw s l m d).2&&((bw s l m (d+1)).2||((bw s l m (d+1)).1&&m (d+1)))):=by
 unfold bw;rw[show 30-d=(29-d)+1 by omega,show 30-(d+1)=29-d by omega];simp only[qM];rw[show 29-(29-d)=d by omega,show 30-(29-d)=d+1 by omega]
theorem QW {ps:List Pg} {m k:Int} {s:ae} (hl:ps.length<=1000) (hp:∀p∈ps,(0<=p.day/\p.day<31)/\fk p/\vM p):Wp (pX [bD ps,.int m,.int k] s) λd s'=>d=qw ps m k/\∃c,s'=s++c:=by
 unfold pX;rw[wp_fn];refine⟨rfl,?_⟩;rw[wp_sSeq,wp_sAsg];unfold rD;simp only[bh];refine Wp.of (eR (n:=31) rfl (by decide)) ?_;rw[kY];refine⟨by rw[cX];exact le_size (by decide),?_⟩;rw[bh,HE];refine Wp.of (iu (λ_=>true) (λ_=>fK (true,true)) gL λd hd=>⟨[some (.int d)],rfl,rfl,λ_=>rfl⟩) ?_;simp only[wp_ok,asg_N,filter_tt,W4,XT,Xn,XG,WM,Nat.reduceSub,WY,WZ,aft_nx];rw[wp_sSeq,wp_sAsg];simp only[bh];refine Wp.of (eR (n:=32) rfl (by decide)) ?_;rw[kY];refine⟨by rw[cX];exact le_size (by decide),?_⟩;rw[bh];have Vt:bV 0 32=((WW 32).map λi:Nat=>(i:Int)).map D.int:=by rw[yI,Ye];congr 1;funext i;simp
 rw[Vt];refine Wp.of (iu (λ_=>true) (λ_=>.bl false) _ λd hd=>⟨[some (.int d)],rfl,rfl,λ_=>rfl⟩) ?_;simp only[wp_ok,asg_N,filter_tt,WY,WZ,aft_nx];have es:s++[Cell.lst (gL.map λ_=>fK (true,true))]++[Cell.lst (((WW 32).map λi:Nat=>(i:Int)).map λ_=>D.bl false)]=cf s (λ_=>(true,true)) (λ_=>false):=by
  unfold gL;simp only[Ye,YM,X3,Xn,XG]
 have el:(s++[Cell.lst (gL.map λ_=>fK (true,true))]).length=s.length+1:=by simp
 rw[es,el];rw[wp_sSeq,wp_sFor];refine Wp.of (je (ds:=ps.map Pg.d) rfl) ?_;refine Wp.fY (λi env s'=>∃a5 a6 a7 a8,env=[some (bD ps),some (.int m),some (.int k),some (.aj s.length),some (.aj (s.length+1)),a5,a6,a7,a8]/\s'=cf s ((ps.take i).foldl (gC m k) (λ_=>(true,true),λ_=>false)).1 ((ps.take i).foldl (gC m k) (λ_=>(true,true),λ_=>false)).2) _ ⟨_,_,_,_,rfl,rfl⟩ (λi d env s' hd hI=>?_) (λenv s' hI=>?_)
 ·obtain⟨a5,a6,a7,a8,rfl,rfl⟩:=hI
  rw[W6] at hd
  cases xk:ps[i]? with
  |none=>rw[xk] at hd;cases hd
  |some p =>
   rw[xk] at hd;cases hd;obtain⟨h1,h2,h3⟩:=hp p (YF xk);refine⟨_,rfl,?_⟩;refine NK h1 h2 ⟨_,_,_,_,rfl,?_⟩;rw[List.take_add_one,xk];simp only[Option.toList_some,List.foldl_append,List.foldl_cons,List.foldl_nil]
 obtain⟨a5,a6,a7,a8,rfl,rfl⟩:=hI;rw[WJ,List.take_length];have h0:=O6 (ps:=ps) (m:=m) (k:=k) λp q=>⟨(hp p q).1.1,(hp p q).2.2⟩;unfold mH at h0;generalize (ps.foldl (gC m k) (λ_=>(true,true),λ_=>false))=x0 at h0;obtain⟨R,F⟩:=x0;have hR:∀d,R d=(f0 (sN ps m k) d,t0 (lN ps m k) (mN ps m k) d):=λd=>(h0 d).1;have hF:∀d,F d=mN ps m k d:=λd=>(h0 d).2;clear h0;rw[aft_nx,wp_sSeq,wp_sFor];refine Wp.of (G1 (i:=1) (j:=31) rfl (by decide) (by decide) (by decide) (by decide)) ?_;rw[show ((31:Int)-1).toNat=30 from rfl]
 refine Wp.fY (λi env s'=>i<=30->∃a5 a6 a7 a8 R,env=[some (bD ps),some (.int m),some (.int k),some (.aj s.length),some (.aj (s.length+1)),a5,a6,a7,a8]/\s'=cf s R F/\∀d,R d=if d<=i then fw (sN ps m k) (lN ps m k) (mN ps m k) d else (f0 (sN ps m k) d,t0 (lN ps m k) (mN ps m k) d)) _ (λ_=>⟨_,_,_,_,R,rfl,rfl,λd=>?_⟩) (λi d env s' hd hI=>?_) (λenv s' hI=>?_)
 ·split
  ·rw[show d=0 by omega,hR];rfl
  ·exact hR d
 ·rw[fP] at hd
  split at hd
  ·rename_i hi
   cases hd;obtain⟨a5,a6,a7,a8,R,rfl,rfl,hR⟩:=hI (by omega);refine⟨_,rfl,?_⟩;have ed:(1:Int)+(i:Int)=((i+1:Nat):Int):=by omega
   rw[ed];simp only[WY,WZ];rw[wp_sSeq,wp_sAsg];simp only[wp_tup,wp_aCons,wp_aNil,wp_e2,wp_loc0,wp_locS,wp_C,wp_subI];rw[show (((i+1:Nat):Int)-1)=(i:Int) by omega];refine Wp.of (rK (by omega) (by omega)) (Wp.of (F5 (by omega) (by omega)) ?_);refine⟨le_size (by simp only[W5,W9];decide),?_⟩;simp only[asg_T,asg_cons,asg_nil,WY,WZ,aft_nx,Xm];rw[wp_sSub,wp_comp];have row:aU (e2 ao (aa 3) (aa 6)) [some (bD ps),some (.int m),some (.int k),some (.aj s.length),some (.aj (s.length+1)),a5,some (.int ((i+1:Nat):Int)),some (fK (R i)),some (.bl (F (i+1)))] (cf s R F)=ok ((iY (R (i+1))).map D.bl) (cf s R F):=by
    refine jf (Wp.eq ?_);simp only[wp_e2,wp_loc0,wp_locS];exact Wp.of (rK (by omega) (by omega)) ⟨by rw[Xm],rfl⟩
   refine Wp.of row ⟨va _,?_⟩;refine Wp.of (vD (caps:=[some (fK (R i)),some (.bl (F (i+1)))]) (λb=>(b&&ne2 (R i))||(!b&&((R i).1||(F (i+1)&&ne2 (R i))))) λb=>?_) ?_
   ·refine Wp.eq ?_
    simp only[VC,QU,O7]
    cases b with
    |true=>cases ne2 (R i)<;>simp[wp_ok]
    |false=>simp[wp_ok]
   ·simp only[wp_loc0,wp_locS]
    refine⟨_,vC (by omega) (by omega),λ_=>⟨_,_,_,_,_,rfl,rfl,λd=>?_⟩⟩;rw[Xm];unfold dG;by_cases e:d=i+1
    ·rw[if_pos e,if_pos (by omega),e]
     have h1:=hR (i+1);rw[if_neg (by omega)] at h1;have h2:=hR i;rw[if_pos (Nat.le_refl _)] at h2;simp only[fw,h1,h2,hF,Yq,Xq,Y4,Xl,Bool.false_or,Bool.or_false,ne2]
    ·rw[if_neg e,hR d]
     by_cases e2:d<=i
     ·rw[if_pos e2,if_pos (by omega)]
     ·rw[if_neg e2,if_neg (by omega)]
  ·cases hd
 rw[cX] at hI;obtain⟨a5,a6,a7,a8,R,rfl,rfl,hR⟩:=hI (Nat.le_refl _);rw[aft_nx,wp_sSeq,wp_sFor];refine Wp.of QV ?_
 refine Wp.fY (λn env s'=>n<=30->∃a5 a6 a7 a8 R,env=[some (bD ps),some (.int m),some (.int k),some (.aj s.length),some (.aj (s.length+1)),a5,a6,a7,a8]/\s'=cf s R F/\∀d,d<=30->R d=if 30-n<=d then bw (sN ps m k) (lN ps m k) (mN ps m k) d else fw (sN ps m k) (lN ps m k) (mN ps m k) d) _ (λ_=>⟨_,_,_,_,R,rfl,rfl,λd hd=>?_⟩) (λn d env s' hd hI=>?_) (λenv s' hI=>?_)
 ·rw[hR d,if_pos hd]
  split
  ·rw[show d=30 by omega,Se]
  ·rfl
 ·rw[W6] at hd
  by_cases hn:n<30
  ·rw[XJ hn] at hd
   cases hd;obtain⟨a5,a6,a7,a8,R,rfl,rfl,hR⟩:=hI (by omega);refine⟨_,rfl,?_⟩;simp only[WY,WZ];generalize hd:29-n=d;rw[wp_sSub,wp_comp];have row:aU (e2 ao (aa 3) (aa 6)) [some (bD ps),some (.int m),some (.int k),some (.aj s.length),some (.aj (s.length+1)),a5,some (.int (d:Int)),a7,a8] (cf s R F)=ok ((iY (R d)).map D.bl) (cf s R F):=by
    refine jf (Wp.eq ?_);simp only[wp_e2,wp_loc0,wp_locS];exact Wp.of (rK (by omega) (by omega)) ⟨by rw[Xm],rfl⟩
   refine Wp.of row ⟨va _,?_⟩;refine Wp.of (vD (caps:=[some (.aj s.length),some (.aj (s.length+1)),some (.int (d:Int))]) (λb=>(R (d+1)).2||((R (d+1)).1&&(!b||F (d+1)))) λb=>?_) ?_
   ·refine Wp.eq ?_
    simp only[VC];refine Wp.of (rK (by omega) (by omega)) (Wp.of (F5 (by omega) (by omega)) ?_);rw[show ((d:Int)+1).toNat=d+1 by omega];refine Wp.of NL ?_;simp only[VC,and_self]
   ·simp only[wp_loc0,wp_locS]
    refine⟨_,vC (by omega) (by omega),λ_=>⟨_,_,_,_,_,rfl,rfl,λe he=>?_⟩⟩;rw[Xm];unfold dG;by_cases ee:e=d
    ·rw[if_pos ee,if_pos (by omega),ee,O8 _ _ _ (by omega)]
     have h1:=hR d (by omega);rw[if_neg (by omega)] at h1;have h2:=hR (d+1) (by omega);rw[if_pos (by omega)] at h2;simp only[h1,h2,hF,Y4,Xl,Bool.true_or,Bool.false_or,ZM]
    ·rw[if_neg ee,hR e he]
     by_cases e2:30-n<=e
     ·rw[if_pos e2,if_pos (by omega)]
     ·rw[if_neg e2,if_neg (by omega)]
  ·rw[Xt (by simpa using hn)] at hd
   cases hd
 rw[WJ,Yn] at hI;obtain⟨a5,a6,a7,a8,R,rfl,rfl,hR⟩:=hI (Nat.le_refl _);rw[aft_nx,wp_sRet,wp_comp];have fz:aU (jn (aa 3)) [some (bD ps),some (.int m),some (.int k),some (.aj s.length),some (.aj (s.length+1)),a5,a6,a7,a8] (cf s R F)=ok ((WW 31).map λd=>fK (R d)) (s++[.dead,fy F]):=by
  refine jf (Wp.eq ?_);simp only[wp_frz,wp_loc0,wp_locS];refine Wp.of (show cL (.aj s.length) (cf s R F)=ok (.lst ((WW 31).map λd=>fK (R d))) (s++[.dead,fy F]) from ?_) ⟨rfl,rfl⟩;simp only[cL,Aw];simp[cf,Ym]
 refine Wp.of fz ⟨by rw[WJ,Yn];exact le_size (by decide),?_⟩;refine Wp.of (comp_map (λd=>fK (R d)) (λ_=>true) (λd=>sy (R d)) (WW 31) λd hd=>⟨[some (fK (R d))],rfl,rfl,λ_=>rfl⟩) ?_;rw[filter_tt,fin_rt];refine⟨?_,[.dead,fy F],rfl⟩;unfold qw;congr 1;apply Z1;intro d hd;have:=Xy.mp hd;rw[hR d (by omega),if_pos (by omega)]
end DI
namespace DI
section
variable (b:Nat->Bool)
noncomputable def fN (n:Nat):Bool:=decide (0<n)&&b (n-1)
noncomputable def bt:Nat->List (Nat×Nat)
 |0=>[]
 |n+1=>if (b n&&fN b n)=true then (bt n).dropLast++[(((bt n).getLast?.getD (0,0)).1,n)] else if b n=true then bt n++[(n,n)] else bt n
noncomputable def iB:Nat->Nat->Nat
 |0,e=>e
 |f+1,e=>if b (e+1)=true then iB f (e+1) else e
noncomputable def gk (n:Nat):Bool:=b n&&!fN b n
noncomputable def jq (f n:Nat):List (Nat×Nat):=((WW n).filter (gk b)).map λd=>(d,iB b f d)
variable {b}
theorem F7:∀{f d e:Nat},d<=e->(∀x,d<x->x<=e->b x=true)->b (e+1)=false->e-d<f->iB b f d=e
 |0,_,_,_,_,_,h=>by omega
 |f+1,d,e,h1,h2,h3,h4=>by
  unfold iB;by_cases h:d=e
  ·subst h
   rw[h3];simp
  ·rw[if_pos (h2 (d+1) (by omega) (by omega))]
   exact F7 (by omega) (λx iE ie=>h2 x (by omega) ie) h3 (by omega)
def Told (b:Nat->Bool) (f n:Nat):Prop :=
 (fN b n=false/\bt b n=jq b f n)\/(fN b n=true/\∃S d,(WW n).filter (gk b)=S++[d]/\d<n/\(∀x,d<=x->x<n->b x=true)/\bt b n=(S.map λd=>(d,iB b f d))++[(d,n-1)])
theorem zG (f:Nat):∀n,n<=f->Told b f n
 |0,_=>.inl ⟨rfl,rfl⟩
 |n+1,hf=>by
  have hr:(WW (n+1)).filter (gk b)=(WW n).filter (gk b)++if gk b n=true then [n] else []:=by
   rw[YN,Zw];congr 1
   by_cases h:gk b n=true<;>simp[X9,h]
  have xl:fN b (n+1)=b n:=by simp[fN]
  rcases zG f n (by omega) with ⟨hp,h⟩ | ⟨hp,S,d,h1,h2,h3,h4⟩
  ·cases hb:b n with
   |false =>
    refine .inl ⟨by rw[xl,hb],?_⟩;simp only[bt,hb,Yq,WH,if_false,h];unfold jq;rw[hr,show gk b n=false by simp[gk,hb]];simp
   |true =>
    refine .inr ⟨by rw[xl,hb],(WW n).filter (gk b),n,?_,by omega,λx iE ie=>?_,?_⟩
    ·rw[hr,show gk b n=true by simp[gk,hb,hp]]
     simp
    ·rw[show x=n by omega];exact hb
    ·simp only[bt,hb,hp,Bool.and_false,WH,if_false,if_true,h]
     rfl
  ·have hs:gk b n=false:=by simp[gk,hp]
   rw[hs] at hr;simp only[WH,if_false,Yb] at hr;have hn:0<n:=by omega
   cases hb:b n with
   |false =>
    refine .inl ⟨by rw[xl,hb],?_⟩;simp only[bt,hb,Yq,WH,if_false,h4];unfold jq;rw[hr,h1,Xz];simp only[W4,XT];rw[F7 (f:=f) (d:=d) (e:=n-1) (by omega) (λx iE ie=>h3 x (by omega) (by omega)) (by rw[show n-1+1=n by omega];exact hb) (by omega)]
   |true =>
    refine .inr ⟨by rw[xl,hb],S,d,by rw[hr,h1],by omega,λx iE ie=>?_,?_⟩
    ·by_cases hx:x=n
     ·rw[hx];exact hb
     ·exact h3 x iE (by omega)
    ·simp only[bt,hb,hp,Yl,if_true,h4]
     simp
theorem O9 {n:Nat} (h:b n=false):bt b n=jq b (n+1) n:=by
 rcases zG (b:=b) (n+1) (n+1) (Nat.le_refl _) with ⟨hp,e⟩ | ⟨hp,_⟩
 ·simp only[bt,h,Yq,WH,if_false] at e
  rw[e];unfold jq;rw[YN,Zw];simp[X9,gk,h]
 ·rw[show fN b (n+1)=b n by simp[fN],h] at hp
  cases hp
theorem Eh {n:Nat} (h:∀x,n<=x->b x=false):∀{f d:Nat},n<f+d->∀{g:Nat},f<=g->iB b g d=iB b f d
 |0,d,h1,g,_=>by
  cases g with
  |zero=>rfl
  |succ g=>simp[iB,h (d+1) (by omega)]
 |f+1,d,h1,0,h2=>by omega
 |f+1,d,h1,g+1,h2=>by
  unfold iB;split
  ·exact Eh h (by omega) (by omega)
  ·rfl
end
end DI
namespace DI
open PySem L2
noncomputable def brk (l:List Int):List Int:=((WW (l.length-1)).filter λi=>l.getD (i+1) 0==l.getD i 0).map λi:Nat=>1+(i:Int)
end DI
namespace DI
open PySem L2
theorem F8 {c:ae} {ds:List D}:cL (.aj c.length) (c++[.lst ds])=ok (.lst ds) (c++[.dead]):=by
 unfold cL;have e:(c++[Cell.lst ds])[c.length]?=some (.lst ds):=by simp
 simp only[e];rw[Ym _ _ (Nat.le_refl _)];simp
end DI
namespace DI
open PySem L2
end DI
namespace DI
open PySem L2
theorem Ex.get {k j:Nat} {s s':ae} {c:Cell} (h:Ex k s s') (e:s[j]?=some c) (hj:j≠k):s'[j]?=some c:=by
 rw[h.val j (WO.mp e).1 hj];exact e
theorem Ex.hi {k j:Nat} {s s':ae} (h:Ex k s s') (hj:s.length<=j) (c:Cell):Ex k s (s'.set j c):=⟨by rw[XZ];exact h.len,λi hi hk=>by rw[Xa (by omega)];exact h.val i hi hk⟩
structure RI (s0:ae) (k rh mh:Nat) (rs:List (List Int)) (s:ae):Prop where
 st:aY s k
 ex:Ex k s0 s
 run:s[rh]?=some (.lst (rs.map mD))
 mo:∃a b,s[mh]?=some (.lst [mD a,mD b])/\cW 8 a/\cW 8 b
 xi:∀r∈rs,cW 8 r
 k1:k<s0.length
 r1:s0.length<=rh
 m1:s0.length<=mh
 ne:rh≠mh
theorem RI.draw {s0 s s':ae} {k rh mh:Nat} {rs:List (List Int)} (h:RI s0 k rh mh rs s) (g:aY s' k) (x:Ex k s s'):RI s0 k rh mh rs s':=by
 have:=h.k1;have:=h.r1;have:=h.m1;obtain⟨a,b,e,ha,hb⟩:=h.mo;exact⟨g,h.ex.trans x,x.get h.run (by omega),⟨a,b,x.get e (by omega),ha,hb⟩,h.xi,h.k1,h.r1,h.m1,h.ne⟩
theorem RI.push {s0 s:ae} {k rh mh:Nat} {rs:List (List Int)} {r:List Int} (h:RI s0 k rh mh rs s) (hr:cW 8 r):RI s0 k rh mh (rs++[r]) (s.set rh (.lst (rs.map mD++[mD r]))):=by
 have:=h.k1;have:=h.r1;have:=h.m1;have:=h.ne;obtain⟨a,b,e,ha,hb⟩:=h.mo;refine⟨h.st.set (by omega) _,h.ex.hi (by omega) _,?_,⟨a,b,by rw[Xa (by omega)];exact e,ha,hb⟩,λx hx=>?_,h.k1,h.r1,h.m1,h.ne⟩
 ·rw[Xc (WO.mp h.run).1,Xz]
  rfl
 ·rcases XX.mp hx with hx|hx
  ·exact h.xi x hx
  ·rw[Yk.mp hx];exact hr
theorem RI.put {s0 s:ae} {k rh mh:Nat} {rs:List (List Int)} {at_:Int} (h:RI s0 k rh mh rs s) (h0:at_=0\/at_=1):(∃a,ao (.aj mh) (.int at_) s=ok (mD a) s/\cW 8 a)/\∀c,cW 8 c->∃s',gw (.aj mh) (.int at_) (mD c) s=some s'/\RI s0 k rh mh rs s':=by
 have:=h.k1;have:=h.r1;have:=h.m1;have:=h.ne;obtain⟨a,b,e,ha,hb⟩:=h.mo;have key:∀a b,cW 8 a->cW 8 b->RI s0 k rh mh rs (s.set mh (.lst [mD a,mD b])):=λa b ha hb=>⟨h.st.set (by omega) _,h.ex.hi (by omega) _,by rw[Xa (by omega)];exact h.run,⟨a,b,Xc (WO.mp e).1,ha,hb⟩,h.xi,h.k1,h.r1,h.m1,h.ne⟩
 rcases h0 with rfl|rfl
 ·exact⟨⟨a,Bw _ _ _ _ e,ha⟩,λc hc=>⟨_,Ig _ _ _ _ _ e,key _ _ hc hb⟩⟩
 ·exact⟨⟨b,Bx _ _ _ _ e,hb⟩,λc hc=>⟨_,Ih _ _ _ _ _ e,key _ _ ha hc⟩⟩
end DI
namespace DI
open PySem L2
structure Ft (n W:Nat) (d:D):Prop where
 pl:plain d=true
 sh:(py d).showable=true
 nd:(py d).hasDict=false
 dp:(py d).depth<=n
 wt:(py d).weight<=W
 lv:(py d).leavesShort 40=true
noncomputable def Ax (d:D):Bool:=plain d&&(py d).showable&&!(py d).hasDict&&decide ((py d).depth<=0)&&decide ((py d).weight<=110)&&(py d).leavesShort 40
theorem zH {d:D} (h:Ax d=true):Ft 0 110 d:=by
 unfold Ax at h;simp only[WK,decide_eq_true_eq,X4] at h;obtain⟨⟨⟨⟨⟨h0,h1⟩,h2⟩,h3⟩,h4⟩,h5⟩:=h;exact⟨h0,h1,h2,h3,h4,h5⟩
theorem QX:∀n:Fin 62,Ax (.int ((n.val:Int)-1))=true:=by decide +kernel
theorem qa {n:Int} (h1:-1<=n) (h2:n<=60):Ft 0 110 (.int n):=by
 refine zH ?_;have:=QX ⟨(n+1).toNat,by omega⟩;have e2:(((n+1).toNat:Nat):Int)-1=n:=by omega
 rw[e2] at this;exact this
theorem G6 {n W:Nat}:∀{ds:List D},(∀x∈ds,Ft n W x)->lr ds=true/\PyData.showableAll (cy ds)=true/\PyData.hasDictAll (cy ds)=false/\ZH (cy ds)<=n/\aaM (cy ds)<=ds.length*(W+1)/\PyData.leavesShortAll 40 (cy ds)=true
 | [],_=>⟨rfl,rfl,rfl,X1 _,by simp[cy,aaM],rfl⟩
 |x::xs,h=>by
  obtain⟨z,a,b,c,d,e⟩:=G6 (ds:=xs) λy hy=>h y (WT _ hy);have k:=h x WR;refine⟨?_,?_,?_,?_,?_,?_⟩
  ·simp only[lr,k.pl,z,Yl]
  ·simp only[cy,PyData.showableAll,k.sh,a,Yl]
  ·simp only[cy,PyData.hasDictAll,k.nd,b,Bool.or_self]
  ·simp only[cy,ZH];have:=k.dp;omega
  ·simp only[cy,aaM,W5]
   have:=k.wt;rw[Nat.add_mul];omega
  ·simp only[cy,PyData.leavesShortAll,k.lv,e,Yl]
theorem rL {n W c:Nat} {ds:List D} (hl:ds.length<=c) (h:∀x∈ds,Ft n W x):Ft (n+1) (c*(W+1)) (.tup ds):=by
 obtain⟨z,a,b,c',d',e'⟩:=G6 h;have hw:aaM (cy ds)<=c*(W+1):=W7 d' (Nat.mul_le_mul_right _ hl);exact⟨by simp only[plain];exact z,by simp only[py,PyData.showable];exact a,by simp only[py,PyData.hasDict];exact b,by simp only[py,PyData.depth];omega,by simp only[py,PyData.weight];exact hw,by simp only[py,PyData.leavesShort];exact e'⟩
theorem QY {n W:Nat} {d:D} (h:Ft n W d) (hn:n<=100) (hw:W<=300000):rW d=true:=by
 have l:=PyData.shown_le 40 (by decide) _ h.lv;have w:=h.wt;have p:=h.dp;have z:WX=16777216:=Zz;have l':(py d).shown.length<=WX:=by rw[z];omega
 unfold rW;rw[h.pl,h.sh,h.nd,decide_eq_true (show (py d).depth<=100 by omega),decide_eq_true l'];rfl
theorem ne_str {x:Str} {s:ae}:fE (.str x) (.str x) s=ok (.bl false) s:=by
 show (match jE (.str x) (.str x) with|some b=>ok (D.bl (!b)) s|none=>none)=_
 have e:jE (.str x) (.str x)=some true:=by
  unfold jE;rw[if_pos (show (oE (.str x)&&oE (.str x))=true from rfl)];simp[beq]
 rw[e];rfl
end DI
namespace DI
open PySem L2 TK
structure Ju (p:Pg):Prop where
 day:0<=p.day/\p.day<31
 fk:fk p
 apart:vM p
 ft:Ft 3 7116 p.d
theorem Ft.mono {n n' W W':Nat} {d:D} (h:Ft n W d) (h1:n<=n') (h2:W<=W'):Ft n' W' d:=⟨h.pl,h.sh,h.nd,W7 h.dp h1,W7 h.wt h2,h.lv⟩
theorem G7:Ft 0 110 (.str "made")/\Ft 0 110 (.str "mended"):=⟨zH (by decide +kernel),zH (by decide +kernel)⟩
theorem G8 {ns:List Int} (h:cW 8 ns):Ft 1 888 (mD ns):=by
 refine rL (c:=8) (W:=110) (by rw[WJ];exact h.len) λx hx=>?_;obtain⟨y,hy,rfl⟩:=XN.mp hx;have:=h.lo y hy;exact qa (by omega) (by omega)
theorem Pa {p:Pg} (h:eG p=true):Ju p:=by
 cases p with
 |made m d h' l =>
  simp only[eG,jh,iX,WK,decide_eq_true_eq] at h;obtain⟨⟨hm,hd⟩,h1,h2,h3⟩:=h;have k1:=pB h1;have k2:=pB h2;refine⟨hd,⟨by have:=k1.len;omega,by have:=k2.len;omega⟩,λx hx hl=>?_,?_⟩
  ·unfold kb at h3
   rw[X4,aay] at h3;exact h3 x hx (decide_eq_true hl)
  ·refine rL (c:=4) (n:=2) (W:=1778) (by simp) λx hx=>?_
   simp only[W3,XQ,or_false] at hx
   rcases hx with rfl|rfl|rfl|rfl
   ·exact G7.1.mono (by omega) (by omega)
   ·exact(qa (by omega) (by omega)).mono (by omega) (by omega)
   ·exact(qa (by omega) (by omega)).mono (by omega) (by omega)
   ·refine rL (c:=2) (n:=1) (W:=888) (by simp) λx hx=>?_
    simp only[W3,XQ,or_false] at hx
    rcases hx with rfl|rfl
    ·exact G8 k1
    ·exact G8 k2
 |bP m d k =>
  simp only[eG,jh,iX,markB,WK,decide_eq_true_eq] at h;obtain⟨⟨hm,hd⟩,hk⟩:=h;refine⟨hd,trivial,trivial,(rL (c:=4) (n:=0) (W:=110) (by simp) λx hx=>?_).mono (by omega) (by omega)⟩;simp only[W3,XQ,or_false] at hx
  rcases hx with rfl|rfl|rfl|rfl
  ·exact G7.2
  ·exact qa (by omega) (by omega)
  ·exact qa (by omega) (by omega)
  ·exact qa (by omega) (by omega)
theorem xQ {ps:List Pg} (h:gZ ps=true):ps.length<=24/\∀p∈ps,Ju p:=by
 unfold gZ jF at h;simp only[WK,decide_eq_true_eq,XO] at h;exact⟨h.1.1,λp hp=>Pa (h.1.2.1 p hp)⟩
theorem Ei {ps:List Pg} {s:ae} (h:gZ ps=true):nJ [bD ps] s=ok (.str (py (bD ps)).shown) s:=by
 obtain⟨h1,h2⟩:=xQ h;have ft:Ft 4 (24*(7116+1)) (bD ps):=rL (by rw[WJ];exact h1) λx hx=>by
  obtain⟨p,hp,rfl⟩:=XN.mp hx;exact(h2 p hp).ft
 show (if rW (bD ps)=true then ok (D.str (py (bD ps)).shown) s else none)=_
 rw[if_pos (QY ft (by decide) (by decide))]
theorem Ej:∀ds:List D,fC ds ds=ds.map λd=>D.tup [d,d]
 | []=>rfl
 |d::ds=>by
  have:=Ej ds;unfold fC at this |-;simp only[Yc,W4,this]
theorem NM {fn:List D->ae->Res D} {G:Int->D} {b:D} {mu:Int} (hf:∀k s,Wp (fn [b,.int mu,.int k] s) λd s'=>d=G k/\∃c,s'=s++c) {caps:Env} {s:ae} (ec:caps=[some b,some (.int mu)]) {Q:List D->ae->Prop} (q:∀c,Q (k8.map G) (s++c)) :
  Wp (fx 1 caps (gN 0) ck (ax fn (af (aa 1) (af (aa 2) (af (aa 0) ai)))) (bV 0 8) s) Q:=by
 rw[ec];refine rq (λi acc s'=>i<=8->acc=((WW i).map λi:Nat=>(i:Int)).map G/\∃c,s'=s++c) (bV 0 8) (λ_=>⟨rfl,[],by simp⟩) (λi d acc s' hd hI=>?_) λacc s' hI=>?_
 ·rw[fP] at hd
  split at hd
  ·rename_i hi
   cases hd;obtain⟨rfl,c,rfl⟩:=hI (by omega);refine⟨[some (.int (0+i)),some b,some (.int mu)],rfl,?_⟩;refine Wp.of (show ck _ _=ok true _ from rfl) ?_;rw[if_pos rfl];simp only[VC];refine(hf (0+(i:Int)) _).mono λx s2 hx=>?_;obtain⟨rfl,c2,rfl⟩:=hx;refine λ_=>⟨?_,c++c2,by simp⟩;rw[YN,Xz,Xz];simp
  ·cases hd
 ·rw[cX] at hI
  obtain⟨rfl,c,rfl⟩:=hI (Nat.le_refl _);exact q c
end DI
namespace DI
open PySem L2 TK
noncomputable def nO (ps:List Pg) (m:Int):D:=.lst (k8.map (qw ps m))
theorem HF {G:Int->D} {k:Int} {s:ae} (h:0<=k/\k<8):ao (.lst (k8.map G)) (.int k) s=ok (G k) s:=by
 obtain⟨x,e1,e2⟩:=mi (xs:=k8.map G) h.1 (by show k<8;exact h.2);have:x=G k:=by
  rw[W6] at e2;have e3:k8[k.toNat]?=some k:=by
   unfold k8;rw[W6,XJ (by omega)];simp;omega
  rw[e3] at e2;exact(Option.some.inj e2).symm
 subst this;simp only[ao,gU,res,e1,bI]
theorem G9 {ps:List Pg} {m k d:Int} {s:ae} (h:0<=d/\d<31):ao (qw ps m k) (.int d) s=ok (sy (bw (sN ps m k) (lN ps m k) (mN ps m k) d.toNat)) s:=by
 simp only[ao,gU,res,qw,vB h.1 h.2,bI]
theorem NN {c:Nat} {ps:List Pg}:dS c (ps.map Pg.d)=(dS c ps).map Pg.d:=by
 unfold dS;rw[WJ,List.map_filterMap];congr 1;funext m;rw[W6]
theorem QZ {ps:List Pg} {n:Nat} {s:ae}:nB (bD ps) none (some (n:Int)) s=ok (bD (ps.take n)) s:=by
 show ok (D.tup (cutD (ps.map Pg.d) none (some (n:Int)))) s=_;unfold cutD;rw[HT.N7];show ok (D.tup (((ps.map Pg.d).drop 0).take (min n (ps.map Pg.d).length-0))) s=_;rw[List.drop_zero,Nat.sub_zero,<- List.map_take,WJ];congr 3;rw[List.take_eq_take_min (i:=n)]
end DI
namespace DI
open PySem L2 TK
theorem E7 {ps:List Pg} {s:ae} (hl:ps.length<=1000) (hf:∀p∈ps,fk p) (hb:gZ ps=true):qR [bD ps] s=ok .aB s:=by
 refine Wp.eq ?_;unfold qR;simp only[VC];refine Wp.of (FU hl hf) ?_;rw[hb];simp only[VC,Xl,WH,if_false,and_self]
theorem MB {m:Int} {s:ae} (hm:0<=m/\m<4):uu [.int m] s=ok .aB s:=by
 refine Wp.eq ?_;unfold uu;simp only[VC];refine Wp.of yi ?_;rw[show jh m=true by unfold jh;simp[hm]];simp only[VC,Xl,WH,if_false,and_self]
theorem vc {α:Type} (f:α->D) (h:∀x,lay (f x)=true):∀l:List α,cK (l.map f)=true
 | []=>rfl
 |x::l=>by rw[W4,cK,h x,vc f h l];rfl
theorem Ek {ds:List D} (h:cK ds=true):jE (.lst ds) (.lst [])=some ds.isEmpty:=by
 unfold jE;rw[if_neg (by simp[oE]),if_pos (by simp only[lay,h,cK,dep,cV,Yl,Xq,decide_eq_true_eq];exact decide_eq_true (W7 (Nat.min_le_right _ 1) (show 1<=100 by decide)))]
 cases ds<;>rfl
theorem eq_nil {ds:List D} {s:ae} (h:cK ds=true):aS (.lst ds) (.lst []) s=ok (.bl ds.isEmpty) s:=by
 show (match jE (.lst ds) (.lst []) with|some b=>ok (D.bl b) s|none=>none)=_
 rw[Ek h]
theorem ne_nil {ds:List D} {s:ae} (h:cK ds=true):fE (.lst ds) (.lst []) s=ok (.bl (!ds.isEmpty)) s:=by
 show (match jE (.lst ds) (.lst []) with|some b=>ok (D.bl !b) s|none=>none)=_
 rw[Ek h]
end DI
namespace DI
open PySem L2 TK DI.cb
noncomputable abbrev fu (p:Nat×Nat):D:=.tup [.int p.1,.int p.2]
theorem wI {f:Nat->D} {d:Int} {s:ae} (h:0<=d/\d<31):ao (.lst ((WW 31).map f)) (.int d) s=ok (f d.toNat) s:=by
 simp only[ao,gU,res,vB h.1 h.2,bI]
theorem Ip {n:Nat}:fm (n+1) (-1)=some n:=by
 unfold fm;rw[if_neg (by omega),if_pos (by omega)];congr 1;omega
theorem TH {xs:List D} {x:D}:dJ (xs++[x]) (-1)=some x:=by
 unfold dJ;rw[Xw,aaD,Ip];simp
theorem Q0 {s:ae} {k:Nat} {ds:List D} {x:D} (h:s[k]?=some (.lst (ds++[x]))):ao (.aj k) (.int (-1)) s=ok x s:=by
 unfold ao gU res;simp only[h,TH];rfl
theorem Pb {s:ae} {k:Nat} {ds:List D} {x y:D} (h:s[k]?=some (.lst (ds++[x]))):gw (.aj k) (.int (-1)) y s=some (s.set k (.lst (ds++[y]))):=by
 unfold gw;simp only[h];have e:fm (ds++[x]).length (-1)=some ds.length:=by rw[Xw,aaD,Ip]
 rw[e];simp
theorem pL (b:Nat->Bool):∀n,(bt b n).length<=n
 |0=>Nat.le_refl _
 |n+1=>by
  have:=pL b n;unfold bt;split
  ·rename_i h
   simp only[Xw,List.length_dropLast,W5,W9];omega
  ·split
   ·simp;omega
   ·omega
theorem MC {b:Nat->Bool} {n:Nat} (h:fN b n=true):∃L d e,bt b n=L++[(d,e)]:=by
 rcases zG (b:=b) n n (Nat.le_refl _) with ⟨h1,_⟩ | ⟨_,S,d,_,_,_,e⟩
 ·rw[h] at h1;cases h1
 ·exact⟨_,_,_,e⟩
theorem Q2 {b:Nat->Bool} {s:ae}:qS [.lst ((WW 31).map λi=>.bl (b i))] s=ok (.lst ((bt b 31).map fu)) (s++[.dead]):=by
 refine Wp.eq ?_;unfold qS;simp only[wp_fn,W5,W9,Nat.reduceAdd,Nat.reduceSub,WM,W4,XT,Xn,XG,true_and,wp_sSeq,wp_sAsg,asg_N,wp_new,wp_aNil,WY,WZ,aft_nx,wp_sFor];refine⟨by decide,?_⟩;refine Wp.of (eR (n:=31) rfl (by decide)) ?_;refine Wp.fY (λi env s'=>i<=31->∃a2,env=[some (.lst ((WW 31).map λi=>.bl (b i))),some (.aj s.length),a2]/\s'=s++[.lst ((bt b i).map fu)]) _ (λ_=>⟨_,rfl,rfl⟩) (λi d env s' hd hI=>?_) (λenv s' hI=>?_)
 ·rw[fP] at hd
  split at hd
  ·rename_i hi
   cases hd;obtain⟨a2,rfl,rfl⟩:=hI (by omega);refine⟨_,rfl,?_⟩;simp only[WY,WZ,aa5];have cell:(s++[Cell.lst ((bt b i).map fu)])[s.length]?=some (.lst ((bt b i).map fu)):=by simp
   have upd:∀c:Cell,(s++[Cell.lst ((bt b i).map fu)]).set s.length c=s++[c]:=λc=>by simp[Ym]
   have ln:=pL b i;have app:(b i&&fN b i)=false->Wp (bA (cu (e2 ao (aa 0) (aa 2))) (cP (eJ (aa 1) (bz (af (aa 2) (af (aa 2) ai))))) bL [some (.lst ((WW 31).map λi=>.bl (b i))),some (.aj s.length),some (.int i)] (s++[.lst ((bt b i).map fu)])) λfl s'=>fl=.nx [some (.lst ((WW 31).map λi=>.bl (b i))),some (.aj s.length),some (.int i)]/\s'=s++[.lst ((bt b (i+1)).map fu)]:=λhf=>by
    rw[wp_sIf];simp only[VC,wI (show 0<=(i:Int)/\(i:Int)<31 by omega),Xm]
    have st:bt b (i+1)=if (b i&&fN b i)=true then (bt b i).dropLast++[(((bt b i).getLast?.getD (0,0)).1,i)] else if b i=true then bt b i++[(i,i)] else bt b i:=rfl
    rw[st,hf]
    cases hb:b i with
    |false=>simp
    |true =>
     simp only[if_true,WH,if_false]
     refine⟨by simp only[gv,cell],by decide,Wp.of (show fW _ _ _=ok .aB (s++[.lst ((bt b i++[(i,i)]).map fu)]) from ?_) (by first|exact⟨rfl,rfl⟩|rfl)⟩
     unfold fW;simp only[cell];rw[if_pos (by rw[decide_eq_true_eq,WJ];exact WL (show (bt b i).length<1000 by omega) (le_size (by decide))),upd,Xz];rfl
   rw[wp_sIf];simp only[wp_tAnd,wp_tru,wp_e2,wp_loc0,wp_locS,wI (show 0<=(i:Int)/\(i:Int)<31 by omega),Xm,wp_ok,wp_truB]
   cases hb:b i with
   |false =>
    simp only[WH,if_false];exact(app (by rw[hb];rfl)).mono λfl s2 h=>by obtain⟨rfl,rfl⟩:=h;exact λ_=>⟨_,rfl,rfl⟩
   |true =>
    simp only[if_true,wp_tBl,wp_e2,wp_C,wp_loc0,wp_locS,wp_gtI,wp_isBl];by_cases h0:0<i
    ·rw[decide_eq_true (show (i:Int) > 0 by omega)]
     simp only[if_true,wp_subI,wI (show 0<=(i:Int)-1/\(i:Int)-1<31 by omega),wp_ok,wp_truB];rw[show ((i:Int)-1).toNat=i-1 by omega];have ep:fN b i=b (i-1):=by unfold fN;rw[decide_eq_true h0];rfl
     cases hp:b (i-1) with
     |false =>
      simp only[WH,if_false];exact(app (by rw[ep,hp,Bool.and_false])).mono λfl s2 h=>by obtain⟨rfl,rfl⟩:=h;exact λ_=>⟨_,rfl,rfl⟩
     |true =>
      simp only[if_true];obtain⟨L,d,e,hL⟩:=MC (b:=b) (n:=i) (by rw[ep];exact hp);rw[hL,Xz] at cell upd |-;rw[wp_sSub];simp only[wp_tup,wp_aCons,wp_aNil,wp_e2,wp_e1,wp_loc0,wp_locS,wp_C];refine Wp.of (show lG (.int 1) _=ok (.int (-1)) _ from rfl) ?_;refine Wp.of (Q0 cell) ?_;refine Wp.of (show ao (fu (d,e)) (.int 0) _=ok (.int d) _ from rfl) ?_;refine⟨le_size (by simp only[W5,W9];decide),Wp.of (show lG (.int 1) _=ok (.int (-1)) _ from rfl) ⟨_,Pb cell,λ_=>⟨_,rfl,?_⟩⟩⟩;rw[upd]
      have st:bt b (i+1)=if (b i&&fN b i)=true then (bt b i).dropLast++[(((bt b i).getLast?.getD (0,0)).1,i)] else if b i=true then bt b i++[(i,i)] else bt b i:=rfl
      have:bt b (i+1)=L++[(d,i)]:=by
       rw[st,hb,ep,hp,hL];simp
      rw[this,Xz];rfl
    ·rw[decide_eq_false (show ¬ (i:Int) > 0 by omega)]
     simp only[WH,if_false];exact(app (by unfold fN;rw[decide_eq_false h0];simp)).mono λfl s2 h=>by obtain⟨rfl,rfl⟩:=h;exact λ_=>⟨_,rfl,rfl⟩
  ·cases hd
 ·rw[cX] at hI
  obtain⟨a2,rfl,rfl⟩:=hI (Nat.le_refl _);simp only[wp_sRet,aft_nx,fin_rt,wp_frz,wp_loc0,wp_locS];exact Wp.of F8 ⟨rfl,rfl⟩
end DI
namespace DI
open PySem L2 TK DI.cb
theorem xm {s:ae} {j:Nat} {x:Int} {ns:List Int} (e:s[j]?=some (.lst (ns.map D.int))):bU (.int x) (.aj j) s=ok (.bl (decide (x∈ns))) s/\cq (.int x) (.aj j) s=ok (.bl (!decide (x∈ns))) s:=by
 have h:kh (.aj j) s=kh (lI ns) s:=by simp[kh,res,e]
 constructor
 ·unfold bU
  rw[h];exact nN
 ·unfold cq
  rw[h];exact ni
theorem F9 {s:ae} {j:Nat} {ns:List Int} {a1 a2:Option D} (e:s[j]?=some (.lst (ns.map D.int))) (hn:∀x∈ns,0<=x/\x<31):∀(f d:Nat),d<=30->31<f+d ->
  Wp (mr (aF (e2 bU (e2 cj (aa 3) (eC (.int 1))) (aa 0))) (aN (e2 cj (aa 3) (eC (.int 1))) (gN 3)) f [some (.aj j),a1,a2,some (.int d)] s) λfl s'=>fl=.nx [some (.aj j),a1,a2,some (.int (iB (λx=>decide ((x:Int)∈ns)) f d:Nat))]/\s'=s
 |0,d,h1,h2=>by omega
 |f+1,d,h1,h2=>by
  unfold mr iB;rw[bh];simp only[VC,(xm e).1];have ec:((d+1:Nat):Int)=(d:Int)+1:=by omega
  by_cases hx:(d:Int)+1∈ns
  ·simp only[ec,hx,decide_true,if_true,bh]
   simp only[VC];rw[<- ec];exact F9 e hn f (d+1) (by have:=hn _ hx;omega) (by omega)
  ·simp only[ec,hx,decide_false,WH,if_false,wp_ok]
   exact⟨by first|trivial|rfl,by first|trivial|rfl⟩
theorem Pc {s:ae} {j:Nat} {ns:List Int} (e:s[j]?=some (.lst (ns.map D.int))) (hn:∀x∈ns,0<=x/\x<31):pk [.aj j] s=ok (.lst ((bt (λx=>decide ((x:Int)∈ns)) 31).map fu)) (s++[.dead]):=by
 have hj:=(WO.mp e).1;have out:∀x:Nat,31<=x->decide ((x:Int)∈ns)=false:=λx hx=>decide_eq_false λh=>by have:=hn _ h;omega
 have eq:bt (λx=>decide ((x:Int)∈ns)) 31=jq (λx=>decide ((x:Int)∈ns)) 100 31:=by
  rw[O9 (out 31 (Nat.le_refl _))];unfold jq;refine Z1 λd _=>?_;rw[Eh (n:=31) out (f:=31+1) (d:=d) (by omega) (g:=100) (by omega)]
 rw[eq];refine Wp.eq ?_;unfold pk;simp only[wp_fn,W5,W9,Nat.reduceAdd,Nat.reduceSub,WM,W4,XT,Xn,XG,true_and,wp_sSeq,wp_sAsg,asg_N,wp_new,wp_aNil,WY,WZ,aft_nx,wp_sFor];refine⟨by decide,?_⟩;refine Wp.of (eR (n:=31) rfl (by decide)) ?_;refine Wp.fY (λi env s'=>i<=31->∃a2 a3,env=[some (.aj j),some (.aj s.length),a2,a3]/\s'=s++[.lst ((jq (λx=>decide ((x:Int)∈ns)) 100 i).map fu)]) _ (λ_=>⟨_,_,rfl,rfl⟩) (λi d env s' hd hI=>?_) (λenv s' hI=>?_)
 ·rw[fP] at hd
  split at hd
  ·rename_i hi
   cases hd;obtain⟨a2,a3,rfl,rfl⟩:=hI (by omega);refine⟨_,rfl,?_⟩;simp only[WY,WZ,aa5];generalize hL:jq (λx=>decide ((x:Int)∈ns)) 100 i=L;have cell:(s++[Cell.lst (L.map fu)])[s.length]?=some (.lst (L.map fu)):=by simp
   have upd:∀c:Cell,(s++[Cell.lst (L.map fu)]).set s.length c=s++[c]:=λc=>by simp[Ym]
   have e':(s++[Cell.lst (L.map fu)])[j]?=some (.lst (ns.map D.int)):=by rw[W0 hj];exact e
   have ln:L.length<=i:=by
    rw[<- hL];unfold jq;rw[WJ];exact W7 (X7 _ _) (by rw[Yn];exact Nat.le_refl _)
   have st:jq (λx=>decide ((x:Int)∈ns)) 100 (i+1)=L++if gk (λx=>decide ((x:Int)∈ns)) i=true then [(i,iB (λx=>decide ((x:Int)∈ns)) 100 i)] else []:=by
    rw[<- hL];unfold jq;rw[YN,Zw,Xz];congr 1
    by_cases h:gk (λx=>decide ((x:Int)∈ns)) i=true<;>simp[X9,h]
   have es:gk (λx=>decide ((x:Int)∈ns)) i=(decide ((i:Int)∈ns)&&!decide ((i:Int)-1∈ns)):=by
    unfold gk fN;congr 2;by_cases h0:0<i
    ·rw[decide_eq_true h0,Xq]
     show decide (((i-1:Nat):Int)∈ns)=_;rw[show ((i-1:Nat):Int)=(i:Int)-1 by omega]
    ·rw[decide_eq_false h0,Yq]
     exact(decide_eq_false λh=>by have:=hn _ h;omega).symm
   rw[st,es];rw[wp_sIf];simp only[wp_tAnd,wp_tBl,wp_e2,wp_loc0,wp_locS,(xm e').1,(xm e').2,wp_C,wp_subI,wp_ok,wp_isBl]
   cases h1:decide ((i:Int)∈ns) with
   |false =>
    simp only[WH,if_false,Yq,wp_sNil,Yb]
    exact λ_=>⟨_,_,rfl,by first|rfl|trivial⟩
   |true =>
    simp only[if_true,Xq]
    cases h2:decide ((i:Int)-1∈ns) with
    |true =>
     simp only[Xl,WH,if_false,wp_sNil,Yb]
     exact λ_=>⟨_,_,rfl,by first|rfl|trivial⟩
    |false =>
     simp only[Y4,if_true];rw[wp_sSeq,wp_sAsg];simp only[wp_locS,wp_loc0,asg_N,WY,WZ,aft_nx];rw[wp_sSeq];unfold wy;refine(F9 e' hn 100 i (by omega) (by omega)).mono λfl s2 h=>?_;obtain⟨rfl,rfl⟩:=h;simp only[aft_nx,wp_sExpr,wp_app,wp_locS,wp_loc0,wp_tup,wp_aCons,wp_aNil];refine⟨by simp only[gv,cell],le_size (by simp only[W5,W9];decide),?_⟩;refine Wp.of (show fW (.aj s.length) (fu (i,iB (λx=>decide ((x:Int)∈ns)) 100 i)) _=ok .aB (s++[.lst ((L++[(i,iB (λx=>decide ((x:Int)∈ns)) 100 i)]).map fu)]) from ?_) λ_=>⟨_,_,rfl,rfl⟩;unfold fW;simp only[cell];rw[if_pos (by rw[decide_eq_true_eq,WJ];exact WL (show L.length<1000 by omega) (le_size (by decide))),upd,Xz];rfl
  ·cases hd
 ·rw[cX] at hI
  obtain⟨a2,a3,rfl,rfl⟩:=hI (Nat.le_refl _);simp only[wp_sRet,aft_nx,fin_rt,wp_frz,wp_loc0,wp_locS];exact Wp.of F8 ⟨rfl,rfl⟩
theorem Ga {α:Type} (d:α->D) {jJ:Env} {g:D->Env->Option Env} {t:Env->ae->Res Bool} {act:Env->ae->Res (List D)} (h:α->List D):∀(xs:List α) (s:ae),(∀x∈xs,∃env,g (d x) jJ=some env/\(∀s,t env s=ok true s)/\∀s,Wp (act env s) λys s'=>ys=h x/\∃c,s'=s++c) ->
  Wp (fX g t act jJ (xs.map d) s) λys s'=>ys=xs.flatMap h/\∃c,s'=s++c
 | [],s,_=>by
  rw[XT];unfold fX;rw[wp_ok];exact⟨rfl,[],by simp⟩
 |x::xs,s,hh=>by
  obtain⟨env,h1,h2,h3⟩:=hh x WR;rw[W4];unfold fX;rw[h1];simp only[h2,kg,fe,if_true,bh,wp_ne];refine(h3 s).mono λys s1 hy=>?_;obtain⟨rfl,c,rfl⟩:=hy;refine(Ga d h xs (s++c) λy hy=>hh y (WT _ hy)).mono λzs s2 hz=>?_;obtain⟨rfl,c2,rfl⟩:=hz;rw[wp_ok,aax];exact⟨rfl,c++c2,by rw[X3]⟩
noncomputable abbrev cO (h l:List Int):D:=.tup [mD h,mD l]
noncomputable def dO (ps:List Pg) (m:Int) (h l:List Int) (d:Nat):Bool:=h.all (λk=>!ab (lN ps m k) (mN ps m k) d)&&l.all λk=>!pr (sN ps m k) (mN ps m k) d
structure Sh (h l:List Int):Prop where
 a:cW 8 h
 b:cW 8 l
 ap:∀x∈h,x∉l
theorem E8 {h:List Int} {p:Int->Bool} (hk:cW 8 h):kb h (k8.filter p)=h.all λk=>!p k:=by
 unfold kb;rw[List.not_any_eq_all_not];rw[Yw,XO,XO];have e:∀x∈h,(!decide (x∈k8.filter p))=!p x:=λx hx=>by
  congr 1;rw[Yw,decide_eq_true_eq,XF];exact⟨λz=>z.2,λz=>⟨vL.mpr (hk.lo x hx),z⟩⟩
 exact⟨λz x hx=>by rw[<- e x hx];exact z x hx,λz x hx=>by rw[e x hx];exact z x hx⟩
theorem E9 {ps:List Pg} {m:Int} {h l:List Int} {d:Nat} {s:ae} (hs:Sh h l) (hd:d<=30):pO [cO h l,lM (ja ps m) (il ps m) d] s=ok (.bl (dO ps m h l d)) s:=by
 refine Wp.eq ?_;have k1:=hs.a.len;have k2:=hs.b.len;unfold pO lM dO;simp only[VC];refine Wp.of (j0 _ _ _).1 (Wp.of (j0 _ _ _).2 ?_);refine Wp.of (yh (by omega)) ?_;rw[E8 hs.a];simp only[VC,O5 hd]
 cases h.all λk=>!ab (lN ps m k) (mN ps m k) d with
 |false=>simp
 |true =>
  simp only[if_true,Xq];refine Wp.of (j0 _ _ _).2 (Wp.of (j0 _ _ _).1 ?_);refine Wp.of (yh (by omega)) ?_;rw[E8 hs.b];simp only[O4 hd,and_self]
theorem El {h l:List Int} {s:ae} (hs:Sh h l):qP [cO h l] s=ok .aB s:=by
 refine Wp.eq ?_;have k1:=hs.a.len;have k2:=hs.b.len;unfold qP;simp only[VC];refine Wp.of (E3 (by omega) (by omega)) ?_;rw[uP hs.a (Nat.le_refl _),uP hs.b (Nat.le_refl _),show kb h l=true by unfold kb;rw[X4,aay];intro x hx;simpa using hs.ap x hx];simp only[VC,Yl,Xl,WH,if_false,and_self]
theorem Pd {d:Int} {s:ae} (hd:0<=d/\d<31):uK [.int d] s=ok .aB s:=by
 refine Wp.eq ?_;unfold uK;simp only[VC];refine Wp.of zf ?_;rw[show iX d=true by unfold iX;simp[hd]];simp only[VC,Xl,WH,if_false,and_self]
theorem NO {ps:List Pg} {m:Int} {h l:List Int} {d:Nat} {s:ae} (hl:ps.length<=1000) (hf:∀p∈ps,fk p) (hb:gZ ps=true) (hm:0<=m/\m<4) (hd:d<=30) (hs:Sh h l):Wp (pI [bD ps,.int m,.int d,cO h l] s) λx s'=>x=.bl (dO ps m h l d)/\∃c,s'=s++c:=by
 unfold pI;simp only[VC];refine Wp.of (E7 hl hf hb) (Wp.of (MB hm) (Wp.of (Pd (by omega)) (Wp.of (El hs) ?_)));refine(F4 hl).mono λx s' hx=>?_;obtain⟨rfl,c,rfl⟩:=hx;refine Wp.of (show ao (.lst (gL.map (lM (ja ps m) (il ps m)))) (.int d) (s++c)=ok (lM (ja ps m) (il ps m) d) (s++c) from ?_) (Wp.of (E9 hs hd) ⟨rfl,c,rfl⟩);unfold gL;rw[Ye,wI (by omega)];rfl
noncomputable def jb (ps:List Pg) (h l:List Int):List D:=m4.flatMap λm=>(bt (dO ps m h l) 31).map λp=>D.tup [.int m,.int p.1,.int p.2]
theorem MD {nt:Nat} {cap:List Nat} {it:Env->ae->Res (List D)} {gd:D->Env->Option Env} {c:Env->ae->Res Bool} {act:Env->ae->Res (List D)} {env:Env} {s:ae} {Q:D->ae->Prop} :
  Wp (vp nt cap it gd c act env s) Q=Wp (it env s) λds s=>Wp (fX gd c act (WM nt none++dE cap env) ds s) λxs s=>xs.length<=WX/\Q (.aj s.length) (s++[.lst xs]):=by
 unfold vp;simp only[bh,wp_ne,kY,wp_ok]
theorem zi (ps:List Pg) (h l:List Int):(jb ps h l).length<=124:=by
 unfold jb;refine W7 (nj (b:=31) λm _=>?_) (by decide);rw[WJ];exact pL _ 31
theorem Em {ps:List Pg} {h l:List Int} {s:ae} (hl:ps.length<=1000) (hf:∀p∈ps,fk p) (hb:gZ ps=true) (hs:Sh h l):Wp (m8 [bD ps,cO h l] s) λx s'=>∃c,x=.aj (s++c).length/\s'=s++c++[.lst (jb ps h l)]:=by
 unfold m8;rw[wp_fn];refine⟨rfl,?_⟩;rw[wp_sSeq,wp_sExpr];simp only[wp_call,wp_aCons,wp_aNil,wp_loc0,wp_locS,W4,XT,Xn,XG,WM,Nat.reduceSub];refine Wp.of (E7 hl hf hb) ?_;rw[aft_nx,wp_sSeq,wp_sExpr];simp only[wp_call,wp_aCons,wp_aNil,wp_loc0,wp_locS];refine Wp.of (El hs) ?_;rw[aft_nx,wp_sRet,MD];refine Wp.of (eR (n:=4) rfl (by decide)) ?_;rw[show bV 0 4=m4.map D.int from rfl];refine(Ga D.int (λm=>(bt (dO ps m h l) 31).map λp=>D.tup [.int m,.int p.1,.int p.2]) m4 s λm hm=>⟨[some (.int m),none,none,some (cO h l),some (bD ps)],rfl,λ_=>rfl,λs=>?_⟩).mono λxs s' hx=>?_
 ·unfold more
  rw[bh];have hi:∃c,aU (ax qS (af (aV 1 [3] (aU (ax ph (af (aa 4) (af (aa 0) ai)))) (gN 0) ck (ax pO (af (aa 1) (af (aa 0) ai)))) ai)) [some (.int m),none,none,some (cO h l),some (bD ps)] s=ok ((bt (dO ps m h l) 31).map fu) (s++c):=by
   obtain⟨x,s',e,rfl,c,rfl⟩:=F4 (m:=m) (s:=s) hl;refine⟨c++[.dead],jf (Wp.eq ?_)⟩;simp only[wp_call,wp_aCons,wp_aNil,wp_comp];refine Wp.of (jf (s1:=s++c) (ds:=gL.map (lM (ja ps m) (il ps m))) (Wp.eq ?_)) ⟨by rw[WJ];exact le_size (by decide),?_⟩
   ·simp only[wp_call,wp_aCons,wp_aNil,wp_loc0,wp_locS]
    exact Wp.of e ⟨rfl,rfl⟩
   refine Wp.of (comp_map (lM (ja ps m) (il ps m)) (λ_=>true) (λd=>.bl (dO ps m h l d.toNat)) gL λd hd=>⟨[some (lM (ja ps m) (il ps m) d),some (cO h l)],rfl,rfl,λ_=>?_⟩) ?_
   ·refine Wp.eq ?_
    obtain⟨i,hi,rfl⟩:=XN.mp hd;rw[Xy] at hi;simp only[wp_call,wp_aCons,wp_aNil,wp_loc0,wp_locS];exact Wp.of (E9 hs (by omega)) ⟨rfl,rfl⟩
   ·rw[filter_tt]
    unfold gL;rw[Ye];refine Wp.of (Q2 (b:=dO ps m h l)) ⟨rfl,?_⟩;rw[X3]
  obtain⟨c,hi⟩:=hi;refine Wp.of hi ?_;refine Wp.of (p9 fu (λ_=>true) (λp=>[D.tup [.int m,.int p.1,.int p.2]]) (bt (dO ps m h l) 31) λp hp=>⟨[some (.int m),some (.int p.1),some (.int p.2),some (cO h l),some (bD ps)],rfl,rfl,λ_=>?_⟩) ?_
  ·refine Wp.eq ?_
   unfold emit;rw[bh];simp only[VC]
   first|exact⟨by decide,rfl,trivial⟩|exact⟨by decide,trivial⟩|decide
  ·rw[filter_tt,<- aa3]
   exact⟨rfl,c,rfl⟩
 ·obtain⟨rfl,c,rfl⟩:=hx
  refine⟨le_size (W7 (zi ps h l) (by decide)),?_⟩;rw[fin_rt];exact⟨c,rfl,rfl⟩
end DI
namespace DI
open PySem L2 TK DI.cb
theorem DD {b b':Nat->Bool}:∀n,(∀x,x<n->b x=b' x)->bt b n=bt b' n
 |0,_=>rfl
 |n+1,h=>by
  have ih:=DD n λx hx=>h x (by omega);have e:fN b n=fN b' n:=by
   unfold fN;by_cases h0:0<n
   ·rw[h (n-1) (by omega)]
   ·rw[decide_eq_false h0,Yq,Yq]
  unfold bt;rw[ih,e,h n (by omega)]
theorem NP {nt:Nat} {cap:List Nat} {it:Env->ae->Res (List D×(ae->Prop))} {gd:D->Env->Option Env} {c:Env->ae->Res Bool} {f:Env->ae->Res D} {env:Env} {s:ae} {Q:D->ae->Prop} :
  Wp (rJ nt cap it gd c f env s) Q=Wp (it env s) λp s=>p.1.length<=WX/\Wp (jB nt (dE cap env) gd c f p.2 p.1 s) λxs s=>Q (.lst xs) s:=by
 unfold rJ;simp only[bh,kY,wp_ok]
theorem ME {α:Type} (d:α->D) {nt:Nat} {caps:Env} {g:D->Env->Option Env} {t:Env->ae->Res Bool} {f:Env->ae->Res D} {γ:ae->Prop} {s:ae} (jw:γ s) (h:α->D) (xs:List α) (hh:∀x∈xs,∃env,g (d x) (WM nt none++caps)=some env/\t env s=ok true s/\f env s=ok (h x) s) :
  jB nt caps g t f γ (xs.map d) s=ok (xs.map h) s:=by
 induction xs with
 |nil=>rw[XT];unfold jB;rw[if_pos jw];rfl
 |cons n ns ih =>
  obtain⟨env,h1,h2,h3⟩:=hh n WR;have ih:=ih λn' h'=>hh n' (WT _ h');rw[W4];unfold jB;rw[if_pos jw,h1];simp only[h2,kg,fe,if_true,h3,ih,W4]
theorem Fb {n:Nat} {x:D} {k:Bool} {s:ae} (h1:sj x s=ok (.bl false) s) (h2:cF [x,.ty "bool"] s=ok (.bl k) s) (h3:aS x x s=ok (.bl true) s):cb.eD (n+1) [x,x] s=ok (.bl true) s:=by
 refine Wp.eq ?_;unfold cb.eD;simp only[VC];refine Wp.of h1 ?_;simp only[VC,WH,if_false];refine Wp.of h2 (Wp.of h2 ?_)
 refine Wp.of (show aS (.bl k) (.bl k) s=ok (.bl true) s from by cases k<;>rfl) ?_
 simp only[VC,if_true];exact Wp.of h3 ⟨rfl,rfl⟩
theorem Q3 {n:Nat} {a:Bool} {s:ae}:cb.eD (n+1) [.bl a,.bl a] s=ok (.bl true) s:=Fb (k:=true) rfl rfl (by cases a<;>rfl)
theorem Pe {n:Nat} {i:Int} {s:ae}:cb.eD (n+1) [.int i,.int i] s=ok (.bl true) s:=Fb (k:=false) rfl rfl (Wp.eq (by simp only[wp_eqI];simp))
theorem Gb {n:Nat} {x y:D} {a b:Bool} {ds:List D} {γ:ae->Prop} {s:ae} (k1:sj y s=ok (.bl true) s) (x1:cF [x,.ty "tuple"] s=ok (.bl a) s) (y1:cF [y,.ty "tuple"] s=ok (.bl a) s) (x2:cF [x,.ty "list"] s=ok (.bl b) s) (y2:cF [y,.ty "list"] s=ok (.bl b) s) (x3:dY [x] s=ok (.int ds.length) s) (y3:dY [y] s=ok (.int ds.length) s) (hz:su [x,y] s=ok (fC ds ds,γ) s) (jw:γ s) (hl:ds.length<=1000) (h:∀d∈ds,cb.eD n [d,d] s=ok (.bl true) s):cb.eD (n+1) [x,y] s=ok (.bl true) s:=by
 refine Wp.eq ?_;unfold cb.eD;simp only[VC];refine Wp.of k1 ?_;simp only[VC,if_true];refine Wp.of x1 (Wp.of y1 ?_)
 refine Wp.of (show fE (.bl a) (.bl a) s=ok (.bl false) s from by cases a<;>rfl) ?_
 simp only[VC,WH,if_false];refine Wp.of x2 (Wp.of y2 ?_)
 refine Wp.of (show fE (.bl b) (.bl b) s=ok (.bl false) s from by cases b<;>rfl) ?_
 simp only[VC,WH,if_false];refine Wp.of x3 (Wp.of y3 ?_);simp only[VC,beq_self_eq_true,if_true,NP];refine Wp.of (show lL (af (aa 0) (af (aa 1) ai)) [some x,some y] s=ok (fC ds ds,γ) s from hz) ⟨le_size (by rw[rb];omega),?_⟩;rw[Ej];refine Wp.of (ME (λd:D=>D.tup [d,d]) jw (λ_=>.bl true) ds λd hd=>⟨[some d,some d],rfl,rfl,?_⟩) ?_
 ·refine Wp.eq ?_
  simp only[VC,h d hd,and_self]
 ·exact Wp.of (rz (λ_=>true) _ _) ⟨by simp,rfl⟩
theorem Pf {n:Nat} {ds:List D} {s:ae} (hl:ds.length<=1000) (h:∀d∈ds,cb.eD n [d,d] s=ok (.bl true) s):cb.eD (n+1) [.tup ds,.tup ds] s=ok (.bl true) s :=
 Gb (a:=true) (b:=false) (γ:=λ_=>True) rfl rfl rfl rfl rfl rfl rfl rfl trivial hl h
theorem Ph {n j:Nat} {ds:List D} {s:ae} (e:s[j]?=some (.lst ds)) (hl:ds.length<=1000) (h:∀d∈ds,cb.eD n [d,d] s=ok (.bl true) s):cb.eD (n+1) [.aj j,.lst ds] s=ok (.bl true) s:=by
 have er:res (.aj j) s=.lst ds:=by unfold res;simp only[e]
 have kr:kd (.aj j) s=some .lst:=by unfold kd;rw[er]
 refine Gb (a:=false) (b:=true) (γ:=λs=>res (.aj j) s=.lst ds/\res (.lst ds) s=.lst ds) rfl ?_ rfl ?_ rfl ?_ rfl ?_ ⟨er,rfl⟩ hl h
 ·unfold cF;simp only[kr];rfl
 ·unfold cF;simp only[kr];rfl
 ·unfold dY si;simp only[er];rfl
 ·have e2:res (.lst ds) s=.lst ds:=rfl
  unfold su;simp only[];rw[er,e2]
theorem Dk {j:Nat} {ps:List Pg} {h l:List Int} {s:ae} (e:s[j]?=some (.lst (jb ps h l))):cb.eD 8 [.aj j,.lst (jb ps h l)] s=ok (.bl true) s :=
 Ph e (W7 (zi ps h l) (by decide)) λd hd=>by
  unfold jb at hd;obtain⟨m,_,hd⟩:=aaL.mp hd;obtain⟨p,_,rfl⟩:=XN.mp hd;refine Pf (by simp) λd hd=>?_;simp only[W3,XQ,or_false] at hd
  rcases hd with rfl|rfl|rfl<;>exact Pe
theorem Fc:Sh [] []:=⟨⟨by simp,.nil⟩,⟨by simp,.nil⟩,by simp⟩
theorem Sh.rev {h l:List Int} (s:Sh h l):Sh l h:=⟨s.b,s.a,λx hx hl=>s.ap x hl hx⟩
theorem MF {s:ae} {k:Nat} (h:aY s k):Wp (uY [.aj k] s) λd s'=>∃a b,d=cO a b/\Sh a b/\aY s' k/\Ex k s s':=by
 unfold uY;simp only[VC];refine(rj (n:=8) h (by omega)).mono λd t1 ik=>?_;obtain⟨u1,rfl,k1,h1,e1⟩:=ik;refine(rj (n:=8) h1 (by omega)).mono λd t2 hd2=>?_;obtain⟨u2,rfl,k2,h2,e2⟩:=hd2;refine⟨by decide,?_⟩
 try simp only[VC]
 refine Wp.of (je (ds:=u2.map D.int) rfl) ⟨iP (by rw[WJ];have:=k2.len;omega),?_⟩;refine Wp.of (iu (λx=>!decide (x∈u1)) (λx=>.int x) u2 λx _=>⟨[some (.int x),some (mD u1)],rfl,?_,λ_=>rfl⟩) ?_
 ·refine Wp.eq ?_
  simp only[VC,uO,and_self]
 ·refine Wp.of (show dB [.lst ((u2.filter λx=>!decide (x∈u1)).map λx=>.int x)] t2=ok (mD (u2.filter λx=>!decide (x∈u1))) t2 from rfl) ?_
  exact⟨by decide,u1,_,rfl,⟨k1,k2.filter _,λx hx hl=>by simpa [hx] using (XF.mp hl).2⟩,h2,e1.trans e2⟩
noncomputable def mj:Pg->Bool
 | .made _ _ _ _=>true
 | .bP _ _ _=>false
noncomputable def n0:Pg->D
 | .made _ _ h l=>cO h l
 | .bP _ _ _=>.aB
theorem Pj {p:Pg} (h:eG p=true) (hm:mj p=true):∃a b,n0 p=cO a b/\Sh a b:=by
 cases p with
 |made m d a b =>
  simp only[eG,WK] at h;refine⟨a,b,rfl,pB h.2.1,pB h.2.2.1,λx hx hl=>?_⟩;have:=h.2.2.2;unfold kb at this;rw[X4,aay] at this;exact this x hx (decide_eq_true hl)
 |bP m d k=>cases hm
theorem NQ (p:Pg):lay (n0 p)=true:=by
 cases p with
 |made m d a b =>
  show cK [mD a,mD b]=true;simp only[cK,lay,vc D.int (λ_=>rfl),Yl]
 |bP m d k=>rfl
theorem Pk {ps:List Pg} {s:ae} {k:Nat} (h:aY s k) (hl:ps.length<=24) (hg:∀p∈ps,eG p=true):Wp (qO [.aj k,bD ps] s) λd s'=>∃a b,d=cO a b/\Sh a b/\aY s' k/\Ex k s s':=by
 unfold qO;rw[wp_fn];refine⟨rfl,?_⟩;simp only[W4,XT,Xn,XG,WM,Nat.reduceSub];rw[wp_sSeq,wp_sAsg,wp_comp];refine Wp.of (je (ds:=ps.map Pg.d) rfl) ⟨iP (by rw[WJ];omega),?_⟩;refine Wp.of (comp_map Pg.d mj n0 ps λp hp=>⟨[some p.d],rfl,?_,λhm=>?_⟩) ?_
 ·refine Wp.eq ?_
  simp only[VC]
  cases p with
  |made m d a b =>
   refine Wp.of (eh _ _ _ _ _).1 (Wp.of ij ?_);simp only[VC,mj,decide_true,and_self]
  |bP m d k =>
   refine Wp.of (eh _ _ _ _ _).1 (Wp.of ij ?_);simp only[VC,mj,rA,decide_false,and_self]
 ·refine Wp.eq ?_
  simp only[VC]
  cases p with
  |made m d a b=>exact Wp.of (eh _ _ _ _ _).2.2.2 ⟨rfl,rfl⟩
  |bP m d k=>cases hm
 simp only[asg_N,WY,WZ,aft_nx];have mem:∀x∈(ps.filter mj).map n0,∃a b,x=cO a b/\Sh a b:=λx hx=>by
  obtain⟨p,hp,rfl⟩:=XN.mp hx;rw[XF] at hp;obtain⟨a,b,e,q⟩:=Pj (hg p hp.1) hp.2;exact⟨a,b,e,q⟩
 have len:((ps.filter mj).map n0).length<=24:=by rw[WJ];exact W7 (X7 _ _) hl
 have Iq:cK ((ps.filter mj).map n0)=true:=vc _ NQ _;generalize (ps.filter mj).map n0=ds at mem len Iq;rw[wp_sSeq,wp_sAsg];refine Wp.mono (Q:=λx s'=>∃a b,x=cO a b/\Sh a b/\aY s' k/\Ex k s s') ?_ λx t1 hx=>?_
 ·rw[wp_eIf]
  simp only[wp_tBl,wp_e2,wp_locS,wp_loc0,wp_lst,wp_aNil];refine⟨by decide,Wp.of (ne_nil Iq) ?_⟩;rw[wp_isBl]
  cases hd:ds.isEmpty with
  |true =>
   simp only[Xl,WH,if_false,wp_tup,wp_aCons,wp_aNil];exact⟨by decide,by decide,by decide,[],[],rfl,Fc,h,Ex.refl _ _⟩
  |false =>
   have hn:0<ds.length:=by cases ds with|nil=>cases hd|cons a b=>exact Nat.succ_pos _
   simp only[Y4,if_true,wp_call,wp_aCons,wp_aNil,wp_loc0,wp_locS,wp_eB,wp_e2];refine Wp.of (show dY [.lst ds] s=ok (.int ds.length) s from rfl) ?_;refine(dA h (by omega) (by omega)).mono λd t1 ik=>?_;obtain⟨r,rfl,r0,r1,h1,e1⟩:=ik;obtain⟨x,q1,q2⟩:=mi (xs:=ds) r0 r1;obtain⟨a,b,rfl,hs⟩:=mem x (YF q2);exact Wp.of (show ao (.lst ds) (.int r) t1=ok (cO a b) t1 by simp only[ao,gU,res,q1,bI]) ⟨a,b,rfl,hs,h1,e1⟩
 obtain⟨a,b,rfl,hs,h1,e1⟩:=hx;simp only[asg_N,WY,WZ,aft_nx];rw[wp_sSeq,wp_sAsg];simp only[wp_call,wp_aCons,wp_aNil,wp_loc0,wp_locS,wp_C];refine(rj (n:=8) h1 (by omega)).mono λd t2 hd=>?_;obtain⟨u,rfl,ku,h2,e2⟩:=hd;simp only[asg_N,WY,WZ,aft_nx];rw[wp_sSeq,wp_sAsg];simp only[wp_tup,wp_aCons,wp_aNil,wp_loc0,wp_locS,wp_eB,wp_comp];refine Wp.of (eR (n:=8) rfl (by decide)) ⟨by rw[cX];exact le_size (by decide),?_⟩;rw[Im];refine Wp.of (iu (λx=>!decide (x∈u)) (λx=>.int x) k8 λx _=>⟨[some (.int x),some (mD u)],rfl,?_,λ_=>rfl⟩) ?_
 ·refine Wp.eq ?_
  simp only[VC,uO,and_self]
 refine Wp.of (show dB [.lst ((k8.filter λx=>!decide (x∈u)).map λx=>.int x)] t2=ok (mD (k8.filter λx=>!decide (x∈u))) t2 from rfl) ?_;have Vu:cW 8 k8:=⟨λx hx=>vL.mp hx,by decide⟩;have hw:Sh u (k8.filter λx=>!decide (x∈u)):=⟨ku,Vu.filter _,λx hx hl=>by simpa [hx] using (XF.mp hl).2⟩;generalize (k8.filter λx=>!decide (x∈u))=v at hw;refine⟨le_size (by simp only[W5,W9];decide),?_⟩;simp only[asg_N,WY,WZ,aft_nx];rw[wp_sRet];simp only[wp_e2,wp_lst,wp_aCons,wp_aNil,wp_call,wp_loc0,wp_locS,wp_e1,wp_tup,wp_C];refine(MF h2).mono λd t3 hd=>?_;obtain⟨a',b',rfl,xn,h3,e3⟩:=hd;refine Wp.of (show wC (cO a b) t3=ok (cO b a) t3 from rfl) ?_;refine⟨by decide,by decide,by decide,le_size (by simp only[W5,W9];decide),?_⟩;refine(dA h3 (by decide) (by decide)).mono λd t4 hd=>?_;obtain⟨r,rfl,r0,r1,h4,e4⟩:=hd;have ex:=e1.trans (e2.trans (e3.trans e4));simp only[fin_rt]
 rcases(show r=0\/r=1\/r=2\/r=3\/r=4 by omega) with rfl|rfl|rfl|rfl|rfl
 ·exact Wp.of (show ao _ (.int 0) t4=ok (cO a' b') t4 from rfl) ⟨_,_,rfl,xn,h4,ex⟩
 ·exact Wp.of (show ao _ (.int 1) t4=ok (cO a b) t4 from rfl) ⟨_,_,rfl,hs,h4,ex⟩
 ·exact Wp.of (show ao _ (.int 2) t4=ok (cO b a) t4 from rfl) ⟨_,_,rfl,hs.rev,h4,ex⟩
 ·exact Wp.of (show ao _ (.int 3) t4=ok (cO u v) t4 from rfl) ⟨_,_,rfl,hw,h4,ex⟩
 ·exact Wp.of (show ao _ (.int 4) t4=ok (cO [] []) t4 from rfl) ⟨_,_,rfl,Fc,h4,ex⟩
end DI
namespace DI
open PySem L2 TK DI.cb
theorem Ha {x:Bool×Bool} {s:ae}:cq (.bl false) (sy x) s=ok (.bl (!x.1)) s/\cq (.bl true) (sy x) s=ok (.bl (!x.2)) s:=by
 obtain⟨f,t⟩:=x
 cases f<;>cases t<;>exact⟨rfl,rfl⟩
theorem wJ {s:ae} {j:Nat} {L:List D} {x:D} (e:s[j]?=some (.lst L)) (hL:L.length<=1000):gv (.aj j) s=true/\fW (.aj j) x s=ok .aB (s.set j (.lst (L++[x]))):=by
 refine⟨by simp only[gv,e],?_⟩;unfold fW;simp only[e];rw[if_pos (by rw[decide_eq_true_eq];exact WL (show L.length<1001 by omega) (le_size (by decide)))]
theorem Ge {xs ys:List D} {s:ae} (h:xs.length+ys.length<=1000):cj (.lst xs) (.lst ys) s=ok (.lst (xs++ys)) s:=by
 have e:nW (.lst xs) (.lst ys)=some (.lst (xs++ys)):=by
  show (if nV _ _=true then some (D.lst _) else none)=_
  rw[if_pos (by unfold nV;rw[decide_eq_true_eq];exact iP h)]
 show bI (nW _ _) s=_;rw[show nW (res (.lst xs) s) (res (.lst ys) s)=some (.lst (xs++ys)) from e];rfl
theorem NR {ps:List Pg} {m:Int} {h l:List Int} {d:Nat} {s:ae} {sc rp du:D} {k0:Int} {k j:Nat} {L:List D} {gW j4:Option D} {Q:Fl->ae->Prop} (hb:gZ ps=true) (hm:0<=m/\m<4) (hs:Sh h l) (hd:d<=30) (ej:s[j]?=some (.lst L)) (hL:L.length<=1000)
  (q:∀bX,Q (.nx [some sc,some (.int k0),some (.aj k),some (bD ps),some (cO h l),some rp,some du,some (.int m),some (nO ps m),some (.aj j),some (.int d),bX,j4]) (if dO ps m h l d=true then s.set j (.lst (L++[.int d])) else s)) :
  Wp ((ay (aN (aV 1 [10,8] (aU (e2 ao (aa 4) (eC (.int 0)))) (gN 0) (aF (e2 cq (eC (.bl true)) (e2 ao (e2 ao (aa 2) (aa 0)) (aa 1)))) (aa 0)) (gN 11)) (bA (aF (e2 aS (e2 cj (aa 11) (aV 1 [10,8] (aU (e2 ao (aa 4) (eC (.int 1)))) (gN 0) (aF (e2 cq (eC (.bl false)) (e2 ao (e2 ao (aa 2) (aa 0)) (aa 1)))) (aa 0))) (fB ai))) (cP (eJ (aa 9) (aa 10))) bL)) [some sc,some (.int k0),some (.aj k),some (bD ps),some (cO h l),some rp,some du,some (.int m),some (nO ps m),some (.aj j),some (.int d),gW,j4] s) Q:=by
 have N:=λk hk=>O3 hb hm (k:=k) hk;have k1:=hs.a.len;have k2:=hs.b.len;have Ir:∀(k:Int),0<=k/\k<8->bw (sN ps m k) (lN ps m k) (mN ps m k) d=(!pr (sN ps m k) (mN ps m k) d,!ab (lN ps m k) (mN ps m k) d):=λk hk=>Sb (N k hk) hd;have di:0<=(d:Int)/\(d:Int)<31:=by omega
 rw[wp_sSeq,wp_sAsg,wp_comp];refine Wp.of (je (s1:=s) (ds:=h.map D.int) (Wp.eq ?_)) ⟨iP (by rw[WJ];omega),?_⟩
 ·simp only[VC]
  exact Wp.of (j0 _ _ _).1 ⟨rfl,rfl⟩
 refine Wp.of (iu (λk=>ab (lN ps m k) (mN ps m k) d) (λk=>.int k) h λk hk=>⟨[some (.int k),some (.int d),some (nO ps m)],rfl,?_,λ_=>rfl⟩) ?_
 ·refine Wp.eq ?_
  simp only[VC];refine Wp.of (HF (hs.a.lo k hk)) (Wp.of (G9 di) ?_);rw[Xm];refine Wp.of Ha.2 ?_;simp only[VC];rw[Ir k (hs.a.lo k hk)];simp
 simp only[asg_N,WY,WZ,aft_nx];rw[wp_sIf];simp only[wp_tBl,wp_e2,wp_locS,wp_loc0,wp_comp];refine Wp.of (je (s1:=s) (ds:=l.map D.int) (Wp.eq ?_)) ⟨iP (by rw[WJ];omega),?_⟩
 ·simp only[VC]
  exact Wp.of (j0 _ _ _).2 ⟨rfl,rfl⟩
 refine Wp.of (iu (λk=>pr (sN ps m k) (mN ps m k) d) (λk=>.int k) l λk hk=>⟨[some (.int k),some (.int d),some (nO ps m)],rfl,?_,λ_=>rfl⟩) ?_
 ·refine Wp.eq ?_
  simp only[VC];refine Wp.of (HF (hs.b.lo k hk)) (Wp.of (G9 di) ?_);rw[Xm];refine Wp.of Ha.1 ?_;simp only[VC];rw[Ir k (hs.b.lo k hk)];simp
 have f1:=X7 (λk=>ab (lN ps m k) (mN ps m k) d) h;have f2:=X7 (λk=>pr (sN ps m k) (mN ps m k) d) l;refine Wp.of (Ge (by rw[WJ,WJ];omega)) ?_;rw[<- Xz];simp only[wp_lst,wp_aNil];refine⟨by decide,Wp.of (eq_nil (vc D.int (λ_=>rfl) _)) ?_⟩;have key:(List.map D.int (h.filter (λk=>ab (lN ps m k) (mN ps m k) d)++l.filter λk=>pr (sN ps m k) (mN ps m k) d)).isEmpty=dO ps m h l d:=by
  rw[Yw,List.isEmpty_iff,List.map_eq_nil_iff,List.append_eq_nil_iff,List.filter_eq_nil_iff,List.filter_eq_nil_iff];unfold dO;simp only[WK,XO,X4,Zr]
 rw[wp_isBl];have TJ:(List.map (λk=>D.int k) (h.filter (λk=>ab (lN ps m k) (mN ps m k) d)++l.filter λk=>pr (sN ps m k) (mN ps m k) d)).isEmpty=dO ps m h l d:=key;rw[TJ];have q':=q (some (.lst ((h.filter λk=>ab (lN ps m k) (mN ps m k) d).map λk=>.int k)))
 cases ho:dO ps m h l d with
 |true =>
  rw[ho] at q';simp only[if_true] at q' |-;simp only[wp_sExpr,wp_app,wp_locS,wp_loc0];exact⟨(wJ (x:=.aB) ej hL).1,Wp.of (wJ ej hL).2 q'⟩
 |false =>
  rw[ho] at q';simp only[WH,if_false] at q' |-;rw[wp_sNil];exact q'
noncomputable def dN (b:Nat->Bool) (n:Nat):List Int:=((WW n).filter b).map λi:Nat=>(i:Int)
theorem Pl {b:Nat->Bool} {n:Nat}:dN b (n+1)=dN b n++if b n=true then [(n:Int)] else []:=by
 unfold dN;rw[YN,Zw,Xz];congr 1
 by_cases h:b n=true<;>simp[X9,h]
theorem Hb {b:Nat->Bool} {n x:Nat} (hx:x<n):decide ((x:Int)∈dN b n)=b x:=by
 have:(x:Int)∈dN b n↔b x=true:=by
  unfold dN;rw[XN];constructor
  ·rintro ⟨i,hi,e⟩
   rw[XF] at hi;have:i=x:=by omega
   subst this;exact hi.2
  ·intro h
   exact⟨x,XF.mpr ⟨Xy.mpr hx,h⟩,rfl⟩
 rw[Yw,decide_eq_true_eq];exact this
theorem Q4 {b:Nat->Bool} {n:Nat}:(dN b n).length<=n:=by
 unfold dN;rw[WJ];exact W7 (X7 _ _) (by rw[Yn];exact Nat.le_refl _)
noncomputable def lO (ps:List Pg) (h l:List Int) (m:Int):List D:=(bt (dO ps m h l) 31).map λp=>D.tup [.int m,.int p.1,.int p.2]
theorem KL {ps:List Pg} {m:Int} {h l:List Int} {s:ae} {sc rp:D} {acc:List D} {k0:Int} {k:Nat} {a8 a9 iI gW j4:Option D} {Q:Fl->ae->Prop} (hb:gZ ps=true) (hm:0<=m/\m<4) (hs:Sh h l) (ha:acc.length<=500) (st:aY s k)
  (q:∀b8 b9 bW bX s',aY s' k->Q (.nx [some sc,some (.int k0),some (.aj k),some (bD ps),some (cO h l),some rp,some (.lst (acc++lO ps h l m)),some (.int m),b8,b9,bW,bX,j4]) s') :
  Wp ((ay (aN (bz (af (aV 1 [3,7] (bM (af (eC (.int 8)) ai)) (gN 0) ck (ax pX (af (aa 1) (af (aa 2) (af (aa 0) ai))))) (af (eNew ai) ai))) (gT [(gN 8),(gN 9)])) (ay (cJ (bM (af (eC (.int 31)) ai)) (gN 10) (ay (aN (aV 1 [10,8] (aU (e2 ao (aa 4) (eC (.int 0)))) (gN 0) (aF (e2 cq (eC (.bl true)) (e2 ao (e2 ao (aa 2) (aa 0)) (aa 1)))) (aa 0)) (gN 11)) (bA (aF (e2 aS (e2 cj (aa 11) (aV 1 [10,8] (aU (e2 ao (aa 4) (eC (.int 1)))) (gN 0) (aF (e2 cq (eC (.bl false)) (e2 ao (e2 ao (aa 2) (aa 0)) (aa 1)))) (aa 0))) (fB ai))) (cP (eJ (aa 9) (aa 10))) bL))) (ay (aN (e2 cj (aa 6) (aV 2 [7] (aU (ax pk (af (aa 9) ai))) (gT [gN 0,gN 1]) ck (bz (af (aa 2) (af (aa 0) (af (aa 1) ai)))))) (gN 6)) (cJ (aU (fB (af (eC (.int 0)) (af (eC (.int 30)) (af (ax bj (af (aa 2) (af (eC (.int 31)) ai))) (af (ax bj (af (aa 2) (af (eC (.int 31)) ai))) ai)))))) (gN 10) (bA (dF (cu (ax (cb.eD 8) (af (ax pI (af (aa 3) (af (aa 7) (af (aa 10) (af (aa 4) ai))))) (af (e2 bU (aa 10) (aa 9)) ai))))) (aP (eC (.bl false))) bL))))) [some sc,some (.int k0),some (.aj k),some (bD ps),some (cO h l),some rp,some (.lst acc),some (.int m),a8,a9,iI,gW,j4] s) Q:=by
 obtain⟨sV,hg⟩:=xQ hb;rw[wp_sSeq,wp_sAsg];simp only[wp_tup,wp_aCons,wp_aNil,wp_comp];refine Wp.of (eR (n:=8) rfl (by decide)) ⟨by rw[cX];exact le_size (by decide),?_⟩;refine NM (G:=qw ps m) (b:=bD ps) (mu:=m) (λk s=>QW (by omega) λp hp=>⟨(hg p hp).day,(hg p hp).fk,(hg p hp).apart⟩) rfl λc=>?_;have h1:=st.app c;generalize s++c=t at h1;simp only[wp_new,wp_aNil];refine⟨by decide,le_size (by simp only[W5,W9];decide),?_⟩;simp only[asg_T,asg_cons,asg_nil,WY,WZ,aft_nx];have hk:=h1.lt;rw[wp_sSeq,wp_sFor];refine Wp.of (eR (n:=31) rfl (by decide)) ?_;refine Wp.fY (λi env s'=>i<=31->∃bW bX,env=[some sc,some (.int k0),some (.aj k),some (bD ps),some (cO h l),some rp,some (.lst acc),some (.int m),some (nO ps m),some (.aj t.length),bW,bX,j4]/\aY s' k/\s'[t.length]?=some (.lst ((dN (dO ps m h l) i).map D.int))) _ (λ_=>⟨_,_,rfl,h1.app _,by simp[dN]⟩) (λi d env s' hd hI=>?_) (λenv s' hI=>?_)
 ·rw[fP] at hd
  split at hd
  ·rename_i hi
   cases hd;obtain⟨bW,bX,rfl,g1,g2⟩:=hI (by omega);refine⟨_,rfl,?_⟩;simp only[WY,WZ,aa5];refine NR hb hm hs (by omega) g2 (by rw[WJ];exact W7 Q4 (by omega)) λbX=>?_;refine λ_=>⟨_,_,rfl,?_,?_⟩
   ·split
    ·exact g1.set (by omega) _
    ·exact g1
   ·rw[Pl]
    split
    ·rw[Xc (WO.mp g2).1,Xz]
     rfl
    ·rw[Yb]
     exact g2
  ·cases hd
 rw[cX] at hI;obtain⟨bW,bX,rfl,g1,g2⟩:=hI (Nat.le_refl _);have jU:∀x∈dN (dO ps m h l) 31,0<=x/\x<31:=λx hx=>by
  unfold dN at hx;obtain⟨i,hi,rfl⟩:=XN.mp hx;have:=Xy.mp (XF.mp hi).1;omega
 have oh:bt (λx=>decide ((x:Int)∈dN (dO ps m h l) 31)) 31=bt (dO ps m h l) 31:=DD 31 λx hx=>Hb hx;rw[aft_nx,wp_sSeq,wp_sAsg];simp only[wp_e2,wp_locS,wp_loc0,wp_comp];have ls:=Pc g2 jU;rw[oh] at ls;refine Wp.of (jf (s1:=s'++[.dead]) (ds:=(bt (dO ps m h l) 31).map fu) (Wp.eq ?_)) ⟨iP (by rw[WJ];exact W7 (pL _ 31) (by decide)),?_⟩
 ·simp only[wp_call,wp_aCons,wp_aNil,wp_locS,wp_loc0]
  exact Wp.of ls ⟨rfl,rfl⟩
 refine Wp.of (comp_map fu (λ_=>true) (λp=>.tup [.int m,.int p.1,.int p.2]) (bt (dO ps m h l) 31) λp _=>⟨[some (.int p.1),some (.int p.2),some (.int m)],rfl,rfl,λ_=>?_⟩) ?_
 ·refine Wp.eq ?_
  simp only[wp_tup,wp_aCons,wp_aNil,wp_locS,wp_loc0]
  exact⟨le_size (by simp only[W5,W9];decide),by first|trivial|exact⟨rfl,rfl⟩⟩
 rw[filter_tt];have pl:(lO ps h l m).length<=31:=by unfold lO;rw[WJ];exact pL _ 31
 refine Wp.of (Ge (by show acc.length+(lO ps h l m).length<=1000;omega)) ?_;simp only[asg_N,WY,WZ,aft_nx];have h5:aY (s'++[.dead]) k:=g1.app _;have e5:(s'++[Cell.dead])[t.length]?=some (.lst ((dN (dO ps m h l) 31).map D.int)):=(W0 (WO.mp g2).1).trans g2;generalize s'++[Cell.dead]=s5 at h5 e5;rw[wp_sFor];have it:Wp (aU (fB (af (eC (.int 0)) (af (eC (.int 30)) (af (ax bj (af (aa 2) (af (eC (.int 31)) ai))) (af (ax bj (af (aa 2) (af (eC (.int 31)) ai))) ai))))) [some sc,some (.int k0),some (.aj k),some (bD ps),some (cO h l),some rp,some (.lst (acc++lO ps h l m)),some (.int m),some (nO ps m),some (.aj t.length),bW,bX,j4] s5) λds s'=>∃ns:List Int,ds=ns.map D.int/\(∀x∈ns,0<=x/\x<31)/\aY s' k/\s'[t.length]?=some (.lst ((dN (dO ps m h l) 31).map D.int)):=by
  unfold aU;rw[bh];simp only[wp_lst,wp_aCons,wp_aNil,wp_call,wp_loc0,wp_locS,wp_C];refine(dA h5 (by decide) (by decide)).mono λd s6 hd=>?_;obtain⟨x1,rfl,kL,kM,h6,e6⟩:=hd;refine(dA h6 (by decide) (by decide)).mono λd s7 hd=>?_;obtain⟨x2,rfl,oW,oX,h7,e7⟩:=hd;refine⟨le_size (by simp only[W5,W9];decide),?_⟩;simp only[wp_ok];refine⟨[0,30,x1,x2],rfl,λx hx=>?_,h7,?_⟩
  ·simp only[W3,XQ,or_false] at hx
   rcases hx with rfl|rfl|rfl|rfl<;>omega
  ·exact(e6.trans e7).get e5 (by omega)
 refine it.mono λds s6 hd=>?_;obtain⟨ns,rfl,mP,h6,e6⟩:=hd;refine Wp.fY (λi env s'=>∃bW,env=[some sc,some (.int k0),some (.aj k),some (bD ps),some (cO h l),some rp,some (.lst (acc++lO ps h l m)),some (.int m),some (nO ps m),some (.aj t.length),bW,bX,j4]/\aY s' k/\s'[t.length]?=some (.lst ((dN (dO ps m h l) 31).map D.int))) _ ⟨_,rfl,h6,e6⟩ (λi d env s' hd hI=>?_) (λenv s' hI=>?_)
 ·obtain⟨bW,rfl,g1,g2⟩:=hI
  rw[W6] at hd
  cases hx:ns[i]? with
  |none=>rw[hx] at hd;cases hd
  |some x =>
   rw[hx] at hd;cases hd;have wO:=mP x (YF hx);obtain⟨dn,rfl⟩:∃n:Nat,x=n:=⟨x.toNat,by omega⟩;refine⟨_,rfl,?_⟩;rw[wp_sIf];simp only[wp_tNot,wp_tru,wp_call,wp_aCons,wp_aNil,wp_e2,wp_locS,wp_loc0,WY,WZ];refine(NO (by omega) (λp hp=>(hg p hp).fk) hb hm (by omega) hs).mono λx s7 hx=>?_;obtain⟨rfl,c2,rfl⟩:=hx;have Jv:(s'++c2)[t.length]?=some (.lst ((dN (dO ps m h l) 31).map D.int)):=(W0 (WO.mp g2).1).trans g2;refine Wp.of (xm Jv).1 ?_;rw[Hb (by omega)];refine Wp.of Q3 ?_;rw[wp_truB];simp only[Xl,WH,if_false,wp_sNil];exact⟨_,rfl,g1.app c2,Jv⟩
 ·obtain⟨bW,rfl,g1,g2⟩:=hI
  exact q _ _ _ _ _ g1
theorem MG {W:World} {ps:List Pg} {s:ae} {sc:D} {k0:Int} {k:Nat} {a4 a5 a6 a7 a8 a9 iI gW j4:Option D} {Q:Fl->ae->Prop} (hl:ps.length<=1000) (hf:∀p∈ps,fk p) (st:aY s k)
  (q:∀(b4 b5 b6 b7 b8 b9 bW bX BB:Option D) (s':ae),aY s' k->Q (.nx [some sc,some (.int k0),some (.aj k),some (bD ps),b4,b5,b6,b7,b8,b9,bW,bX,BB]) s'/\Q (.ct [some sc,some (.int k0),some (.aj k),some (bD ps),b4,b5,b6,b7,b8,b9,bW,bX,BB]) s') :
  Wp ((ay (bA (dF (cu (ax pC (af (aa 3) ai)))) rQ bL) (ay (nZ 4 5 6 (af (ax qO (af (aa 2) (af (aa 3) ai))) (af (eB nJ (af (aa 3) ai)) (af (fB ai) ai)))) (ay (cJ (bM (af (eC (.int 4)) ai)) (gN 7) (ay (aN (bz (af (aV 1 [3,7] (bM (af (eC (.int 8)) ai)) (gN 0) ck (ax pX (af (aa 1) (af (aa 2) (af (aa 0) ai))))) (af (eNew ai) ai))) (gT [(gN 8),(gN 9)])) (ay (cJ (bM (af (eC (.int 31)) ai)) (gN 10) (ay (aN (aV 1 [10,8] (aU (e2 ao (aa 4) (eC (.int 0)))) (gN 0) (aF (e2 cq (eC (.bl true)) (e2 ao (e2 ao (aa 2) (aa 0)) (aa 1)))) (aa 0)) (gN 11)) (bA (aF (e2 aS (e2 cj (aa 11) (aV 1 [10,8] (aU (e2 ao (aa 4) (eC (.int 1)))) (gN 0) (aF (e2 cq (eC (.bl false)) (e2 ao (e2 ao (aa 2) (aa 0)) (aa 1)))) (aa 0))) (fB ai))) (cP (eJ (aa 9) (aa 10))) bL))) (ay (aN (e2 cj (aa 6) (aV 2 [7] (aU (ax pk (af (aa 9) ai))) (gT [gN 0,gN 1]) ck (bz (af (aa 2) (af (aa 0) (af (aa 1) ai)))))) (gN 6)) (cJ (aU (fB (af (eC (.int 0)) (af (eC (.int 30)) (af (ax bj (af (aa 2) (af (eC (.int 31)) ai))) (af (ax bj (af (aa 2) (af (eC (.int 31)) ai))) ai)))))) (gN 10) (bA (dF (cu (ax (cb.eD 8) (af (ax pI (af (aa 3) (af (aa 7) (af (aa 10) (af (aa 4) ai))))) (af (e2 bU (aa 10) (aa 9)) ai))))) (aP (eC (.bl false))) bL)))))) (ay (aN (ax m8 (af (aa 3) (af (aa 4) ai))) (gN 12)) (ay (bA (dF (cu (ax (cb.eD 8) (af (aa 12) (af (aa 6) ai))))) (aP (eC (.bl false))) bL) (ay (cP (eJ (aa 12) (eC (.int 0)))) (bA (gS (dF (cu (ax (cb.eD 8) (af (ax m8 (af (aa 3) (af (aa 4) ai))) (af (aa 6) ai))))) (aF (e2 fE (eB nJ (af (aa 3) ai)) (aa 5)))) (aP (eC (.bl false))) bL))))))) [some sc,some (.int k0),some (.aj k),some (bD ps),a4,a5,a6,a7,a8,a9,iI,gW,j4] s) Q:=by
 rw[wp_sSeq,wp_sIf];simp only[wp_tNot,wp_tru,wp_call,wp_aCons,wp_aNil,wp_loc0,wp_locS];refine Wp.of (FU hl hf) ?_;rw[wp_truB]
 cases hb:gZ ps with
 |false =>
  simp only[Y4,if_true,wp_sCont,aft_ct];exact(q _ _ _ _ _ _ _ _ _ _ st).2
 |true =>
  obtain⟨sV,hg⟩:=xQ hb;have Vv:∀p∈ps,eG p=true:=by
   have fq:=hb;unfold gZ jF at fq;simp only[WK,XO] at fq;exact fq.1.2.1
  simp only[Xl,WH,if_false,wp_sNil,aft_nx];rw[wp_sSeq];refine Wp.zF ?_;simp only[wp_aCons,wp_aNil,wp_call,wp_eB,wp_loc0,wp_locS,wp_lst];refine(Pk st sV Vv).mono λd s1 hd=>?_;obtain⟨h,l,rfl,hs,h1,e1⟩:=hd;refine Wp.of (Ei hb) ⟨by decide,_,_,_,rfl,?_⟩;simp only[WY,WZ,aft_nx];rw[wp_sSeq,wp_sFor];refine Wp.of (eR (n:=4) rfl (by decide)) ?_;rw[show bV 0 4=m4.map D.int from rfl];generalize Vw:D.str (py (bD ps)).shown=rp;refine Wp.fY (λi env s'=>i<=4->∃b7 b8 b9 bW bX,env=[some sc,some (.int k0),some (.aj k),some (bD ps),some (cO h l),some rp,some (.lst ((m4.take i).flatMap (lO ps h l))),b7,b8,b9,bW,bX,j4]/\aY s' k) _ (λ_=>⟨_,_,_,_,_,rfl,h1⟩) (λi d env s' hd hI=>?_) (λenv s' hI=>?_)
  ·have hi:i<4:=by
    have:=(WO.mp hd).1;rw[WJ] at this;exact this
   obtain⟨b7,b8,b9,bW,bX,rfl,g1⟩:=hI (by omega);have hx:m4[i]?=some (i:Int):=by unfold m4;rw[W6,XJ hi];rfl
   rw[W6,hx] at hd;cases hd;refine⟨_,rfl,?_⟩;have tk:m4.take (i+1)=m4.take i++[(i:Int)]:=by rw[List.take_succ,hx];rfl
   simp only[WY,WZ];refine KL hb (by omega) hs ?_ g1 λb8 b9 bW bX s2 g2=>(λ_=>⟨_,_,_,_,_,by rw[tk,List.flatMap_append,aax,List.flatMap_nil,Yb],g2⟩);refine W7 (nj (b:=31) λm _=>by unfold lO;rw[WJ];exact pL _ 31) ?_;rw[Zo];omega
  ·obtain⟨b7,b8,b9,bW,bX,rfl,g1⟩:=hI (by rw[WJ];exact Nat.le_refl _)
   rw[WJ,show m4.take m4.length=m4 from List.take_length,show m4.flatMap (lO ps h l)=jb ps h l from rfl];rw[aft_nx,wp_sSeq,wp_sAsg];simp only[wp_call,wp_aCons,wp_aNil,wp_locS,wp_loc0];refine(Em (by omega) (λp hp=>(hg p hp).fk) hb hs).mono λx s2 hx=>?_;obtain⟨c,rfl,rfl⟩:=hx;have h2:aY (s'++c++[.lst (jb ps h l)]) k:=(g1.app _).app _;have e2:(s'++c++[Cell.lst (jb ps h l)])[(s'++c).length]?=some (.lst (jb ps h l)):=by simp
   have fH:k<(s'++c).length:=(g1.app c).lt;generalize s'++c++[Cell.lst (jb ps h l)]=s3 at h2 e2;generalize (s'++c).length=j at e2 fH;simp only[asg_N,WY,WZ,aft_nx];rw[wp_sSeq,wp_sIf];simp only[wp_tNot,wp_tru,wp_call,wp_aCons,wp_aNil,wp_locS,wp_loc0];refine Wp.of (Dk e2) ?_;rw[wp_truB];simp only[Xl,WH,if_false,wp_sNil,aft_nx];rw[wp_sSeq,wp_sExpr];simp only[wp_app,wp_locS,wp_loc0,wp_C];have pl:=W7 (zi ps h l) (show 124<=1000 by decide);refine⟨(wJ (x:=.aB) e2 pl).1,Wp.of (wJ e2 pl).2 ?_⟩;have h3:=h2.set (YH fH) (.lst (jb ps h l++[.int 0]));generalize s3.set j (.lst (jb ps h l++[.int 0]))=s4 at h3;rw[aft_nx,wp_sIf];simp only[wp_tOr,wp_tNot,wp_tru,wp_call,wp_aCons,wp_aNil,wp_locS,wp_loc0];refine(Em (by omega) (λp hp=>(hg p hp).fk) hb hs).mono λx s5 hx=>?_;obtain⟨c5,rfl,rfl⟩:=hx;refine Wp.of (Dk (by simp)) ?_;rw[wp_truB];simp only[Xl,WH,if_false,wp_tBl,wp_e2,wp_eB,wp_aCons,wp_aNil,wp_locS,wp_loc0];refine Wp.of (Ei hb) ?_;subst Vw;refine Wp.of ne_str ?_;simp only[wp_isBl,WH,if_false,wp_sNil];exact(q _ _ _ _ _ _ _ _ _ _ ((h3.app _).app _)).1
theorem NS (W:World) (ns:List Int) (hn:ns.length<=63):∃s,cb.wa W [.bQ ns] []=some (.ok (.bl true),s):=by
 suffices h:Wp (cb.wa W [.bQ ns] []) λd _=>d=.bl true by
  obtain⟨d,s,e,rfl⟩:=h;exact⟨s,e⟩
 unfold cb.wa;simp only[wp_fn,W5,W9,Nat.reduceAdd,Nat.reduceSub,WM,W4,XT,Xn,XG,true_and,wp_sSeq,wp_sFor];have hr:∃n:Nat,n<=1000/\bM (af (eB nI (af (eC (.int 1)) (af (eB rV (af (eB dY (af (aa 0) ai)) (af (eC (.int 3)) ai))) ai))) ai) [some (.bQ ns),none,none,none,none,none,none,none,none,none,none,none,none] []=ok (bV 0 n) []:=by
  have e:∃n:Nat,n<=1000/\(af (eB nI (af (eC (.int 1)) (af (eB rV (af (eB dY (af (aa 0) ai)) (af (eC (.int 3)) ai))) ai))) ai) [some (.bQ ns),none,none,none,none,none,none,none,none,none,none,none,none] []=ok [.int n] []:=by
   refine⟨(if (if (3:Int)<ns.length then (3:Int) else ns.length) > 1 then (if (3:Int)<ns.length then (3:Int) else ns.length) else 1).toNat,by split<;>split<;>omega,?_⟩
   rw[Int.toNat_of_nonneg (by split<;>split<;>omega)]
   rfl
  obtain⟨n,h1,h2⟩:=e;exact⟨n,h1,eR h2 (by omega)⟩
 obtain⟨n,hn,hr⟩:=hr;refine Wp.of hr ?_;refine Wp.fY (λi env s=>∃e1 e2 e3 e4 e5 e6 e7 e8 e9 o7 o9 pb,env=[some (.bQ ns),e1,e2,e3,e4,e5,e6,e7,e8,e9,o7,o9,pb]) _ ⟨_,_,_,_,_,_,_,_,_,_,_,_,rfl⟩ (λi d env s hd hI=>?_) (λenv s hI=>?_)
 ·obtain⟨e1,e2,e3,e4,e5,e6,e7,e8,e9,o7,o9,pb,rfl⟩:=hI
  rw[fP] at hd;split at hd
  ·cases hd
   refine⟨_,rfl,?_⟩;simp only[wp_sSeq,wp_sAsg,asg_N,wp_call,wp_aCons,wp_aNil,wp_loc0,wp_locS,WY,WZ];refine(NC (by omega)).mono λd s1 hd=>?_;obtain⟨rfl,h1,c1,rfl⟩:=hd;generalize s.length=k at h1;rw[aft_nx,wp_sFor];refine Wp.mono (Q:=λds s2=>∃p1 p2:List Pg,ds=[bD p1,bD p2]/\(p1.length<=1000/\∀p∈p1,fk p)/\(p2.length<=1000/\∀p∈p2,fk p)/\aY s2 k) ?_ λds s2 hd=>?_
   ·unfold aU
    rw[bh];simp only[wp_lst,wp_aCons,wp_aNil,wp_sl,wp_call,wp_loc0,wp_locS,wp_pNo,wp_e1,wp_tup];refine(O2 h1).mono λd s2 hd=>?_;obtain⟨p1,rfl,f1,l1,h2,x2⟩:=hd;rw[yH (i:=24) rfl];refine Wp.of (QZ (n:=24)) ?_;refine(O0 h2).mono λd s3 hd=>?_;obtain⟨p2,rfl,f2,l2,h3,x3⟩:=hd;refine Wp.of (show v9 3 (bD p2) s3=ok (bD (dS 3 p2)) s3 by show ok (D.tup (dS 3 (p2.map Pg.d))) s3=_;rw[NN]) ?_;refine⟨le_size (by simp only[W5,W9];decide),?_⟩;simp only[wp_ok];exact⟨_,_,rfl,⟨by rw[Zo];omega,λp hp=>f1 p (List.mem_of_mem_take hp)⟩,⟨W7 (xM 3 p2 (by decide)) (by omega),λp hp=>f2 p (L9 hp)⟩,h3⟩
   ·obtain⟨p1,p2,rfl,g1,g2,h2⟩:=hd
    refine Wp.fY (λj env s=>∃e3 e4 e5 e6 e7 e8 e9 o7 o9 pb,env=[some (.bQ ns),some (.int (0+(i:Int))),some (.aj k),e3,e4,e5,e6,e7,e8,e9,o7,o9,pb]/\aY s k) _ ⟨_,_,_,_,_,_,_,_,_,_,rfl,h2⟩ (λj d env s hd hI=>?_) (λenv s hI=>?_)
    ·obtain⟨e3,e4,e5,e6,e7,e8,e9,o7,o9,pb,rfl,hs⟩:=hI
     have hg:∃ps:List Pg,d=bD ps/\ps.length<=1000/\∀p∈ps,fk p:=by
      match j,hd with
      |0,hd=>cases hd;exact⟨_,rfl,g1⟩
      |1,hd=>cases hd;exact⟨_,rfl,g2⟩
      |j+2,hd=>cases hd
     obtain⟨ps,rfl,gl,gf⟩:=hg;refine⟨_,rfl,?_⟩;exact MG (W:=W) gl gf hs λb4 b5 b6 b7 b8 b9 bW bX BB s' xn=>⟨⟨_,_,_,_,_,_,_,_,_,_,rfl,xn⟩,⟨_,_,_,_,_,_,_,_,_,_,rfl,xn⟩⟩
    ·obtain⟨e3,e4,e5,e6,e7,e8,e9,o7,o9,pb,rfl,hs⟩:=hI
     exact⟨_,_,_,_,_,_,_,_,_,_,_,_,rfl⟩
  ·cases hd
 ·obtain⟨e1,e2,e3,e4,e5,e6,e7,e8,e9,o7,o9,pb,rfl⟩:=hI
  simp only[VC]
end DI
namespace DI.cb
open PySem L2 DI
def Df (K:Frag) (x:Str) (st:Stmt):Prop:=∃(f:Addr) (oc:Value) (od:Option Addr) (sl:Array (Option Value)) (kV dc pm:Value) (an:Option Addr) (cd ct:Value),XD K Xi x=some (some (.ref f))/\K.lookup f=some ⟨oc,od,.func (Zf x x (nk st) (lb st) (aX st) .none kV dc pm an cd ct),sl⟩/\aaB K cd x=true/\Y2 K (.ref f)=true
theorem Sf {K:Frag} {x:Str} {st:Stmt} {f:Addr} {oc:Value} {od:Option Addr} {sl:Array (Option Value)} {kV dc pm:Value} {an:Option Addr} {cd ct:Value} (a:XD K Xi x=some (some (.ref f))) (l:K.lookup f=some ⟨oc,od,.func (Zf x x (nk st) (lb st) (aX st) .none kV dc pm an cd ct),sl⟩) (c:aaB K cd x=true) (k:Y2 K (.ref f)=true):Df K x st:=⟨f,oc,od,sl,kV,dc,pm,an,cd,ct,a,l,c,k⟩
theorem qh {K:Frag} {x:Str} {i:Int} {t:Tok} (e:XD K Xi x=some (some (.int i t))):∃t,XD K Xi x=some (some (.int i t)):=⟨t,e⟩
theorem bO {K:Frag} {h:Heap} {mg:Str->Option Value} {x:Str} {st:Stmt} {ps:List Str} (X:K.In h) (G:h.Ns Xi mg) (D:Df K x st) (hb:∀(kV doc pm:Value) (an:Option Addr) (bg ct:Value) (us:List Value),us.length=ps.length->bindArgs (Zf x x (nk st) (lb st) (aX st) .none kV doc pm an bg ct) ⟨us,[]⟩=pure (ps.zip us)):∃f fd,Gd K mg x st ps f fd:=by
 obtain⟨f,oc,od,sl,kV,dc,pm,an,cd,ct,a,l,c,k⟩:=D;have F:=Gn (st:=st) l c k;exact⟨f,_,Y1 X G a,F,F.binds hb⟩
theorem fg {P:List Value->Prop} (h:∀a0:Value,P [a0]) (us:List Value) (hl:us.length=1):P us:=by
 cases us with
 |nil=>simp at hl
 |cons a0 pd =>
 cases pd with
 |cons _ _=>simp at hl
 |nil =>
 exact h a0
theorem iS {P:List Value->Prop} (h:∀a0 a1:Value,P [a0,a1]) (us:List Value) (hl:us.length=2):P us:=by
 cases us with
 |nil=>simp at hl
 |cons a0 pd =>
 cases pd with
 |nil=>simp at hl
 |cons a1 tZ =>
 cases tZ with
 |cons _ _=>simp at hl
 |nil =>
 exact h a0 a1
theorem my {P:List Value->Prop} (h:∀a0 a1 a2:Value,P [a0,a1,a2]) (us:List Value) (hl:us.length=3):P us:=by
 cases us with
 |nil=>simp at hl
 |cons a0 pd =>
 cases pd with
 |nil=>simp at hl
 |cons a1 tZ =>
 cases tZ with
 |nil=>simp at hl
 |cons a2 BC =>
 cases BC with
 |cons _ _=>simp at hl
 |nil =>
 exact h a0 a1 a2
theorem HG {P:List Value->Prop} (h:∀a0 a1 a2 a3:Value,P [a0,a1,a2,a3]) (us:List Value) (hl:us.length=4):P us:=by
 cases us with
 |nil=>simp at hl
 |cons a0 pd =>
 cases pd with
 |nil=>simp at hl
 |cons a1 tZ =>
 cases tZ with
 |nil=>simp at hl
 |cons a2 BC =>
 cases BC with
 |nil=>simp at hl
 |cons a3 Vx =>
 cases Vx with
 |cons _ _=>simp at hl
 |nil =>
 exact h a0 a1 a2 a3
theorem all_mk {P:Xf} {w:World} {K:Frag} {h:Heap} {mg:Str->Option Value} {fa:Addr} (X:K.In h) (G:h.Ns Xi mg) (Vy:mg "law"=some (.ref fa))
  (d0:Df K "_law_cell_at" (top 45))
  (d1:Df K "_law_state" (top 46))
  (d2:Df K "is_rising" (top 15))
  (d3:Df K "is_number" (top 10))
  (d4:Df K "is_below" (top 11))
  (d5:Df K "is_mark" (top 12))
  (d6:Df K "are_marks" (top 22))
  (d7:Df K "are_apart" (top 24))
  (d8:Df K "is_sheet" (top 23))
  (d9:Df K "is_mould" (top 13))
  (BD:Df K "is_day" (top 14))
  (BE:Df K "is_page" (top 25))
  (BF:Df K "are_laid" (top 26))
  (BG:Df K "days_seen" (top 31))
  (BH:Df K "days_mended" (top 32))
  (BJ:Df K "is_any_behind" (top 30))
  (BK:Df K "clashes" (top 29))
  (BL:Df K "faults_of" (top 28))
  (BM:Df K "is_book" (top 27))
  (BN:Df K "need_book" (top 34))
  (BO:Df K "need_sheet" (top 33))
  (BP:Df K "stretches" (top 43))
  (BQ:Df K "agree" (top 42))
  (BR:Df K "days_present" (top 40))
  (BS:Df K "days_absent" (top 41))
  (BU:Df K "marks_on" (top 39))
  (BV:Df K "sure_sheets" (top 38))
  (BW:Df K "places_of" (top 37))
  (BX:Df K "_law_take" (top 47))
  (BY:Df K "_law_lived" (top 52))
  (BZ:Df K "_law_book" (top 53))
  (gL:Df K "_law_marks" (top 49))
  (B0:Df K "_law_near" (top 51))
  (B7:Df K "_law_sheet" (top 50))
  (B9:Df K "_law_some_sheet" (top 57))
  (Ca:Df K "_law_same" (top 48))
  (Cb:Df K "_law_leads" (top 56))
  (Cc:Df K "_law_gone" (top 55))
  (Cd:Df K "_law_may" (top 54))
  (Ce:Df K "_law_stretches" (top 58))
  (Cf:Df K "need_mould" (top 16))
  (Cg:Df K "need_day" (top 17))
  (Ci:Df K "may_be" (top 36))
  (dl:Df K "law" (top 59))
  (yK:∃t,XD K Xi "MARKS"=some (some (.int (8) t)))
  (yk:∃t,XD K Xi "MOULDS"=some (some (.int (4) t)))
  (zj:∃t,XD K Xi "DAYS"=some (some (.int (31) t)))
  (yL:∃t,XD K Xi "PAGES"=some (some (.int (24) t)))
  (zI:∃t,XD K Xi "HAS"=some (some (.int (0) t)))
  (yM:∃t,XD K Xi "LACKS"=some (some (.int (1) t)))
  (zJ:XD K Xi "all"=some none)
  (zK:XD K Xi "any"=some none)
  (zk:XD K Xi "bool"=some none)
  (zL:XD K Xi "int"=some none)
  (xu:XD K Xi "isinstance"=some none)
  (zM:XD K Xi "len"=some none)
  (zl:XD K Xi "list"=some none)
  (zN:XD K Xi "max"=some none)
  (zO:XD K Xi "min"=some none)
  (yN:XD K Xi "range"=some none)
  (zm:XD K Xi "repr"=some none)
  (xD:XD K Xi "reversed"=some none)
  (zP:XD K Xi "set"=some none)
  (yl:XD K Xi "sorted"=some none)
  (yO:XD K Xi "tuple"=some none)
  (zQ:XD K Xi "zip"=some none)
  : ∃fd:Xg,(∀(s:WI) (v:Value),BindsTo s fd ⟨[v],[]⟩ [("_law_script",v)])/\∀base:Heap,K.In base->base.Ns Xi mg->aW P w K mg base bb 11 fa fd ["_law_script"] (v7 K):=by
 have g0:=bO (ps:=["_law_script","_law_k"]) X G d0 λ_ _ _ _ _ _=>iS λ_ _=>rfl;have g1:=bO (ps:=["_law_script","_law_k"]) X G d1 λ_ _ _ _ _ _=>iS λ_ _=>rfl;have g2:=bO (ps:=["things"]) X G d2 λ_ _ _ _ _ _=>fg λ_=>rfl;have g3:=bO (ps:=["thing"]) X G d3 λ_ _ _ _ _ _=>fg λ_=>rfl;have g4:=bO (ps:=["thing","many"]) X G d4 λ_ _ _ _ _ _=>iS λ_ _=>rfl;have g5:=bO (ps:=["thing"]) X G d5 λ_ _ _ _ _ _=>fg λ_=>rfl;have g6:=bO (ps:=["thing"]) X G d6 λ_ _ _ _ _ _=>fg λ_=>rfl;have g7:=bO (ps:=["marks","others"]) X G d7 λ_ _ _ _ _ _=>iS λ_ _=>rfl;have g8:=bO (ps:=["thing"]) X G d8 λ_ _ _ _ _ _=>fg λ_=>rfl;have g9:=bO (ps:=["thing"]) X G d9 λ_ _ _ _ _ _=>fg λ_=>rfl;have Vz:=bO (ps:=["thing"]) X G BD λ_ _ _ _ _ _=>fg λ_=>rfl;have VA:=bO (ps:=["thing"]) X G BE λ_ _ _ _ _ _=>fg λ_=>rfl;have VB:=bO (ps:=["thing"]) X G BF λ_ _ _ _ _ _=>fg λ_=>rfl;have VD:=bO (ps:=["pages","mould","mark","half"]) X G BG λ_ _ _ _ _ _=>HG λ_ _ _ _=>rfl;have VE:=bO (ps:=["pages","mould","mark"]) X G BH λ_ _ _ _ _ _=>my λ_ _ _=>rfl;have VF:=bO (ps:=["days","day","later"]) X G BJ λ_ _ _ _ _ _=>my λ_ _ _=>rfl;have VG:=bO (ps:=["pages","mould","mark"]) X G BK λ_ _ _ _ _ _=>my λ_ _ _=>rfl;have VH:=bO (ps:=["pages"]) X G BL λ_ _ _ _ _ _=>fg λ_=>rfl;have VI:=bO (ps:=["thing"]) X G BM λ_ _ _ _ _ _=>fg λ_=>rfl;have VJ:=bO (ps:=["thing"]) X G BN λ_ _ _ _ _ _=>fg λ_=>rfl;have VL:=bO (ps:=["thing"]) X G BO λ_ _ _ _ _ _=>fg λ_=>rfl;have VM:=bO (ps:=["holds"]) X G BP λ_ _ _ _ _ _=>fg λ_=>rfl;have VN:=bO (ps:=["sheet","sure"]) X G BQ λ_ _ _ _ _ _=>iS λ_ _=>rfl;have VO:=bO (ps:=["book","mould","mark"]) X G BR λ_ _ _ _ _ _=>my λ_ _ _=>rfl;have VP:=bO (ps:=["book","mould","mark"]) X G BS λ_ _ _ _ _ _=>my λ_ _ _=>rfl;have VQ:=bO (ps:=["days_by_mark","day"]) X G BU λ_ _ _ _ _ _=>iS λ_ _=>rfl;have VR:=bO (ps:=["book","mould"]) X G BV λ_ _ _ _ _ _=>iS λ_ _=>rfl;have VS:=bO (ps:=["book","sheet"]) X G BW λ_ _ _ _ _ _=>iS λ_ _=>rfl;have VT:=bO (ps:=["_law_state_here","_law_many"]) X G BX λ_ _ _ _ _ _=>iS λ_ _=>rfl;have VU:=bO (ps:=["_law_state_here","_law_mended"]) X G BY λ_ _ _ _ _ _=>iS λ_ _=>rfl;have VV:=bO (ps:=["_law_state_here"]) X G BZ λ_ _ _ _ _ _=>fg λ_=>rfl;have VW:=bO (ps:=["_law_state_here","_law_most"]) X G gL λ_ _ _ _ _ _=>iS λ_ _=>rfl;have VX:=bO (ps:=["_law_state_here"]) X G B0 λ_ _ _ _ _ _=>fg λ_=>rfl;have VY:=bO (ps:=["_law_state_here"]) X G B7 λ_ _ _ _ _ _=>fg λ_=>rfl;have VZ:=bO (ps:=["_law_state_here","_law_book_here"]) X G B9 λ_ _ _ _ _ _=>iS λ_ _=>rfl;have V0:=bO (ps:=["_law_found","_law_due"]) X G Ca λ_ _ _ _ _ _=>iS λ_ _=>rfl;have V1:=bO (ps:=["_law_later","_law_one","_law_free"]) X G Cb λ_ _ _ _ _ _=>my λ_ _ _=>rfl;have V2:=bO (ps:=["_law_ahead","_law_one","_law_free"]) X G Cc λ_ _ _ _ _ _=>my λ_ _ _=>rfl;have V3:=bO (ps:=["_law_laid","_law_mould","_law_mark"]) X G Cd λ_ _ _ _ _ _=>my λ_ _ _=>rfl;have V4:=bO (ps:=["_law_days"]) X G Ce λ_ _ _ _ _ _=>fg λ_=>rfl;have V5:=bO (ps:=["thing"]) X G Cf λ_ _ _ _ _ _=>fg λ_=>rfl;have V6:=bO (ps:=["thing"]) X G Cg λ_ _ _ _ _ _=>fg λ_=>rfl;have V7:=bO (ps:=["book","mould","day","sheet"]) X G Ci λ_ _ _ _ _ _=>HG λ_ _ _ _=>rfl;have nh:∃t,mg "MARKS"=some (.int (8) t):=by obtain⟨t,e⟩:=yK;exact⟨t,Y1 X G e⟩
 have q0:∃t,mg "MOULDS"=some (.int (4) t):=by obtain⟨t,e⟩:=yk;exact⟨t,Y1 X G e⟩
 have nq:∃t,mg "DAYS"=some (.int (31) t):=by obtain⟨t,e⟩:=zj;exact⟨t,Y1 X G e⟩
 have yf:∃t,mg "PAGES"=some (.int (24) t):=by obtain⟨t,e⟩:=yL;exact⟨t,Y1 X G e⟩
 have pY:∃t,mg "HAS"=some (.int (0) t):=by obtain⟨t,e⟩:=zI;exact⟨t,Y1 X G e⟩
 have pJ:∃t,mg "LACKS"=some (.int (1) t):=by obtain⟨t,e⟩:=yM;exact⟨t,Y1 X G e⟩
 have Sg:=XB X G zJ;have Si:=XB X G zK;have Q5:=XB X G zk;have Sj:=XB X G zL;have Kj:=XB X G xu;have Sm:=XB X G zM;have Q6:=XB X G zl;have Sn:=XB X G zN;have So:=XB X G zO;have Pn:=XB X G yN;have Q7:=XB X G zm;have Lq:=XB X G xD;have Sq:=XB X G zP;have NT:=XB X G yl;have Po:=XB X G yO;have Sr:=XB X G zQ;obtain⟨f,oc,od,sl,kV,dc,pm,an,cd,ct,a,l,c,k⟩:=dl;have e:=Vy.symm.trans (Y1 X G a);cases e;have F:=Gn (st:=(top 59)) l c k;have GL:Gd K mg "law" (top 59) ["_law_script"] _ _:=⟨Y1 X G a,F,F.binds λ_ _ _ _ _ _=>fg λ_=>rfl⟩;exact⟨_,λs v=>.of_eq rfl,λbase _ _=>Qr (QM ⟨Sg,Si,Q5,Sj,Kj,Sm,Q6,Sn,So,Pn,Q7,Lq,Sq,NT,Po,Sr,nh,q0,nq,yf,pY,pJ,g0,g1,g2,g3,g4,g5,g6,g7,g8,g9,Vz,VA,VB,VD,VE,VF,VG,VH,VI,VJ,VL,VM,VN,VO,VP,VQ,VR,VS,VT,VU,VV,VW,VX,VY,VZ,V0,V1,V2,V3,V4,V5,V6,V7⟩ GL) (NS w)⟩
theorem walk {l:PySem.W.OpenLaw} {q:Xf} {loose:List Str} {XP:(Str->Option Value)->Heap->Prop} {YP:World->Heap->Prop} {d:DefRec} {K:Params->Frag} (hn:l.most=some 63) (sW:d.params.defaults=[])
  (hY:∀(w:World) (h:Heap),YP w h->(K w.params).In h)
  (F:∀(w:World) (mg:Str->Option Value) (fa:Addr) (h:Heap),(K w.params).In h->h.Ns Xi mg->mg d.name=some (.ref fa) ->
   ∃fd:Xg,(∀(s:WI) (u:Value),BindsTo s fd ⟨[u],[]⟩ [("_law_script",u)])/\∀base:Heap,(K w.params).In base->base.Ns Xi mg->aW l.prog w (K w.params) mg base bb 11 fa fd ["_law_script"] (v7 (K w.params))) :
  PySem.W.WalkO q loose XP YP l.row.toRowW d [] (λf vs=>PySem.call f vs) :=
 L2.Oe (n:=63) (k:=11) (x:="_law_script") (CX:=λ_=>bb) (sp:=λw=>v7 (K w.params)) hn (by decide) sW ⟨rfl,by decide,by decide,rfl⟩ hY F (λ_ _ a ns hl _ hS=>⟨a,ns,rfl,hS,hl,λ_=>rfl⟩) λ_ _ _ _ _ z=>z
end DI.cb
open PySem PySem.W PyProof.Rows
theorem PySem.W.Fast.te2300538522509431010:True:=trivial
theorem PySem.W.Fast.te14713440646093958985:True:=trivial
theorem PySem.W.Fast.te114191678441556923:True:=trivial
theorem PySem.W.Fast.te8403559534865787773:True:=trivial
theorem PySem.W.Fast.te15500001179271910561:True:=trivial
theorem PySem.W.Fast.te12927789651259589338:True:=trivial
theorem PySem.W.Fast.te18443843920138798240:True:=trivial
theorem PySem.W.Fast.te2365221114690538032:True:=trivial
theorem PySem.W.Fast.te13305647221136907409:True:=trivial
theorem PySem.W.Fast.te16035126035729957335:True:=trivial
theorem PySem.W.Fast.te6873112817710814858:True:=trivial
theorem PySem.W.Fast.te10022400470247373445:True:=trivial
theorem PySem.W.Fast.te7373807090137494688:True:=trivial
set_option maxRecDepth 100000 in
set_option maxHeartbeats 0 in
theorem PySem.Challenge.cw_twinmoulds_k07_where_a_sheet_may_be_from_holds : PySem.Challenge.rw_twinmoulds_k07_where_a_sheet_may_be_from.Holds := by
 w_on;o_law;k_head;(case hw=>w_witness2)
 k_fill
 refine DI.cb.walk (l:=PySem.Challenge.rw_twinmoulds_k07_where_a_sheet_may_be_from) rfl rfl (λw h Y=>PySem.W.kIn_of Y) ?F
 case F =>
  intro w mg fa h KX G sX;refine' DI.cb.all_mk KX G sX ?d0 ?d1 ?d2 ?d3 ?d4 ?d5 ?d6 ?d7 ?d8 ?d9 ?BD ?BE ?BF ?BG ?BH ?BJ ?BK ?BL ?BM ?BN ?BO ?BP ?BQ ?BR ?BS ?BU ?BV ?BW ?BX ?BY ?BZ ?gL ?B0 ?B7 ?B9 ?Ca ?Cb ?Cc ?Cd ?Ce ?Cf ?Cg ?Ci ?dl ?yK ?yk ?zj ?yL ?zI ?yM ?zJ ?zK ?zk ?zL ?xu ?zM ?zl ?zN ?zO ?yN ?zm ?xD ?zP ?yl ?yO ?zQ
  (case d0|d1|d2|d3|d4|d5|d6|d7|d8|d9|BD|BE|BF|BG|BH|BJ|BK|BL|BM|BN|BO|BP|BQ|BR|BS|BU|BV|BW|BX|BY|BZ|gL|B0|B7|B9|Ca|Cb|Cc|Cd|Ce|Cf|Cg|Ci|dl=>refine' DI.cb.Sf ?a ?l ?c ?k;(case a=>k_is);(case l=>k_is);(case c=>k_is);(case k=>k_is))
  (case yK=>refine' DI.cb.qh ?e;(case e=>k_is))
  (case yk=>refine' DI.cb.qh ?e;(case e=>k_is))
  (case zj=>refine' DI.cb.qh ?e;(case e=>k_is))
  (case yL=>refine' DI.cb.qh ?e;(case e=>k_is))
  (case zI=>refine' DI.cb.qh ?e;(case e=>k_is))
  (case yM=>refine' DI.cb.qh ?e;(case e=>k_is))
  (case zJ|zK|zk|zL|xu|zM|zl|zN|zO|yN|zm|xD|zP|yl|yO|zQ=>k_is)
