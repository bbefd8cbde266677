import PyProof.Rows.All
import Wide.All
import OpenK.AllK
import Wide.FinOn
import Lean
import PyProof.EqAt
import PyProof.EqKinds
import PyProof.TupleCall
import PyProof.NeData
import PyProof.P3In
import PyProof.FactsAll.set
import PyProof.CollectWalk
import PyProof.FactsAll.range
import PyProof.MinMaxWalk
import KE.KMinKey
import PyProof.WalkInts
import PyProof.Rows.CallKwBuiltin
import KE.KSortTup
import PyProof.Rows.Range3
import PyProof.ListRange
import PyProof.DictRoadsH
import KE.KDictList
import PyProof.Rows.SortKeyStr
import PyProof.DictCompW
import PyProof.DictWalks
import PyProof.Rows.CompDC
import PyProof.SumAny
import PyProof.TupleOfGen
import PyProof.CollectIter
import PySem.Challenge.RW_twinmoulds_k05_lives_looked_at
set_option bootstrap.genMatcherCode false
set_option genInjectivity false
set_option genSizeOfSpec false
set_option Elab.async false
set_option linter.all false
set_option maxRecDepth 100000
set_option maxHeartbeats 4000000
local macro_rules | `(tactic| omega) => `(tactic| lia)
open PySem.W (Frag)
open PySem renaming wpAny_bind→YX,wpAny_pure→YZ,Shared→Y4,sizeLine→Zf,starEach→Zp,wpAny_newObj_type→Zt,mainGlobals→Zy,FuncData→ZA,wpAny_callSpecial?_slot→ZC,Program→ZE,wpAny_call_entry→ZI,bootBuiltins→ZL,foldedSetIterable→ZW,Around→ZX,wpAny_field→Z2,compareOp→aag,wpAny_setField_rec→aam,wpAny_holding→aat,wpAny_seqItems→aaC,wpAny_truthy_bool→aaE,rawInt→aaH,sysModules→aaJ,binaryOp→aaO,wpAny_mono→aaQ,wpAny_pyIter_tuple→aaW,Builtin→aaY,wpAny_typeNameOfWhole_keyiter→aa0,wpAny_attempt→aa2,codeAny_mono→aa3,wpAny_setField→aa4,wpAny_rule→aa5,codeAny_builtin→aba,intKind→abd,assignEach→abg,wpAny_askSetting→abi,swapsWithSole→abk,swappedStores→abl,pyNext→abr,letOwnedTupleGo→abt,wpAny_setState_of→abx,holding→abz,wpAny_standAt→abA,sizeLine_eq→abB,mem_of_lookup→abC,wpAny_of_eq→abD,wpAny_setEntries_of→abE,wpAny_isInstance→abI,scanBound→abJ,pickOrder→abK,wpAny_loadPart'→abR,NameKind→abV,fits_of_scanBound→abX,codeAny_call_builtin→ab4,backTo→ab5,cellsFrom→ab7,PyData→ab8,firstArgMember→ab9,IsPair→aca,wpAny_fieldsOf→acb,wpAny_typeOf→acu,wpAny_passesOwn→acw,behindInMarks→acx,codeAny_of_tree→acA,wpAny_pyIter_rangeiter→acH,standAt→acL,wpAny_pyIter_list→acM,sliceBounds→acN,wpAny_storeSet_of→acS,eqIsQuiet_byValue→acU,wpAny_bindName→acV,assign→acZ,builtinLookup_eq_fast→ac3,weight_type_call_type→ac4,assignInOrder→adb,bindName→ade,codeAny→adk,wpAny_specialOf→adp,DictEntry→ady
open PySem.Heap renaming get?_push_of_some→YY,get?_push_size→Y6,lt_size→Y9,size_push→ZP,get?_update_self→aah,SameBut→aaz,get?_update_other→abL,ExtBut→acp,get?_update_ne→adq
open List renaming getElem?_eq_some_iff→Y0,length_map→Y1,getElem?_eq_getElem→Y8,replicate→Za,mem_cons_self→Zb,mem_append_right→Zc,mem_cons_of_mem→Zd,getElem?_set_ne→Ze,size_toArray→Zg,mem_cons→Zh,getElem?_set_self→Zi,getElem?_map→Zj,range→Zk,map_cons→Zl,getElem?_append_left→Zm,mem_append→Zq,mem_singleton→Zs,all_eq_true→Zu,mem_map→Zv,length_append→Zx,length_cons→Zz,mem_filter→ZG,getElem?_append_right→ZK,getElem?_eq_none→ZM,pairwise_cons→ZN,mem_range→ZO,length_set→ZU,length_nil→ZY,getElem?_range→Z0,map_append→Z3,not_mem_nil→Z5,map_map→Z7,set_cons_succ→Z8,set_cons_zero→Z9,cons_append→aaf,mem_append_left→aaj,getElem?_replicate→aaq,zip_cons_cons→aau,length_filter_le→aaw,append_assoc→aax,nil_append→aaB,mem_of_getElem?→aaK,map_nil→aaL,lookup_cons→aaM,filter_cons→aaN,replicate_succ→aaR,length_range→aaS,any_eq_true→aaX,ext_getElem?→aa7,append_nil→aa8,filter_eq_nil_iff→abc,set_append_right→abn,flatten_cons→abu,getD→abw,pairwise_singleton→abF,nodup_cons→abN,length_replicate→abO,nodup_append→abY,any_eq_false→ab0,getD_eq_getElem?_getD→ab3,drop_eq_getElem_cons→acd,length_take→acf,getElem_mem→acg,isEmpty_nil→aci,isEmpty_iff→acj,filterMap_cons→acm,map_congr_left→acn,getElem_of_mem→aco,map_eq_nil_iff→acr,length_eq_zero_iff→acC,range_succ→acF,flatMap_eq_nil_iff→acG,reverse_cons→acP,length_singleton→ac0,toArray→ac2,length_drop→ac7,pairwise_append→ac9,any_cons→adf,length_reverse→adm,nodup_nil→adv
open Bool renaming false_eq_true→Y2,and_eq_true→Y3,false_ne_true→Y7,not_true→Zr,true_and→Zw,not_eq_true'→Z4,not_false→aas,and_self→aay,eq_iff_iff→aaI,or_eq_true→aa9,false_or→abm,and_true→abZ,false_and→ab6,not_eq_true→ach
open Nat renaming lt_of_lt_of_le→Y5,ne_of_lt→Zn,le_trans→Zo,lt_irrefl→ZF,zero_le→aad,lt_succ_of_lt→aae,ne_of_gt→aan,lt_succ_self→aaZ,le_of_not_lt→abH,le_succ→acq,le_max_right→ac8,mul_le_mul_right→ada,add_assoc→adh
open Int renaming toNat_natCast→ZD,emod_lt_of_pos→abM,emod_nonneg→acE,zero_add→ac6
open Array renaming length_toList→ZH,getElem?_toList→aao,getD→acO,toList_push→acR
open PySem.Str renaming ofString→ZJ
open PySem.NameKind renaming free→ZQ
open PySem.W renaming mg_none_of→ZR,nsIn→ZT,mg_of→abo,keepIn→abp,fnOf→aby,cellsFrom_some→acI,findIn→acW,codeIn→acX,methodObj→adx
open PyProof.Rows renaming slot_tuple_getitem→ZS,callWith_type1→aak,firstMet→abb,assignInOrder_cons→abj,IntsAre→acz,seqObj→adt
open PySem.PassesOwn renaming never→ZV
open PySem.Obj renaming data_mapFields→ZZ,isFreed_of_fields→aaF,mapSeq→aa6,cls_mapFields→abW
open PySem.Builtin.SmallTypes renaming nextOf→Z1,ownedTupleIsFree→aab,ownedTupleHandOut→aaD
open PySem.SetTable renaming below→Z6,grown→acY
open PySem.Heap.SameBut renaming update→aaa
open PySem.Builtin.Range renaming rangeFitsLong→aac,rangeSize→aa1,rangeFields→adw
open PySem.Builtin.Slice renaming slicePlaces→aai,sliceAdjust→aaA,sliceApplied→ab1,sliceFields→adu
open PySem.Builtin.Tuple renaming tupleExact→aal,tupleItemsOf→aaP,tupleIsExact→ab2,tupleHashOf→ace
open Or renaming inl→aap
open PySem.PyData renaming eqv→aar,depthAll→abT,weightAll→ack,strOk→ac5
open PySem.F renaming called_set→aav,slot_dict_keyiterator_next→aaG,slot_tuple_iterator_next→abf,isi_meta_tuple→abh,isi_meta_list→abv,slot_enumerate_next→abQ,slot_range_reversed→abS,args_tuple_add_2→acs,entry_tuple_add→acy,slot_tuple_add→acJ,slot_tuple_hash→acT,slot_int_rmul→adl,slot_zip_next→adn
open Function renaming comp_def→aaT
open Option renaming map_some→aaU
open PySem.Value renaming type→aaV,ref→abG,int→adj
open Ne renaming symm→abe
open PySem.Around renaming under_plainId→abq,under_plain→ads
open ForInStep renaming yield→abP
open False renaming elim→abU
open PySem.Builtin.List renaming listTooLong→acv,listExtendWith→ado
open PyProof.Rows.F renaming plain_set_update_loop→acB
open List.cons renaming injEq→acD
open Sum renaming inr→acK
open PySem.SetTable.below renaming go→acQ
open List.Pairwise renaming sublist→ac1
open PySem.Builtin.Frozenset renaming updateFrom→adg
open PySem.Builtin.Dict_items renaming ownsTuple→adi
open PySem.SetTable.probe renaming go→adz
open PySem.Shared renaming TypeIs→adA
namespace L2
open PySem PySem.Spec PyProof.Rows
noncomputable abbrev Key:=Sum Int Str
noncomputable def n9:Key->Value->Bool
 | .inl k,v=>Value.isInt k v
 | .inr x,v=>Value.isStrOf x v
noncomputable def UZ (w:World):Key->Int
 | .inl k=>hashInt k
 | .inr x=>hashStr w x
theorem kj:∀{k:Key} {v:Value},n9 k v=true->(∃i t,k=Sum.inl i/\v=adj i t)\/(∃x t,k=acK x/\v=Value.str x t)
 | .inl i,v,h=>by
  obtain⟨t,e⟩:=Value.isInt_shape (k:=i) (v:=v) h;exact .inl ⟨i,t,rfl,e⟩
 | .inr x,v,h=>by
  obtain⟨t,e⟩:=Value.isStrOf_shape (x:=x) (v:=v) h;exact .inr ⟨x,t,rfl,e⟩
theorem M4 (i:Int) (t:Tok):n9 (.inl i) (.int i t)=true:=by simp[n9,Value.isInt]
theorem M5 (x:Str) (t:Tok):n9 (.inr x) (.str x t)=true:=by simp[n9,Value.isStrOf]
theorem RD (a b:Int):decide ((Sum.inl a:Key)=Sum.inl b)=(a==b):=by
 by_cases e:a=b
 ·subst e;simp
 ·have h:¬ (Sum.inl a:Key)=Sum.inl b:=λq=>e (Sum.inl.inj q)
  rw[decide_eq_false h];exact(beq_eq_false_iff_ne.mpr e).symm
theorem RE (a b:Str):decide ((acK a:Key)=acK b)=decide (a=b):=by
 by_cases e:a=b
 ·subst e;simp
 ·have h:¬ (acK a:Key)=acK b:=λq=>e (Sum.inr.inj q)
  rw[decide_eq_false h,decide_eq_false e]
theorem RF (a:Int) (b:Str):decide ((Sum.inl a:Key)=acK b)=false:=decide_eq_false (λq=>nomatch q)
theorem RG (a:Str) (b:Int):decide ((acK a:Key)=Sum.inl b)=false:=decide_eq_false (λq=>nomatch q)
noncomputable def jd (prog:ZE) (w:World):PySem.KeyKind prog w Key where
 is:=n9
 hash:=UZ w
 inj:=λv a b ha hb=>by
  rcases kj ha with ⟨i,t,rfl,rfl⟩ | ⟨x,t,rfl,rfl⟩
  ·rcases kj hb with ⟨j,u,rfl,e⟩ | ⟨y,u,rfl,e⟩
   ·injection e with e1 _;rw[e1]
   ·exact nomatch e
  ·rcases kj hb with ⟨j,u,rfl,e⟩ | ⟨y,u,rfl,e⟩
   ·exact nomatch e
   ·injection e with e1 _;rw[e1]
 byValue:=λk v h=>by
  rcases kj h with ⟨i,t,rfl,rfl⟩ | ⟨x,t,rfl,rfl⟩<;>rfl
 pyHash:=λhv h=>by
  rcases kj hv with ⟨i,t,rfl,rfl⟩ | ⟨x,t,rfl,rfl⟩
  ·exact wpAny_pyHash_int h
  ·exact wpAny_pyHash_str h
 eqBool:=λhu hv h=>by
  rcases kj hu with ⟨i,t,rfl,rfl⟩ | ⟨x,t,rfl,rfl⟩
  ·rcases kj hv with ⟨j,u,rfl,rfl⟩ | ⟨y,u,rfl,rfl⟩
   ·rw[RD] at h;exact wpAny_eqBool_int h
   ·rw[RF] at h;exact SeqAt.EqAt.int_str i t y u _ _ _ _ h
  ·rcases kj hv with ⟨j,u,rfl,rfl⟩ | ⟨y,u,rfl,rfl⟩
   ·rw[RG] at h;exact SeqAt.EqAt.str_int x t j u _ _ _ _ h
   ·rw[RE] at h;exact wpAny_eqBool_str h
 «strs»:=λk x t v h=>by
  rcases kj h with ⟨i,u,rfl,e⟩ | ⟨y,u,rfl,e⟩
  ·exact nomatch e
  ·injection e with e1 _
   subst e1
   cases v<;>rfl
theorem Lz (prog:ZE) (w:World) (i:Int) (t:Tok):(jd prog w).is (.inl i) (.int i t)=true:=M4 i t
theorem LA (prog:ZE) (w:World) (x:Str) (t:Tok):(jd prog w).is (.inr x) (.str x t)=true:=M5 x t
end L2
namespace L2
open PySem PySem.Spec PyProof.Rows
set_option genInjectivity true in
inductive V where
 |aA|bl (b:Bool)|int (i:Int)|str (x:Str)|iW (b:Array UInt8)|sG (b:UInt64)|ref (a:Addr)|ty (n:String)
 deriving DecidableEq
noncomputable def RelV:V->Value->Prop
 | .aA,u=>u=Value.none
 | .bl b,u=>u=Value.bool b
 | .int i,u=>∃t,u=adj i t
 | .str x,u=>∃t,u=Value.str x t
 | .iW b,u=>∃t,u=Value.bytes b t
 | .sG b,u=>∃t,u=Value.float b t
 | .ref a,u=>u=abG a
 | .ty n,u=>u=aaV n
noncomputable abbrev Vals:List V->List Value->Prop:=Paired RelV
theorem Vals.length {xs:List V} {us:List Value} (r:Vals xs us):xs.length=us.length:=Paired.length r
theorem Vals.get:∀{xs:List V} {us:List Value} {i:Nat} {x:V},Vals xs us->xs[i]?=some x->∃u,us[i]?=some u/\RelV x u
 |_,_,_,_,.nil,e=>by simp at e
 |_,_,0,_,.cons r _,e=>by simp at e;subst e;exact⟨_,rfl,r⟩
 |_,_,i+1,x,.cons _ t,e=>by
  obtain⟨u,h1,h2⟩:=Vals.get (i:=i) (x:=x) t (by simpa using e);exact⟨u,by simpa using h1,h2⟩
theorem Vals.set {x:V} {u:Value} (r:RelV x u):∀{xs:List V} {us:List Value} (i:Nat),Vals xs us->Vals (xs.set i x) (us.set i u)
 |_,_,_,.nil=>.nil
 |_,_,0,.cons _ t=>.cons r t
 |_,_,i+1,.cons q t=>.cons q (Vals.set r i t)
theorem Vals.append:∀{xs ys:List V} {us ws:List Value},Vals xs us->Vals ys ws->Vals (xs++ys) (us++ws)
 |_,_,_,_,.nil,s=>s
 |_,_,_,_,.cons r t,s=>.cons r (Vals.append t s)
theorem Vals.take:∀{xs:List V} {us:List Value} (n:Nat),Vals xs us->Vals (xs.take n) (us.take n)
 |_,_,0,_=>.nil
 |_,_,_ + 1,.nil=>.nil
 |_,_,n+1,.cons r t=>.cons r (Vals.take n t)
theorem Vals.drop:∀{xs:List V} {us:List Value} (n:Nat),Vals xs us->Vals (xs.drop n) (us.drop n)
 |_,_,0,r=>r
 |_,_,_ + 1,.nil=>.nil
 |_,_,n+1,.cons _ t=>Vals.drop n t
noncomputable def IT:Option V->Option Value->Prop
 |some v,some u=>RelV v u
 |none,none=>True
 |_,_=>False
noncomputable def KV {κ:Type}:List (κ×V)->List (κ×Value)->Prop:=Paired λ(p:κ×V) (q:κ×Value)=>p.1=q.1/\RelV p.2 q.2
noncomputable def kV:Key->V
 | .inl i=>.int i
 | .inr x=>.str x
inductive HO where
 |lst (xs:List V)
 |tup (xs:List V)
 |dK (ao:List (Key×V))|dT (ao:List (List Key×V))
 |set (S:Int->Bool) (n:Nat)
 |ins (C dx:Addr) (fs:List (Str×V))
 |own (x:Addr)
 |xd (fs:List (Str×V))
 |met (f x:Addr)
 |cg (lo hi:Int)
 |cE (o:Obj) (u:HO)
 |oK (ps:Array Value)
 |ext (φ:Heap->Prop)
noncomputable abbrev Hp:=Addr->Option HO
noncomputable def upd (H:Hp) (a:Addr) (o:HO):Hp:=λb=>if b=a then some o else H b
theorem cF {H:Hp} {a:Addr} {o:HO}:upd H a o a=some o:=by unfold upd;rw[if_pos rfl]
theorem bq {H:Hp} {a b:Addr} {o:HO} (h:b≠a):upd H a o b=H b:=by unfold upd;rw[if_neg h]
theorem eO {H:Hp} {a b:Addr} {o:HO} (h:H a=some o) (h':H b=none):a≠b:=by
 intro e;subst e;rw[h] at h';cases h'
section
variable (P:ZE) (w:World)
noncomputable def cL (H:Hp) (h:Heap) (a:Addr):HO->Prop
 | .lst xs=>xs.length<=Zf/\∃(its:List Value) (n:Nat),Vals xs its/\h.get? a=some { cls:=.type "list",data:=.seq its.toArray n }
 | .tup xs=>xs.length<=Zf/\∃its:List Value,Vals xs its/\IsTup h a its.toArray
 | .dK ao=>ao.length<=Zf/\(a==aaJ)=false/\∃vs,KV ao vs/\h.DictOf (jd P w) a vs
 | .dT ao=>ao.length<=Zf/\(a==aaJ)=false/\∃xs:List (List Key×Addr×Value),
   Paired (λ(p:List Key×V) (q:List Key×Addr×Value)=>p.1=q.1/\H q.2.1=some (.tup (p.1.map kV))/\RelV p.2 q.2.2) ao xs /\
   ∃o es ep,h.get? a=some o/\o.ExactDict/\o.data=.dict es ep/\es.toList=xs.map (entryOfKey (tupleKind (jd P w)))/\(xs.map (·.1)).Nodup
 | .set S n=>h.SetOf (abd P w) a S n
 | .ins C dx fs=>H dx=some (.own a)/\fs.length<=1000/\dx≠a/\h.get? a=some (PySem.W.instObj C dx) /\
   ∃mA,h.Ns1 dx mA/\(∀f,IT (fs.lookup f) (mA f))/\PySem.Within mA (fs.map (·.1))
 | .own _=>∃o,h.get? a=some o
 | .xd fs=>∃mA,h.Ns1 a mA/\∀f,IT (fs.lookup f) (mA f)
 | .cg lo hi=>∃t u v,h.get? a=some { cls:=.type "range",data:=.fields #[.int lo t,.int hi u,.int 1 v] }
 | .cE o u=>h.get? a=some o/\cL H h a u
 | .oK ps=>h.get? a=some { cls:=.none,data:=.fields ps }
 | .met f x=>h.get? a=some (adx (.ref f) (.ref x))
 | .ext φ=>φ h/\(∃o,h.get? a=some o)/\∀h1 h2:Heap,φ h1->(∀o,h1.get? a=some o->h2.get? a=some o)->φ h2
def cm (H:Hp) (h:Heap):Prop:=∀a o,H a=some o->cL P w H h a o
end
section
variable {P:ZE} {w:World} {H H':Hp} {h h':Heap} {a:Addr} {o:HO}
theorem cL.lt (x:cL P w H h a o):a<h.objs.size:=by
 cases o with
 |lst xs=>obtain⟨_,_,_,_,e⟩:=x;exact Y9 e
 |tup xs=>obtain⟨_,_,_,p⟩:=x;exact p.lt
 |dK ao=>obtain⟨_,_,_,_,o,_,_,e,_⟩:=x;exact Y9 e
 |dT ao=>obtain⟨_,_,_,_,o,_,_,e,_⟩:=x;exact Y9 e
 |set S n=>obtain⟨o,_,_,_,e,_⟩:=x;exact Y9 e
 |ins C dx fs=>obtain⟨_,_,_,e,_⟩:=x;exact Y9 e
 |own y=>obtain⟨_,e⟩:=x;exact Y9 e
 |xd fs=>obtain⟨_,⟨_,_,_,e,_⟩,_⟩:=x;exact Y9 e
 |cg lo hi=>obtain⟨_,_,_,e⟩:=x;exact Y9 e
 |cE ob u=>obtain⟨e,_⟩:=x;exact Y9 e
 |oK ps=>exact Y9 (show h.get? a=some _ from x)
 |met f y=>exact Y9 (show h.get? a=some _ from x)
 |ext φ=>obtain⟨_,⟨_,e⟩,_⟩:=x;exact Y9 e
theorem Paired.IU {α β:Type} {F G:α->β->Prop}:∀{IV:List α} {IW:List β},Paired F IV IW->(∀a b,F a b->G a b)->Paired G IV IW
 |_,_,.nil,_=>.nil
 |_,_,.cons r t,f=>.cons (f _ _ r) (Paired.IU t f)
theorem cL.gG (x:cL P w H h a o) (k:∀b u,(b=a\/H b=some (.own a))->h.get? b=some u->h'.get? b=some u)
  (ho:∀b,H b=some (.own a)->H' b=some (.own a)) (ht:∀b xs,H b=some (.tup xs)->H' b=some (.tup xs)):cL P w H' h' a o:=by
 induction o with
 |lst xs=>obtain⟨z,its,n,r,e⟩:=x;exact⟨z,its,n,r,k _ _ (.inl rfl) e⟩
 |tup xs=>obtain⟨z,its,r,ob,e,c⟩:=x;exact⟨z,its,r,ob,k _ _ (.inl rfl) e,c⟩
 |dK ao=>obtain⟨z,y,vs,r,ob,es,ep,e,c⟩:=x;exact⟨z,y,vs,r,ob,es,ep,k _ _ (.inl rfl) e,c⟩
 |dT ao =>
  obtain⟨z,y,xs,r,ob,es,ep,e,c⟩:=x;exact⟨z,y,xs,Paired.IU r λp q z=>⟨z.1,ht _ _ z.2.1,z.2.2⟩,ob,es,ep,k _ _ (.inl rfl) e,c⟩
 |set S n=>obtain⟨ob,es,ep,t,e,c⟩:=x;exact⟨ob,es,ep,t,k _ _ (.inl rfl) e,c⟩
 |ins C dx fs =>
  obtain⟨d,z,ne,e,mA,⟨od,es,ep,e2,c⟩,r⟩:=x;exact⟨ho _ d,z,ne,k _ _ (.inl rfl) e,mA,⟨od,es,ep,k _ _ (.inr d) e2,c⟩,r⟩
 |own y=>obtain⟨ob,e⟩:=x;exact⟨ob,k _ _ (.inl rfl) e⟩
 |xd fs=>obtain⟨mA,⟨od,es,ep,e,c⟩,r⟩:=x;exact⟨mA,⟨od,es,ep,k _ _ (.inl rfl) e,c⟩,r⟩
 |cg lo hi=>obtain⟨t,u,v,e⟩:=x;exact⟨t,u,v,k _ _ (.inl rfl) e⟩
 |cE ob u ih=>obtain⟨e,q⟩:=x;exact⟨k _ _ (.inl rfl) e,ih q⟩
 |oK ps =>
  have e:h.get? a=some { cls:=.none,data:=.fields ps }:=x;show h'.get? a=some { cls:=.none,data:=.fields ps };exact k a _ (.inl rfl) e
 |met f y =>
  have e:h.get? a=some (adx (.ref f) (.ref y)):=x;show h'.get? a=some (adx (.ref f) (.ref y));exact k a _ (.inl rfl) e
 |ext φ=>obtain⟨p,⟨o,e⟩,st⟩:=x;exact⟨st _ _ p λo q=>k _ _ (.inl rfl) q,⟨o,k _ _ (.inl rfl) e⟩,st⟩
theorem cm.lt (x:cm P w H h) (e:H a=some o):a<h.objs.size:=(x a o e).lt
theorem cm.fresh (x:cm P w H h) (e:h.objs.size<=a):H a=none:=by
 cases q:H a with
 |none=>rfl
 |some u=>exact absurd (Y5 (x.lt q) e) (ZF _)
theorem cm.kept (x:cm P w H h) (k:∀b u,h.get? b=some u->h'.get? b=some u):cm P w H h':=λa o e =>
 (x a o e).gG (λb u _ q=>k b u q) (λ_ q=>q) λ_ _ q=>q
theorem cm.laid (x:cm P w H h) (k:∀b u,h.get? b=some u->h'.get? b=some u) (hp:h.objs.size<=a) (new:cL P w (upd H a o) h' a o):cm P w (upd H a o) h':=λb u e=>by
 have hn:=x.fresh hp;by_cases hb:b=a
 ·subst hb;rw[cF] at e;cases e;exact new
 ·rw[bq hb] at e
  exact(x b u e).gG (λc v _ q=>k c v q) (λc q=>by rw[bq (eO q hn)];exact q) λc xs q=>by rw[bq (eO q hn)];exact q
end
def Rd (H:Hp) (a:Addr) (u:HO):Prop:=H a=some u\/∃o,H a=some (.cE o u)
theorem Rd.ok {P:ZE} {w:World} {H:Hp} {h:Heap} {a:Addr} {u:HO} (r:Rd H a u) (x:cm P w H h):cL P w H h a u:=by
 rcases r with r | ⟨o,r⟩
 ·exact x a u r
 ·obtain⟨_,q⟩:=x a _ r
  exact q
noncomputable def sH:Option HO->Prop
 |some (.lst _)=>True
 |some (.dK _)=>True
 |some (.dT _)=>True
 |some (.set _ _)=>True
 |some (.ins _ _ _)=>True
 |some (.ext _)=>True
 |_=>False
section
variable {P:ZE} {w:World} {H:Hp} {h h':Heap} {x e:Addr} {o':HO}
theorem cm.write (ok:cm P w H h) (mu:sH (H x)) (he:e=x\/H e=some (.own x)) (k:∀b u,b≠e->h.get? b=some u->h'.get? b=some u) (qD:∃u,h'.get? e=some u)
  (new:cL P w (upd H x o') h' x o'):cm P w (upd H x o') h':=λb u q=>by
 have IY:∀c y,H c=some (.own y)->c≠x:=λc y r z=>by subst z;rw[r] at mu;exact mu
 have U0:∀c xs,H c=some (.tup xs)->c≠x:=λc xs r z=>by subst z;rw[r] at mu;exact mu
 by_cases hb:b=x
 ·subst hb;rw[cF] at q;cases q;exact new
 ·rw[bq hb] at q
  by_cases oM:b=e
  ·have q':H b=some (.own x):=by
    rcases he with z|z
    ·exact absurd (oM.trans z) hb
    ·rw[oM];exact z
   rw[q] at q';cases q';obtain⟨v,hv⟩:=qD;exact⟨v,by rw[oM];exact hv⟩
  ·refine(ok b u q).gG (λc v hc r=>k c v ?_ r) (λc r=>by rw[bq (IY c b r)];exact r) λc xs r=>by rw[bq (U0 c xs r)];exact r
   rcases hc with rfl|hc
   ·exact oM
   ·rintro rfl
    rcases he with z|z
    ·exact IY c b hc z
    ·rw[hc] at z;cases z;exact hb rfl
end
structure Un (fs ex:List Addr) (H H':Hp) (h h':Heap):Prop where
 keep:∀b o,h.get? b=some o->H b=none->b∉fs->b∉ex->h'.get? b=some o
 slot:∀b o,h.get? b=some o->H b=none->b∈fs->b∉ex->∃sl,h'.get? b=some { o with slots:=sl }
 free:∀b o,h.get? b=some o->H b=none->b∉ex->H' b=none
 there:∀b o,h.get? b=some o->b∉ex->∃o',h'.get? b=some o'
 jm:∀b xs,H b=some (.tup xs)->H' b=some (.tup xs)
 iP:∀b o u,H b=some (.cE o u)->H' b=some (.cE o u)
 jK:∀b ps,H b=some (.oK ps)->∃more,H' b=some (.oK (ps++more))
section
variable {fs VU ex YC:List Addr} {H H1 H2:Hp} {h h1 h2 h':Heap} {a x e:Addr} {o:HO}
theorem Un.any (u:Un fs ex H H1 h h1) {b:Addr} {ob:Obj} (q:h.get? b=some ob) (n:H b=none) (hx:b∉ex):∃sl,h1.get? b=some { ob with slots:=sl }:=by
 by_cases hb:b∈fs
 ·exact u.slot b ob q n hb hx
 ·exact⟨ob.slots,u.keep b ob q n hb hx⟩
theorem Un.kept (k:∀b u,h.get? b=some u->h'.get? b=some u):Un fs ex H H h h' :=
 ⟨λb ob q _ _ _=>k b ob q,λb ob q _ _ _=>⟨ob.slots,k b ob q⟩,λ_ _ _ n _=>n,λb ob q _=>⟨ob,k b ob q⟩,λ_ _ q=>q,λ_ _ _ q=>q,λ_ ps q=>⟨#[],by rw[q];simp⟩⟩
theorem Un.refl:Un fs ex H H h h:=Un.kept λ_ _ q=>q
theorem Un.laid (k:∀b u,h.get? b=some u->h'.get? b=some u) (hp:h.objs.size<=a) (hn:H a=none):Un fs ex H (upd H a o) h h' where
 keep:=λb u q _ _ _=>k b u q
 slot:=λb u q _ _ _=>⟨u.slots,k b u q⟩
 free:=λb u q n _=>by rw[bq (Zn (Y5 (Y9 q) hp))];exact n
 there:=λb u q _=>⟨u,k b u q⟩
 jm:=λb xs q=>by rw[bq (eO q hn)];exact q
 iP:=λb u xs q=>by rw[bq (eO q hn)];exact q
 jK:=λb ps q=>⟨#[],by rw[bq (eO q hn),q];simp⟩
theorem Un.write (mu:sH (H x)) (he:e=x\/H e=some (.own x)) (k:∀b u,b≠e->h.get? b=some u->h'.get? b=some u) (qD:∃u,h'.get? e=some u):Un fs ex H (upd H x o) h h':=by
 have hx:∀b,H b=none->b≠x:=λb n z=>by subst z;rw[n] at mu;exact mu
 have hb:∀b,H b=none->b≠e:=λb n z=>by
  subst z
  rcases he with r|r
  ·exact hx b n r
  ·rw[n] at r;cases r
 have hm:∀b u,H b=some u->¬ sH (some u)->b≠x:=λb u q nm z=>by subst z;rw[q] at mu;exact nm mu
 refine⟨λb u q n _ _=>k b u (hb b n) q,λb u q n _ _=>⟨u.slots,k b u (hb b n) q⟩,λb u q n _=>by rw[bq (hx b n)];exact n,λb u q _=>?_,
  λb xs q=>by rw[bq (hm b _ q λz=>z)];exact q,λb u xs q=>by rw[bq (hm b _ q λz=>z)];exact q,λb ps q=>⟨#[],by rw[bq (hm b _ q λz=>z),q];simp⟩⟩
 by_cases oM:b=e
 ·subst oM;exact qD
 ·exact⟨u,k b u oM q⟩
end
noncomputable def xg (h:Heap) (H:Hp):List Addr:=(Zk h.objs.size).filter λa=>(H a).isSome
noncomputable def lQ (h:Heap) (H:Hp):Heap:=PySem.W.hideAll h (xg h H)
theorem M6 (h:Heap) (H:Hp):(lQ h H).objs.size=h.objs.size:=PySem.W.hideAll_size _ _
theorem Oh {h:Heap} {H:Hp} {b:Addr} {o:Obj} (e:h.get? b=some o) (n:H b=none):(lQ h H).get? b=some o :=
 PySem.W.hideAll_get _ e λhm=>by
  have q:(H b).isSome=true:=(ZG.mp hm).2;rw[n] at q;simp at q
theorem PY {h:Heap} {H:Hp} {b:Addr} {o:Obj} (e:(lQ h H).get? b=some o):h.get? b=some o/\H b=none:=by
 have e':h.get? b=some o:=PySem.W.of_hideAll (xg h H) e;refine⟨e',?_⟩
 cases q:H b with
 |none=>rfl
 |some x =>
  have hm:b∈xg h H:=ZG.mpr ⟨ZO.mpr (Y9 e'),by simp[q]⟩;have z:(lQ h H).get? b=none:=PySem.W.hideAll_none (xg h H) hm;rw[z] at e;cases e
noncomputable def PZ (g h:Heap) (L:Addr):List (Addr×Obj):=(Zk h.objs.size).filterMap λa=>if a=L\/(g.get? a).isSome=true then none else (h.get? a).map λo=>(a,o)
noncomputable def rest (g h:Heap) (L d:Addr):List (Addr×Obj):=(PZ g h L).filter λp=>decide (p.1≠d)
end L2
namespace L2
open PySem PySem.Spec PyProof.Rows
structure Mod (K:Frag) (mg:Str->Option Value) (base:Heap):Prop where
 xh:K.In base
 glob:base.Ns Zy mg
 blt:∃mb,base.Ns builtinsNs mb/\∀x:Str,x≠"__name__"->mb x=ZL x
 nolimit:base.NoLimit
structure Cx where
 prog:ZE
 w:World
 K:Frag
 mg:Str->Option Value
 base:Heap
 A:ZX
 N:List Str
 dC:Y4
 sj:Hp
 env:Env
 outer:List Env
 stack:List Env
 ex:List Addr
 fn:Str->Bool
 calm:Bool
 pn:List (Addr×Obj)
 xe:Value->Y4->Prop
noncomputable def gM (l:List Env):List Addr:=l.filterMap (·.frame)
noncomputable abbrev Cx.fs (X:Cx):List Addr:=gM X.outer
def sI (sc:Scope) (x:Str):Prop:=sc.names.lookup x=some .local\/sc.names.lookup x=some .cell\/sc.names.lookup x=some .free
def Loc (sc:Scope) (x:Str):Prop:=sc.names.lookup x=some .local\/sc.names.lookup x=some .cell
def Look (env:Env) (h:Heap) (m:Str->Option Value) (x:Str) (u:Value):Prop :=
 (env.kindOf x=some .local/\m x=some u)\/((env.kindOf x=some .cell\/env.kindOf x=some .free)/\∃c,env.cells.lookup x=some c/\h.IsCell c (some u))
structure Cx.Ok (X:Cx):Prop where
 mod:Mod X.K X.mg X.base
 kind:X.env.scope.kind=.function
 glob:X.env.globals=Zy
 blt:X.env.builtins=builtinsNs
 above:X.dC.heap.objs.size<=X.env.locals
 inj:∀x y c,X.env.cells.lookup x=some c->X.env.cells.lookup y=some c->x=y
 has:∀x,(X.env.kindOf x=some .cell\/X.env.kindOf x=some .free)->∃c,X.env.cells.lookup x=some c
 sJ:∀x c,X.fn x=true->X.env.cells.lookup x=some c->X.dC.heap.objs.size<=c
 hd:X.calm=true->X.A.handled=none
 frames:X.A.frames=some X.stack
 xi:X.stack=X.outer\/(X.stack=X.env::X.outer/\X.env.frame=some X.env.locals)
 Jw:∀b∈X.ex,b≠X.env.locals/\∀x c,X.env.cells.lookup x=some c->c≠b
 bs:∀b o,X.base.get? b=some o->X.dC.heap.get? b=some o/\X.sj b=none
 jY:X.base.objs.size<=X.dC.heap.objs.size
 ou:∀b o,X.base.get? b=some o->b∉X.ex
 wF:∀b∈X.ex,b∉X.fs
 jL:X.dC.heap.FunFrames X.base X.outer
 qE:∀b∈X.fs,X.sj b=none
structure Inv (X:Cx) (pins:List (Addr×Obj)) (σ:List (Option V)) (H:Hp) (s:Y4):Prop where
 ok:X.Ok
 os:s.os=X.dC.os
 bare:AllBare s.gens
 base:Un X.fs X.ex X.sj H X.dC.heap s.heap
 loc:∃m,s.heap.Ns X.env.locals m/\∀(i:Nat) (x:Str) (v:V),X.N[i]?=some x->σ[i]?=some (some v)->sI X.env.scope x->∃u,RelV v u/\Look X.env s.heap m x u
 cell:∀x c,X.env.cells.lookup x=some c->∃v,s.heap.IsCell c v
 free:H X.env.locals=none
 fj:∀x c,X.env.cells.lookup x=some c->H c=none
 pin:∀p∈X.pn++pins,s.heap.get? p.1=some p.2/\H p.1=none/\p.1≠X.env.locals/\p.1∉X.fs/\∀v,p.2.data≠.cell v
 aG:cm X.prog X.w H s.heap
 len:σ.length=X.N.length
section
variable {X:Cx} {pins:List (Addr×Obj)} {σ:List (Option V)} {H H':Hp} {s:Y4} {h':Heap}
theorem Cx.Ok.U1 (ok:X.Ok) {b:Addr} {o:Obj} (e:X.base.get? b=some o):b∉X.fs:=λhb=>by
 have:=(ok.jL.mem hb).1;rw[e] at this;cases this
theorem Inv.bs (I:Inv X pins σ H s):∀b o,X.base.get? b=some o->s.heap.get? b=some o/\H b=none:=λb o e =>
 ⟨I.base.keep b o (I.ok.bs b o e).1 (I.ok.bs b o e).2 (I.ok.U1 e) (I.ok.ou b o e),I.base.free b o (I.ok.bs b o e).1 (I.ok.bs b o e).2 (I.ok.ou b o e)⟩
theorem Inv.bk (I:Inv X pins σ H s):∀b o,X.base.get? b=some o->s.heap.get? b=some o:=λb o e=>(I.bs b o e).1
theorem Inv.mod (I:Inv X pins σ H s):Mod X.K X.mg X.base:=I.ok.mod
theorem Inv.qF (I:Inv X pins σ H s):X.K.In s.heap:=I.ok.mod.xh.keeps I.bk
theorem Inv.lt (I:Inv X pins σ H s):X.env.locals<s.heap.objs.size:=let ⟨_,hn,_⟩:=I.loc;hn.lt
theorem Inv.sz (I:Inv X pins σ H s):X.dC.heap.objs.size<=s.heap.objs.size:=Zo I.ok.above (Nat.le_of_lt I.lt)
theorem Inv.sk (I:Inv X pins σ H s) {a:Addr} (h:s.heap.objs.size<=a):a∉X.fs:=λhb=>by
 obtain⟨_,o,ho,_⟩:=I.ok.jL.mem hb;exact absurd (Y5 (Y9 ho) (Zo I.sz h)) (ZF _)
theorem Inv.oO (I:Inv X pins σ H s):∀x c,X.env.cells.lookup x=some c->c≠X.env.locals:=λx c e z=>by
 obtain⟨v,o,ho,hd⟩:=I.cell x c e;obtain⟨m,⟨o',es,ep,cP,gp,_⟩,_⟩:=I.loc;rw[z,cP] at ho;cases ho;rw[gp] at hd;cases hd
theorem Inv.jL (I:Inv X pins σ H s):s.heap.FunFrames X.base X.outer:=by
 have all:∀(l:List Env),(∀b∈gM l,b∈X.fs)->X.dC.heap.FunFrames X.base l->s.heap.FunFrames X.base l:=by
  intro l
  induction l with
  |nil=>intro _ _;trivial
  |cons env r ih =>
   intro hs hl;obtain⟨hk,⟨L,o,hf,hn,ho,hd⟩,hr⟩:=hl;have hL:L∈X.fs:=hs L (by unfold gM;rw[acm,hf];exact Zb);obtain⟨sl,e⟩:=I.base.slot L o ho (I.ok.qE L hL) hL λz=>I.ok.wF L z hL;exact⟨hk,⟨L,_,hf,hn,e,hd⟩,ih (λb hb=>hs b (by unfold gM;rw[acm,hf];exact Zd _ hb)) hr⟩
 exact all X.outer (λ_ hb=>hb) I.ok.jL
theorem Inv.stack (I:Inv X pins σ H s):s.heap.FunFrames X.base X.stack:=by
 rcases I.ok.xi with e | ⟨e,hf⟩
 ·rw[e];exact I.jL
 ·rw[e]
  obtain⟨m,hn,_⟩:=I.loc;refine .cons (by rw[I.ok.kind];decide) hf hn ?_ I.jL;exact Heap.get?_none_of_le (Zo I.ok.jY I.ok.above)
theorem Inv.lp (I:Inv X pins σ H s):∀b∈gM X.stack,b∈X.env.locals::X.fs:=λb hb=>by
 rcases I.ok.xi with e | ⟨e,hf⟩
 ·rw[e] at hb;exact Zd _ hb
 ·rw[e] at hb
  unfold gM at hb;rw[acm,hf] at hb;exact hb
theorem Inv.yV (I:Inv X pins σ H s):∀b∈gM X.stack,H b=none:=λb hb=>by
 rcases Zh.mp (I.lp b hb) with e|hb
 ·rw[e];exact I.free
 ·obtain⟨_,o,ho,_⟩:=I.ok.jL.mem hb
  exact I.base.free b o ho (I.ok.qE b hb) λz=>I.ok.wF b z hb
theorem Inv.step {g':Array GenState} {t':Nat} {d':Drawn} {ch:List Addr} (I:Inv X pins σ H s)
  (kH:∀b∈ch,(b∈X.ex\/X.dC.heap.objs.size<=b)/\b≠X.env.locals/\(∀x c,X.env.cells.lookup x=some c->c≠b)/\∀p∈X.pn++pins,p.1≠b)
  (keep:∀b o,b≠X.env.locals->b∉X.fs->b∉ch->s.heap.get? b=some o->H b=none->h'.get? b=some o)
  (slot:∀b o,b≠X.env.locals->b∈X.fs->b∉ch->s.heap.get? b=some o->H b=none->∃sl,h'.get? b=some { o with slots:=sl }) (free:∀b o,b∉ch->s.heap.get? b=some o->H b=none->H' b=none)
  (there:∀b o,b∉ch->s.heap.get? b=some o->∃o',h'.get? b=some o')
  (jm:∀b xs,H b=some (.tup xs)->H' b=some (.tup xs)) (iP:∀b o u,H b=some (.cE o u)->H' b=some (.cE o u)) (jK:∀b ps,H b=some (.oK ps)->∃more,H' b=some (.oK (ps++more)))
  (ns:∀m,s.heap.Ns X.env.locals m->h'.Ns X.env.locals m) (aG:cm X.prog X.w H' h') (hg:AllBare g') :
  Inv X pins σ H' { s with heap:=h',gens:=g',drawn:=d',toks:=t' }:=by
 have xj:∀b o,X.dC.heap.get? b=some o->b≠X.env.locals:=λb o e=>Zn (Y5 (Y9 e) I.ok.above);have xk:∀b o,X.dC.heap.get? b=some o->b∉X.ex->b∉ch:=λb o e hx hb=>by
  rcases(kH b hb).1 with z|z
  ·exact hx z
  ·exact absurd (Y5 (Y9 e) z) (ZF _)
 have cellK:∀x c,X.env.cells.lookup x=some c->∀v,s.heap.IsCell c v->h'.IsCell c v:=λx c e v ⟨o,ho,hd⟩=>by
  have sL:c∉ch:=λz=>(kH c z).2.2.1 x c e rfl;by_cases hc:c∈X.fs
  ·obtain⟨sl,q⟩:=slot c o (I.oO x c e) hc sL ho (I.fj x c e)
   exact⟨_,q,hd⟩
  ·exact⟨o,keep c o (I.oO x c e) hc sL ho (I.fj x c e),hd⟩
 refine⟨I.ok,I.os,hg,⟨λb o e n hb hx=>?_,λb o e n hb hx=>?_,λb o e n hx=>?_,λb o e hx=>?_,λb xs e=>jm b xs (I.base.jm b xs e),λb o xs e=>iP b o xs (I.base.iP b o xs e),λb ps e=>?_⟩,?_,λx c e=>?_,?_,λx c e=>?_,λp hp=>?_,aG,I.len⟩
 ·exact keep b o (xj b o e) hb (xk b o e hx) (I.base.keep b o e n hb hx) (I.base.free b o e n hx)
 ·obtain⟨sl,e1⟩:=I.base.slot b o e n hb hx
  obtain⟨VW,e2⟩:=slot b _ (xj b o e) hb (xk b o e hx) e1 (I.base.free b o e n hx);exact⟨VW,e2⟩
 ·obtain⟨o',e1⟩:=I.base.there b o e hx
  exact free b o' (xk b o e hx) e1 (I.base.free b o e n hx)
 ·obtain⟨o',e1⟩:=I.base.there b o e hx
  exact there b o' (xk b o e hx) e1
 ·obtain⟨m1,e1⟩:=I.base.jK b ps e
  obtain⟨m2,e2⟩:=jK b _ e1;exact⟨m1++m2,by rw[e2,Array.append_assoc]⟩
 ·obtain⟨m,hn,hl⟩:=I.loc
  refine⟨m,ns m hn,λi x v e1 e2 e3=>?_⟩;obtain⟨u,r,l⟩:=hl i x v e1 e2 e3;refine⟨u,r,?_⟩
  rcases l with l | ⟨k,c,e,z⟩
  ·exact .inl l
  ·exact .inr ⟨k,c,e,cellK x c e _ z⟩
 ·obtain⟨v,z⟩:=I.cell x c e
  exact⟨v,cellK x c e v z⟩
 ·obtain⟨m,⟨o,_,_,ho,_⟩,_⟩:=I.loc
  exact free _ o (λz=>(kH _ z).2.1 rfl) ho I.free
 ·obtain⟨v,o,ho,hd⟩:=I.cell x c e
  exact free c o (λz=>(kH c z).2.2.1 x c e rfl) ho (I.fj x c e)
 ·obtain⟨e,n,ne,nf,d⟩:=I.pin p hp
  have sL:p.1∉ch:=λz=>(kH p.1 z).2.2.2 p hp rfl;exact⟨keep p.1 p.2 ne nf sL e n,free p.1 p.2 sL e n,ne,nf,d⟩
theorem Inv.un {t':Nat} (I:Inv X pins σ H s) (u:Un X.fs [] H H' s.heap h') (aG:cm X.prog X.w H' h'):Inv X pins σ H' { s with heap:=h',toks:=t' }:=by
 obtain⟨m,⟨o,es,ep,ho,r⟩,_⟩:=id I.loc;obtain⟨sl,hL⟩:=u.any ho I.free (by simp)
 exact I.step (g':=s.gens) (d':=s.drawn) (ch:=[]) (λ_ z=>nomatch z) (λb o _ hb _ e n=>u.keep b o e n hb (by simp)) (λb o _ hb _ e n=>u.slot b o e n hb (by simp)) (λb o _ e n=>u.free b o e n (by simp)) (λb o _ e=>u.there b o e (by simp)) u.jm u.iP u.jK (λm' hm=>by
  obtain⟨o',fT,sM,cP,r'⟩:=hm;rw[ho] at cP;cases cP;exact⟨_,fT,sM,hL,r'⟩) aG I.bare
theorem Inv.call {g':Array GenState} {t':Nat} {d':Drawn} {ch:List Addr} (I:Inv X pins σ H s) (u:Un (gM X.stack) ch H H' s.heap h') (aG:cm X.prog X.w H' h') (hg:AllBare g')
  (kH:∀b∈ch,(b∈X.ex\/X.dC.heap.objs.size<=b)/\b≠X.env.locals/\(∀x c,X.env.cells.lookup x=some c->c≠b)/\∀p∈X.pn++pins,p.1≠b) :
  Inv X pins σ H' { s with heap:=h',gens:=g',drawn:=d',toks:=t' }:=by
 obtain⟨m,⟨o,es,ep,ho,r⟩,_⟩:=id I.loc;obtain⟨sl,hL⟩:=u.any ho I.free λz=>(kH _ z).2.1 rfl;exact I.step (ch:=ch) kH (λb o hL hb hc e n=>u.keep b o e n (λz=>(Zh.mp (I.lp b z)).elim hL hb) hc) (λb o _ _ hc e n=>u.any e n hc) (λb o hc e n=>u.free b o e n hc) (λb o hc e=>u.there b o e hc) u.jm u.iP u.jK (λm' hm=>by
  obtain⟨o',fT,sM,cP,r'⟩:=hm;rw[ho] at cP;cases cP;exact⟨_,fT,sM,hL,r'⟩) aG hg
theorem Inv.turned {t':Nat} {it:Addr} (I:Inv X pins σ H s) (k:∀b o,b≠it->s.heap.get? b=some o->h'.get? b=some o) (hn:H it=none) (hL:it≠X.env.locals)
  (h1:it∈X.ex\/X.dC.heap.objs.size<=it) (h2:∀x c,X.env.cells.lookup x=some c->c≠it) (h3:∀p∈X.pn++pins,p.1≠it):Inv X pins σ H { s with heap:=h',toks:=t' }:=by
 have Jx:∀b u,H b=some u->b≠it:=λb u e z=>by rw[z,hn] at e;cases e
 refine I.step (g':=s.gens) (d':=s.drawn) (ch:=[it]) (λb hb=>?_) (λb o _ _ hc e _=>k b o (λz=>hc (by simp[z])) e) (λb o _ _ hc e _=>⟨o.slots,k b o (λz=>hc (by simp[z])) e⟩) (λ_ _ _ _ n=>n)
  (λb o hc e=>⟨o,k b o (λz=>hc (by simp[z])) e⟩) (λ_ _ e=>e) (λ_ _ _ e=>e) (λb ps e=>⟨#[],by rw[e];simp⟩) (λm hm=>?_) (λb u e=>?_) I.bare
 ·have e:b=it:=by simpa using hb
  subst e;exact⟨h1,hL,h2,h3⟩
 ·obtain⟨o,es,ep,ho,r⟩:=hm
  exact⟨o,es,ep,k _ o (abe hL) ho,r⟩
 ·refine(I.aG b u e).gG (λc v hc q=>k c v ?_ q) (λ_ q=>q) λ_ _ q=>q
  rcases hc with z|z
  ·rw[z];exact Jx b u e
  ·exact Jx c _ z
theorem Inv.tok (I:Inv X pins σ H s) (t:Nat):Inv X pins σ H { s with toks:=t }:=I.un (h':=s.heap) (t':=t) Un.refl I.aG
theorem Inv.kept {t':Nat} (I:Inv X pins σ H s) (k:∀b u,s.heap.get? b=some u->h'.get? b=some u):Inv X pins σ H { s with heap:=h',toks:=t' }:=I.un (Un.kept k) (I.aG.kept k)
theorem Inv.laid {a:Addr} {o:HO} {t':Nat} (I:Inv X pins σ H s) (k:∀b u,s.heap.get? b=some u->h'.get? b=some u) (hp:s.heap.objs.size<=a) (new:cL X.prog X.w (upd H a o) h' a o) :
  Inv X pins σ (upd H a o) { s with heap:=h',toks:=t' }:=I.un (Un.laid k hp (I.aG.fresh hp)) (I.aG.laid k hp new)
theorem Inv.write {x e:Addr} {o:HO} {t':Nat} (I:Inv X pins σ H s) (mu:sH (H x)) (he:e=x\/H e=some (.own x)) (k:∀b u,b≠e->s.heap.get? b=some u->h'.get? b=some u) (qD:∃u,h'.get? e=some u)
  (new:cL X.prog X.w (upd H x o) h' x o):Inv X pins σ (upd H x o) { s with heap:=h',toks:=t' }:=I.un (Un.write mu he k qD) (I.aG.write mu he k qD new)
theorem Inv.k9 {Ia:List (Addr×Obj)} (I:Inv X pins σ H s) (h:∀p∈Ia,s.heap.get? p.1=some p.2/\H p.1=none/\p.1≠X.env.locals/\p.1∉X.fs/\∀v,p.2.data≠.cell v):Inv X Ia σ H s :=
 ⟨I.ok,I.os,I.bare,I.base,I.loc,I.cell,I.free,I.fj,λp hp=>(Zq.mp hp).elim (λz=>I.pin p (aaj _ z)) (h p),I.aG,I.len⟩
theorem Fg {N:List Str} (hN:N.Nodup) {i j:Nat} {x:Str} (a:N[i]?=some x) (b:N[j]?=some x):i=j:=by
 obtain⟨h1,e1⟩:=Y0.mp a;obtain⟨h2,e2⟩:=Y0.mp b;exact(List.getElem_inj hN).mp (e1.trans e2.symm)
theorem M7 {M:Model} {A:ZX} {E:Value->Y4->Prop} {i:Nat} {x:Str} {v:V} {u:Value} {Q:Unit->Y4->Prop} (I:Inv X pins σ H s) (hN:X.N.Nodup) (hi:X.N[i]?=some x) (hx:Loc X.env.scope x) (r:RelV v u)
  (h:∀s',Inv X pins (σ.set i (some v)) H s'->(∃a,aaz a s.heap s'.heap/\(a=X.env.locals\/X.env.cells.lookup x=some a))->Q () s') (hf:X.fn x=true\/X.env.scope.names.lookup x=some .local:=by first|exact .inl rfl|exact .inr rfl|assumption):wpAny M A (storeName X.env x u) Q E s:=by
 obtain⟨m,hn,hl⟩:=id I.loc;have U2:(X.env.scope.kind==.class||(X.env.scope.kind==.module&&X.env.locals != X.env.globals))=false:=by rw[I.ok.kind];rfl
 have IZ:i < σ.length:=by rw[I.len];exact(Y0.mp hi).1
 have oO:=I.oO;have tracked:∀{a:Addr} {h':Heap},(∃o,s.heap.get? a=some o/\H a=none)->aaz a s.heap h'->cm X.prog X.w H h':=λ{a h'} ha hs b ob e=>by
  obtain⟨_,_,Ib⟩:=ha;refine(I.aG b ob e).gG (λc w' hc q=>(hs.2 c ?_).trans q) (λ_ q=>q) λ_ _ q=>q;rintro rfl
  rcases hc with rfl|hc
  ·rw[Ib] at e;cases e
  ·rw[Ib] at hc;cases hc
 rcases hx with hk|hk
 ·refine wpAny_storeName_local hk hn (λh' Bo hs=>?_) U2
  obtain⟨oL,_,_,sO,_⟩:=id hn;refine h _ ⟨I.ok,I.os,I.bare,⟨λb o e n hb hx=>?_,λb o e n hb hx=>?_,I.base.free,λb o e hx=>?_,I.base.jm,I.base.iP,I.base.jK⟩,⟨_,Bo,λj y v' e1 e2 e3=>?_⟩,λy c e=>?_,I.free,I.fj,λp hp=>?_,tracked ⟨oL,sO,I.free⟩ hs,by simpa using I.len⟩ ⟨_,hs,.inl rfl⟩
  ·exact(hs.2 b (Zn (Y5 (Y9 e) I.ok.above))).trans (I.base.keep b o e n hb hx)
  ·obtain⟨sl,e1⟩:=I.base.slot b o e n hb hx
   exact⟨sl,(hs.2 b (Zn (Y5 (Y9 e) I.ok.above))).trans e1⟩
  ·obtain⟨o',e1⟩:=I.base.there b o e hx
   exact⟨o',(hs.2 b (Zn (Y5 (Y9 e) I.ok.above))).trans e1⟩
  ·by_cases hj:j=i
   ·subst hj
    rw[hi] at e1;cases e1;rw[Zi IZ] at e2;cases e2;exact⟨u,r,.inl ⟨hk,by simp⟩⟩
   ·rw[Ze (abe hj)] at e2
    obtain⟨u',r',q⟩:=hl j y v' e1 e2 e3;refine⟨u',r',?_⟩
    rcases q with ⟨k,e⟩ | ⟨k,c,e,z⟩
    ·refine .inl ⟨k,?_⟩
     have:y≠x:=λe=>hj (Fg hN e1 (e ▸ hi));simp[this,e]
    ·exact .inr ⟨k,c,e,z.sameBut hs (oO y c e)⟩
  ·obtain⟨w',z⟩:=I.cell y c e
   exact⟨w',z.sameBut hs (oO y c e)⟩
  ·obtain⟨e,n,ne,nf,d⟩:=I.pin p hp
   exact⟨(hs.2 p.1 ne).trans e,n,ne,nf,d⟩
 ·have Bp:X.fn x=true:=by
   rcases hf with z|z
   ·exact z
   ·rw[z] at hk;cases hk
  obtain⟨c,hc⟩:=I.ok.has x (.inl hk);obtain⟨w',z⟩:=I.cell x c hc;refine wpAny_storeName_cell I.ok.kind hk hc z (λh' iD hs=>?_);obtain⟨oc,Jy,U3⟩:=id z
  refine h { s with heap:=h' } ⟨I.ok,I.os,I.bare,⟨λb o e n hb hx=>?_,λb o e n hb hx=>?_,I.base.free,λb o e hx=>?_,I.base.jm,I.base.iP,I.base.jK⟩,⟨m,hn.sameBut hs (abe (oO x c hc)),λj y v' e1 e2 e3=>?_⟩,λy c' e=>?_,I.free,I.fj,λp hp=>?_,tracked ⟨oc,Jy,I.fj x c hc⟩ hs,by simpa using I.len⟩ ⟨c,hs,.inr hc⟩
  ·exact(hs.2 b (Zn (Y5 (Y9 e) (I.ok.sJ x c Bp hc)))).trans (I.base.keep b o e n hb hx)
  ·obtain⟨sl,e1⟩:=I.base.slot b o e n hb hx
   exact⟨sl,(hs.2 b (Zn (Y5 (Y9 e) (I.ok.sJ x c Bp hc)))).trans e1⟩
  ·obtain⟨o',e1⟩:=I.base.there b o e hx
   exact⟨o',(hs.2 b (Zn (Y5 (Y9 e) (I.ok.sJ x c Bp hc)))).trans e1⟩
  ·by_cases hj:j=i
   ·subst hj
    rw[hi] at e1;cases e1;rw[Zi IZ] at e2;cases e2;exact⟨u,r,.inr ⟨.inl hk,c,hc,iD⟩⟩
   ·rw[Ze (abe hj)] at e2
    obtain⟨u',r',q⟩:=hl j y v' e1 e2 e3;refine⟨u',r',?_⟩
    rcases q with q | ⟨k,c',e,z'⟩
    ·exact .inl q
    ·refine .inr ⟨k,c',e,z'.sameBut hs ?_⟩
     rintro rfl;exact hj (Fg hN e1 (I.ok.inj _ _ _ e hc ▸ hi))
  ·by_cases Jz:c'=c
   ·subst Jz;exact⟨_,iD⟩
   ·obtain⟨w2,z2⟩:=I.cell y c' e
    exact⟨w2,z2.sameBut hs Jz⟩
  ·obtain⟨e,n,ne,nf,d⟩:=I.pin p hp
   refine⟨(hs.2 p.1 ?_).trans e,n,ne,nf,d⟩;intro q;rw[q,Jy] at e;have q':oc=p.2:=Option.some.inj e;exact d w' (by rw[<- q'];exact U3)
theorem mm {M:Model} {A:ZX} {E:Value->Y4->Prop} {i:Nat} {x:Str} {v:V} {u:Value} {Q:Unit->Y4->Prop} (I:Inv X pins σ H s) (hN:X.N.Nodup) (hi:X.N[i]?=some x) (hx:Loc X.env.scope x) (r:RelV v u)
  (h:∀s',Inv X pins (σ.set i (some v)) H s'->Q () s') (hf:X.fn x=true\/X.env.scope.names.lookup x=some .local:=by first|exact .inl rfl|exact .inr rfl|assumption):wpAny M A (storeName X.env x u) Q E s :=
 M7 I hN hi hx r (λs' I' _=>h s' I') hf
theorem Inv.Ae {s':Y4} {ch:List Addr} (I:Inv X pins σ H s) (ho:s'.os=s.os) (u:Un (gM X.stack) ch H H' s.heap s'.heap) (aG:cm X.prog X.w H' s'.heap) (hg:AllBare s'.gens)
  (kH:∀b∈ch,(b∈X.ex\/X.dC.heap.objs.size<=b)/\b≠X.env.locals/\(∀x c,X.env.cells.lookup x=some c->c≠b)/\∀p∈X.pn++pins,p.1≠b):Inv X pins σ H' s':=by
 obtain⟨h',g',d',t',o'⟩:=s';have e:o'=s.os:=ho;subst e;exact I.call (g':=g') (t':=t') (d':=d') u aG hg kH
end
noncomputable abbrev XK:=Value->Option Addr->Hp->Prop
noncomputable abbrev St:=List (Option V)
noncomputable abbrev VK:=V->Hp->Prop
noncomputable abbrev TE:=St->Hp->VK->Prop
noncomputable abbrev TT:=St->Hp->(Bool->Hp->Prop)->Prop
noncomputable abbrev TA:=St->Hp->(List V->Hp->Prop)->Prop
structure Ends where
 nx:St->Hp->Prop
 rt:VK
 bk:St->Hp->Prop:=λ_ _=>False
 ct:St->Hp->Prop:=λ_ _=>False
noncomputable abbrev TS:=Ends->St->Hp->Prop
def EP (X:Cx) (pins:List (Addr×Obj)) (σ:St) (Q:VK) (u:Value) (s':Y4):Prop:=∃v H',Inv X pins σ H' s'/\RelV v u/\Q v H'
def TP (X:Cx) (pins:List (Addr×Obj)) (σ:St) (Q:Bool->Hp->Prop) (b:Bool) (s':Y4):Prop:=∃H',Inv X pins σ H' s'/\Q b H'
def AP (X:Cx) (pins:List (Addr×Obj)) (σ:St) (Q:List V->Hp->Prop) (us:List Value) (s':Y4):Prop:=∃vs H',Inv X pins σ H' s'/\Vals vs us/\Q vs H'
def SP (X:Cx) (pins:List (Addr×Obj)) (D:Ends) (f:Flow) (s':Y4):Prop :=
 match f with
 | .next=>∃ bb H',Inv X pins bb H' s'/\D.nx bb H'
 | .brk=>∃ bb H',Inv X pins bb H' s'/\D.bk bb H'
 | .cont=>∃ bb H',Inv X pins bb H' s'/\D.ct bb H'
 | .ret u=>∃v bb H',Inv X pins bb H' s'/\RelV v u/\D.rt v H'
def PE (X:Cx) (e:Expr) (t:TE):Prop :=
 ∀(pins:List (Addr×Obj)) (s:Y4) (σ:St) (H:Hp) (Q:VK),Inv X pins σ H s->t σ H Q->wpAny (model X.prog X.w) X.A (eval e X.env) (EP X pins σ Q) X.xe s
def PT (X:Cx) (e:Expr) (t:TT):Prop :=
 ∀(pins:List (Addr×Obj)) (s:Y4) (σ:St) (H:Hp) (Q:Bool->Hp->Prop),Inv X pins σ H s->t σ H Q->wpAny (model X.prog X.w) X.A (isTrue e X.env (eval e X.env)) (TP X pins σ Q) X.xe s
def PW (X:Cx) (e:Expr) (t:TT):Prop :=
 ∀(whole:Sem Value) (pins:List (Addr×Obj)) (s:Y4) (σ:St) (H:Hp) (Q:Bool->Hp->Prop),Inv X pins σ H s->t σ H Q->wpAny (model X.prog X.w) X.A (isTrue e X.env whole) (TP X pins σ Q) X.xe s
theorem PW.pt {X:Cx} {e:Expr} {t:TT} (h:PW X e t):PT X e t:=h _
def PA (X:Cx) (es:List Expr) (t:TA):Prop :=
 ∀(pos:Pos) (pins:List (Addr×Obj)) (s:Y4) (σ:St) (H:Hp) (Q:List V->Hp->Prop),Inv X pins σ H s->t σ H Q->wpAny (model X.prog X.w) X.A (spliced (ab5 pos (Zp es X.env))) (AP X pins σ Q) X.xe s
def PS (X:Cx) (st:Stmt) (t:TS):Prop :=
 ∀(pins:List (Addr×Obj)) (s:Y4) (σ:St) (H:Hp) (D:Ends),Inv X pins σ H s->t D σ H->wpAny (model X.prog X.w) X.A (exec st X.env) (SP X pins D) X.xe s
def eD (X:Cx) (st:List Stmt) (t:TS):Prop :=
 ∀(pins:List (Addr×Obj)) (s:Y4) (σ:St) (H:Hp) (D:Ends),Inv X pins σ H s->t D σ H->wpAny (model X.prog X.w) X.A (execs st X.env) (SP X pins D) X.xe s
theorem aF {α:Type} {t:Sem α} {Q Q':α->Y4->Prop} {M:Model} {A:ZX} {E:Value->Y4->Prop} {s:Y4} (h:wpAny M A t Q E s) (hQ:∀a s,Q a s->Q' a s):wpAny M A t Q' E s:=aaQ h hQ λ_ _ x=>x
end L2
namespace L2
open PySem PySem.Spec PyProof.Rows
section
variable {X:Cx}
noncomputable def U4 (i:Nat):TE:=fun σ H Q=>∃v,σ[i]?=some (some v)/\Q v H
noncomputable def tC (v:V):TE:=λ_ H Q=>Q v H
theorem RH {i:Nat} {x:Str} {pos:Pos} (hN:X.N[i]?=some x) (hv:sI X.env.scope x) (hd:(x==("__debug__":Str))=false:=by decide) (jZ:(x==("__classdict__":Str))=false:=by decide):PE X (.Name x pos) (U4 i):=by
 intro pins s σ H Q I h;obtain⟨v,e,h⟩:=h;obtain⟨m,hn,hl⟩:=I.loc;obtain⟨u,r,l⟩:=hl i x v hN e hv;have fin:EP X pins σ Q u s:=⟨v,H,I,r,h⟩
 rcases l with ⟨hk,hm⟩ | ⟨hk,c,hc,mF⟩
 ·exact wpAny_Name (wpAny_loadName_local I.ok.kind hk hn hm fin) hd
 ·rcases hk with hk|hk
  ·exact wpAny_Name (wpAny_loadName_cell I.ok.kind hk hc mF fin) hd
  ·exact wpAny_Name (wpAny_loadName_free I.ok.kind hk hc mF fin jZ) hd
theorem zA {i j pos}:PE X (.Constant (.int i) j pos) (tC (.int i)):=λ_ _ _ H _ I h=>wpAny_Constant_int ⟨.int i,H,I.tok _,⟨_,rfl⟩,h⟩
theorem Tv {b j pos}:PE X (.Constant (.bool b) j pos) (tC (.bl b)):=λ_ _ _ H _ I h=>Constant_bool ⟨.bl b,H,I,rfl,h⟩
theorem RJ {j pos}:PE X (.Constant .none j pos) (tC .aA):=λ_ _ _ H _ I h=>Constant_none ⟨.aA,H,I,rfl,h⟩
theorem G3 {x j pos}:PE X (.Constant (.str x) j pos) (tC (.str x)):=λ_ _ _ H _ I h=>Calls.Constant_str ⟨.str x,H,I.tok _,⟨_,rfl⟩,h⟩
def Gl (X:Cx) (x:Str):Prop:=X.env.kindOf x=some .globalImplicit
theorem F5 {E:Value->Y4->Prop} {pins:List (Addr×Obj)} {s:Y4} {σ:St} {H:Hp} {x:Str} {u:Value} {pos:Pos} {Q:Value->Y4->Prop} (I:Inv X pins σ H s) (hg:Gl X x) (hm:X.mg x=some u) (h:Q u s)
  (hd:(x==("__debug__":Str))=false:=by decide):wpAny (model X.prog X.w) X.A (eval (.Name x pos) X.env) Q E s :=
 Calls.Name_function_global I.ok.kind hg (Calls.loadGlobal_global (by rw[I.ok.glob];exact I.mod.glob.keeps I.bk) hm h) hd
theorem lq {E:Value->Y4->Prop} {pins:List (Addr×Obj)} {s:Y4} {σ:St} {H:Hp} {x:Str} {u:Value} {pos:Pos} {Q:Value->Y4->Prop} (I:Inv X pins σ H s) (hg:Gl X x) (hm:X.mg x=none) (hv:ZL x=some u) (h:Q u s)
  (hn:x≠"__name__":=by decide) (hd:(x==("__debug__":Str))=false:=by decide):wpAny (model X.prog X.w) X.A (eval (.Name x pos) X.env) Q E s:=by
 obtain⟨mb,h1,h2⟩:=I.mod.blt;exact Calls.Name_function_global I.ok.kind hg (Calls.loadGlobal_builtin (by rw[I.ok.glob];exact I.mod.glob.keeps I.bk) hm (by rw[I.ok.blt];exact h1.keeps I.bk) ((h2 x hn).trans hv) h) hd
theorem P0 {x:Str} {v:V} {u:Value} {pos:Pos} (hg:Gl X x) (hm:X.mg x=some u) (r:RelV v u) (hd:(x==("__debug__":Str))=false:=by decide):PE X (.Name x pos) (tC v) :=
 λ_ _ _ H _ I h=>F5 I hg hm ⟨v,H,I,r,h⟩ hd
theorem yW {x:Str} {v:V} {u:Value} {pos:Pos} (hg:Gl X x) (hm:X.mg x=none) (hv:ZL x=some u) (r:RelV v u) (hn:x≠"__name__":=by decide) (hd:(x==("__debug__":Str))=false:=by decide):PE X (.Name x pos) (tC v) :=
 λ_ _ _ H _ I h=>lq I hg hm hv ⟨v,H,I,r,h⟩ hn hd
variable {a b:Expr} {ta tb:TE} {pos:Pos}
variable {tA xl:TT} {rest:List Expr}
noncomputable def cv (t u:TT):TT:=fun σ H Q=>t σ H λc H1=>if c=true then u σ H1 Q else Q false H1
noncomputable def gu (t u:TT):TT:=fun σ H Q=>t σ H λc H1=>if c=true then Q true H1 else u σ H1 Q
noncomputable def fF (t:TT):TT:=fun σ H Q=>t σ H λc H1=>Q (!c) H1
theorem P1 (ha:PT X a tA):PW X (.BoolOp .And [a] pos) tA:=by
 intro wh pins s σ H Q I h;refine isTrue_and (aF (ha pins s σ H Q I h) λc s1 e=>?_)
 cases c with
 |true=>exact isTrue_and_nil e
 |false=>exact e
theorem RK (ha:PT X a tA):PW X (.BoolOp .Or [a] pos) tA:=by
 intro wh pins s σ H Q I h;refine isTrue_or (aF (ha pins s σ H Q I h) λc s1 e=>?_)
 cases c with
 |false=>exact isTrue_or_nil e
 |true=>exact e
theorem RL (ha:PT X a tA) (hb:PW X (.BoolOp .And (b::rest) pos) xl):PW X (.BoolOp .And (a::b::rest) pos) (cv tA xl):=by
 intro wh pins s σ H Q I h;refine isTrue_and (aF (ha pins s σ H _ I h) λc s1 ⟨H1,I1,q1⟩=>?_)
 cases c with
 |true=>exact hb wh pins s1 σ H1 Q I1 q1
 |false=>exact⟨H1,I1,q1⟩
theorem Tw (ha:PT X a tA) (hb:PW X (.BoolOp .Or (b::rest) pos) xl):PW X (.BoolOp .Or (a::b::rest) pos) (gu tA xl):=by
 intro wh pins s σ H Q I h;refine isTrue_or (aF (ha pins s σ H _ I h) λc s1 ⟨H1,I1,q1⟩=>?_)
 cases c with
 |true=>exact⟨H1,I1,q1⟩
 |false=>exact hb wh pins s1 σ H1 Q I1 q1
theorem RM (ha:PT X a tA):PT X (.UnaryOp .Not a pos) (fF tA):=by
 intro pins s σ H Q I h;exact isTrue_not (ha pins s σ H (λc H1=>Q (!c) H1) I h)
noncomputable def Tz (ta tb:TE):TE:=fun σ H Q=>ta σ H λx H1=>∃c,x=.bl c/\if c=true then tb σ H1 Q else Q (.bl false) H1
noncomputable def U5 (ta tb:TE):TE:=fun σ H Q=>ta σ H λx H1=>∃c,x=.bl c/\if c=true then Q (.bl true) H1 else tb σ H1 Q
noncomputable def TC (ta:TE):TE:=fun σ H Q=>ta σ H λx H1=>∃c,x=.bl c/\Q (.bl (!c)) H1
theorem RN {op} {t:TE} (h:PE X a t):PE X (.BoolOp op [a] pos) t:=λpins s σ H Q I hw=>BoolOp_one (h pins s σ H Q I hw)
theorem RO (ha:PE X a ta) (hb:PE X (.BoolOp .And (b::rest) pos) tb):PE X (.BoolOp .And (a::b::rest) pos) (Tz ta tb):=by
 intro pins s σ H Q I h;refine BoolOp_and (aF (ha pins s σ H _ I h) λv s1 ⟨x,H1,I1,r1,q1⟩=>?_);obtain⟨c,rfl,q1⟩:=q1;cases r1;refine aaE ?_
 cases c with
 |true=>exact hb pins s1 σ H1 Q I1 q1
 |false=>exact⟨.bl false,H1,I1,rfl,q1⟩
theorem TF (ha:PE X a ta) (hb:PE X (.BoolOp .Or (b::rest) pos) tb):PE X (.BoolOp .Or (a::b::rest) pos) (U5 ta tb):=by
 intro pins s σ H Q I h;refine BoolOp_or (aF (ha pins s σ H _ I h) λv s1 ⟨x,H1,I1,r1,q1⟩=>?_);obtain⟨c,rfl,q1⟩:=q1;cases r1;refine aaE ?_
 cases c with
 |false=>exact hb pins s1 σ H1 Q I1 q1
 |true=>exact⟨.bl true,H1,I1,rfl,q1⟩
theorem RP (ha:PE X a ta):PE X (.UnaryOp .Not a pos) (TC ta):=by
 intro pins s σ H Q I h;refine UnaryOp_ (aF (ha pins s σ H _ I h) λv s1 ⟨x,H1,I1,r1,q1⟩=>?_);obtain⟨c,rfl,q1⟩:=q1;cases r1;exact not_of (aaE ⟨.bl (!c),H1,I1,rfl,q1⟩)
noncomputable def VX (t:TT) (ta tb:TE):TE:=fun σ H Q=>t σ H λc H1=>if c=true then ta σ H1 Q else tb σ H1 Q
theorem Oi {c:Expr} (hc:PT X c tA) (ha:PE X a ta) (hb:PE X b tb):PE X (.IfExp c a b pos) (VX tA ta tb):=by
 intro pins s σ H Q I h;refine wpAny_IfExp (aF (hc pins s σ H _ I h) λd s1 ⟨H1,I1,q1⟩=>?_)
 cases d with
 |true=>exact ha pins s1 σ H1 Q I1 q1
 |false=>exact hb pins s1 σ H1 Q I1 q1
end
end L2
namespace L2
open PySem PySem.Spec PyProof.Rows
def bQ (K:Frag) (H:Hp) (a:Addr) (xs:List V):Prop :=
 Rd H a (.lst xs) \/
  ∃(o:Obj) (its:Array Value) (n:Nat),K.lookup a=some o/\o.cls=.type "list"/\o.dict=none/\o.data=.seq its n/\its.size<=Zf/\Vals xs its.toList
def aS (K:Frag) (H:Hp) (a:Addr) (xs:List V):Prop :=
 Rd H a (.tup xs) \/
  ∃(o:Obj) (its:Array Value) (n:Nat),K.lookup a=some o/\o.cls=.type "tuple"/\o.data=.seq its n/\its.size<=Zf/\Vals xs its.toList
noncomputable def U6:Value->Option V
 | .none=>some .aA
 | .bool b=>some (.bl b)
 | .int i _=>some (.int i)
 | .str x _=>some (.str x)
 | .bytes b _=>some (.iW b)
 | .float b _=>some (.sG b)
 | .ref a=>some (.ref a)
 | .type n=>some (.ty n)
 |_=>none
theorem RelV.abs {x:V} {u:Value} (r:RelV x u):U6 u=some x:=by
 cases x with
 |aA=>cases r;rfl
 |bl _=>cases r;rfl
 |int _=>obtain⟨t,rfl⟩:=r;rfl
 |str _=>obtain⟨t,rfl⟩:=r;rfl
 |iW _=>obtain⟨t,rfl⟩:=r;rfl
 |sG _=>obtain⟨t,rfl⟩:=r;rfl
 |ref _=>cases r;rfl
 |ty _=>cases r;rfl
theorem RelV.inj {x y:V} {u:Value} (r:RelV x u) (q:RelV y u):x=y:=Option.some.inj (r.abs.symm.trans q.abs)
theorem Vals.inj:∀{xs ys:List V} {us:List Value},Vals xs us->Vals ys us->xs=ys
 |_,_,_,.nil,.nil=>rfl
 |_,_,_,.cons r t,.cons r' t'=>by rw[r.inj r',Vals.inj t t']
section
variable {X:Cx} {pins:List (Addr×Obj)} {σ:St} {H:Hp} {s:Y4} {a:Addr} {xs ys:List V}
theorem bQ.of {K:Frag} (h:H a=some (.lst xs)):bQ K H a xs:=.inl (.inl h)
theorem aS.of {K:Frag} (h:H a=some (.tup xs)):aS K H a xs:=.inl (.inl h)
theorem Inv.list (I:Inv X pins σ H s) (h:bQ X.K H a xs):∃its:List Value,Vals xs its/\PlainL s.heap a its.toArray/\xs.length<=Zf:=by
 rcases h with h | ⟨o,its,n,hk,hc,hd,hs,hz,r⟩
 ·obtain⟨z,its,n,r,e⟩:=h.ok I.aG
  exact⟨its,r,⟨_,n,e,rfl,rfl,rfl⟩,z⟩
 ·refine⟨its.toList,r,⟨o,n,I.qF a o hk,hc,hd,by simpa using hs⟩,?_⟩
  have e:=r.length;simp only[ZH] at e;omega
theorem Inv.tuple (I:Inv X pins σ H s) (h:aS X.K H a xs):∃its:List Value,Vals xs its/\IsTup s.heap a its.toArray/\xs.length<=Zf:=by
 rcases h with h | ⟨o,its,n,hk,hc,hs,hz,r⟩
 ·obtain⟨z,its,r,p⟩:=h.ok I.aG
  exact⟨its,r,p,z⟩
 ·refine⟨its.toList,r,⟨o,I.qF a o hk,hc,n,by simpa using hs⟩,?_⟩
  have e:=r.length;simp only[ZH] at e;omega
theorem Inv.Oj (I:Inv X pins σ H s) (h:bQ X.K H a xs) (h':bQ X.K H a ys):xs=ys:=by
 obtain⟨its,r,⟨o,n,e,_,_,d⟩,_⟩:=I.list h;obtain⟨its',r',⟨o',n',e',_,_,d'⟩,_⟩:=I.list h';rw[e] at e';cases e';rw[d] at d'
 injection d' with d1 _
 have:its=its':=by simpa using congrArg Array.toList d1
 subst this;exact r.inj r'
theorem Inv.uZ (I:Inv X pins σ H s) (h:aS X.K H a xs) (h':aS X.K H a ys):xs=ys:=by
 obtain⟨its,r,⟨o,e,_,n,d⟩,_⟩:=I.tuple h;obtain⟨its',r',⟨o',e',_,n',d'⟩,_⟩:=I.tuple h';rw[e] at e';cases e';rw[d] at d'
 injection d' with d1 _
 have:its=its':=by simpa using congrArg Array.toList d1
 subst this;exact r.inj r'
end
noncomputable abbrev Cx.kF (X:Cx) (E:Value->Y4->Prop):Cx:={ X with xe:=E }
noncomputable abbrev Cx.sP (X:Cx):Cx:=X.kF λ_ _=>False
theorem Cx.Ok.kF {X:Cx} (ok:X.Ok) (E:Value->Y4->Prop):(X.kF E).Ok :=
 ⟨ok.mod,ok.kind,ok.glob,ok.blt,ok.above,ok.inj,ok.has,ok.sJ,ok.hd,ok.frames,ok.xi,ok.Jw,ok.bs,ok.jY,ok.ou,ok.wF,ok.jL,ok.qE⟩
theorem Cx.Ok.mv {X:Cx} {E:Value->Y4->Prop} (ok:(X.kF E).Ok):X.Ok :=
 ⟨ok.mod,ok.kind,ok.glob,ok.blt,ok.above,ok.inj,ok.has,ok.sJ,ok.hd,ok.frames,ok.xi,ok.Jw,ok.bs,ok.jY,ok.ou,ok.wF,ok.jL,ok.qE⟩
section
variable {X:Cx} {pins:List (Addr×Obj)} {σ:St} {H:Hp} {s:Y4} {E:Value->Y4->Prop}
theorem Inv.kF (I:Inv X pins σ H s) (E:Value->Y4->Prop):Inv (X.kF E) pins σ H s:=⟨I.ok.kF E,I.os,I.bare,I.base,I.loc,I.cell,I.free,I.fj,I.pin,I.aG,I.len⟩
theorem Inv.mv (I:Inv (X.kF E) pins σ H s):Inv X pins σ H s:=⟨I.ok.mv,I.os,I.bare,I.base,I.loc,I.cell,I.free,I.fj,I.pin,I.aG,I.len⟩
theorem SP.mv {D:Ends} {f:Flow} {s':Y4} (h:SP (X.kF E) pins D f s'):SP X pins D f s':=by
 cases f with
 |next=>obtain⟨bb,H',I,q⟩:=h;exact⟨bb,H',I.mv,q⟩
 |brk=>obtain⟨bb,H',I,q⟩:=h;exact⟨bb,H',I.mv,q⟩
 |cont=>obtain⟨bb,H',I,q⟩:=h;exact⟨bb,H',I.mv,q⟩
 |ret u=>obtain⟨v,bb,H',I,r,q⟩:=h;exact⟨v,bb,H',I.mv,r,q⟩
theorem eD.sP {st:List Stmt} {t:TS} (h:eD X.sP st t):eD X st t:=λpins s σ H D I hw =>
 aaQ (h pins s σ H D (I.kF _) hw) (λ_ _ q=>q.mv) λ_ _ z=>abU z
end
section
variable {X:Cx} {st:Stmt} {rest:List Stmt} {t u:TS} {e:Expr} {te:TE} {pos:Pos}
noncomputable def TH:TS:=λD σ H=>D.nx σ H
noncomputable def U7 (t u:TS):TS:=λD σ H=>t { D with nx:=u D } σ H
theorem P2:eD X [] TH:=λ_ _ σ H _ I h=>wpAny_execs_nil ⟨σ,H,I,h⟩
theorem Ol (h1:PS X st t) (h2:eD X rest u):eD X (st::rest) (U7 t u):=by
 intro pins s σ H D I h
 refine wpAny_execs_cons (aF (h1 pins s σ H { D with nx:=u D } I h) λf s1 q=>?_)
 cases f with
 |next =>
  obtain⟨bb,H',I',q⟩:=q;exact h2 pins s1 bb H' D I' q
 |ret v=>exact q
 |brk=>exact q
 |cont=>exact q
theorem P4 (h1:PS X st t):eD X [st] t:=by
 intro pins s σ H D I h;refine wpAny_execs_cons (aF (h1 pins s σ H D I h) λf s1 q=>?_)
 cases f with
 |next=>exact wpAny_execs_nil q
 |ret v=>exact q
 |brk=>exact q
 |cont=>exact q
theorem Inv.quiet {pins:List (Addr×Obj)} {σ:St} {H:Hp} {s:Y4} (I:Inv X pins σ H s):interactive X.env=false:=by simp[interactive,I.ok.kind]
noncomputable def TJ (te:TE):TS:=λD σ H=>te σ H λ_ H1=>D.nx σ H1
theorem P5 (he:PE X e te) (hs:swapsWith e none pos.line X.env=pure false:=by rfl):PS X (.Expr e pos) (TJ te):=by
 intro pins s σ H D I h;exact wpAny_Expr_any (aF (he pins s σ H _ I h) λv s1 ⟨x,H1,I1,r1,q1⟩=>⟨σ,H1,I1,q1⟩) I.quiet hs
noncomputable def U8 (te:TE):TS:=λD σ H=>te σ H D.rt
theorem RQ (he:PE X e te):PS X (.Return (some e) pos) (U8 te):=by
 intro pins s σ H D I h;exact wpAny_Return_some (aF (he pins s σ H _ I h) λv s1 ⟨x,H1,I1,r1,q1⟩=>⟨x,σ,H1,I1,r1,q1⟩)
noncomputable def U9 (c:TT) (t u:TS):TS:=λD σ H=>c σ H λb H1=>if b=true then t D σ H1 else u D σ H1
theorem TL {c:Expr} {a b:List Stmt} {tc:TT} (hc:PT X c tc) (ha:eD X a t) (hb:eD X b u):PS X (.If c a b pos) (U9 tc t u):=by
 intro pins s σ H D I h;refine wpAny_If (aF (hc pins s σ H _ I h) λd s1 ⟨H1,I1,q1⟩=>?_)
 cases d with
 |true=>exact ha pins s1 σ H1 D I1 q1
 |false=>exact hb pins s1 σ H1 D I1 q1
end
noncomputable abbrev TG:=V->St->Hp->(St->Hp->Prop)->Prop
noncomputable abbrev jr:=List V->St->Hp->(St->Hp->Prop)->Prop
def PG (X:Cx) (target:Expr) (t:TG):Prop :=
 ∀(pins:List (Addr×Obj)) (s:Y4) (σ:St) (H:Hp) (v:V) (u:Value) (Q:St->Hp->Prop),Inv X pins σ H s->RelV v u->t v σ H Q ->
  wpAny (model X.prog X.w) X.A (acZ target X.env u) (λ_ s'=>∃ bb H',Inv X pins bb H' s'/\Q bb H') X.xe s
def kI (X:Cx) (ts:List Expr) (t:jr):Prop :=
 ∀(pins:List (Addr×Obj)) (s:Y4) (σ:St) (H:Hp) (vs:List V) (us:List Value) (Q:St->Hp->Prop),Inv X pins σ H s->Vals vs us->t vs σ H Q ->
  wpAny (model X.prog X.w) X.A (adb ((abg ts X.env).map (·.2)) us) (λ_ s'=>∃ bb H',Inv X pins bb H' s'/\Q bb H') X.xe s
noncomputable abbrev wG:=V->V->V->Hp->(Hp->Prop)->Prop
def AN (X:Cx) (t:wG):Prop :=
 ∀(pins:List (Addr×Obj)) (s:Y4) (σ:St) (H:Hp) (o i v:V) (ov iv u:Value) (Q:Hp->Prop),Inv X pins σ H s->RelV o ov->RelV i iv->RelV v u->t o i v H Q ->
  wpAny (model X.prog X.w) X.A (setItem ov iv u) (λ_ s'=>∃H',Inv X pins σ H' s'/\Q H') X.xe s
section
variable {X:Cx} {pos:Pos}
noncomputable def lH (i:Nat):TG:=λv σ H Q=>Q (σ.set i (some v)) H
theorem bp {i:Nat} {x:Str} (hN:X.N.Nodup) (hi:X.N[i]?=some x) (hx:Loc X.env.scope x) (hf:X.fn x=true\/X.env.scope.names.lookup x=some .local:=by first|exact .inl rfl|exact .inr rfl|assumption):PG X (.Name x pos) (lH i):=by
 intro pins s σ H v u Q I r h;exact wpAny_assign_Name (mm I hN hi hx r (λs' I'=>⟨_,H,I',h⟩) hf)
noncomputable def AO:jr:=λvs σ H Q=>vs=[]/\Q σ H
noncomputable def Af (t:TG) (u:jr):jr:=λvs σ H Q=>∃v r,vs=v::r/\t v σ H fun bb H'=>u r bb H' Q
theorem nT:kI X [] AO:=by
 intro pins s σ H vs us Q I r h;obtain⟨e,h⟩:=h;subst e;cases r;exact assignInOrder_nil ⟨σ,H,I,h⟩
theorem iI {e:Expr} {es:List Expr} {t:TG} {u:jr} (h1:PG X e t) (h2:kI X es u)
  (hs:(abg (e::es) X.env).map (·.2)=acZ e X.env::(abg es X.env).map (·.2):=by rfl):kI X (e::es) (Af t u):=by
 intro pins s σ H vs us Q I r h;obtain⟨v,vr,e1,h⟩:=h;subst e1
 cases r with
 |cons r rr =>
  rw[hs];refine abj (aF (h1 pins s σ H _ _ _ I r h) λ_ s1 ⟨JA,H1,I1,q1⟩=>?_);exact h2 pins s1 JA H1 _ _ Q I1 rr q1
noncomputable def AQ (K:Frag) (n:Nat) (t:jr):TG:=λv σ H Q=>∃a xs,v=.ref a/\aS K H a xs/\xs.length=n/\t xs σ H Q
theorem jE {es:List Expr} {k:Nat} {t:jr} {n:Nat} (hc:X.calm=true) (h:kI X es t)
  (hn:(abg es X.env).length=n:=by rfl) (sQ:(abg es X.env).findIdx? (·.1)=none:=by rfl):PG X (.Tuple es k pos) (AQ X.K n t):=by
 intro pins s σ H v u Q I r hw;obtain⟨a,xs,e1,hq,hl,hw⟩:=hw;subst e1;cases r;obtain⟨its,rv,ht,hz⟩:=I.tuple hq;refine assign_Tuple_tuple (I.ok.hd hc) ht (by simp[hn,<- hl,rv.length]) sQ λh' hx=>?_
 have I1:Inv X pins σ H { s with heap:=h' }:=I.kept (t':=s.toks) λb o e=>hx b o (Zn (Y9 e)) e
 exact h pins _ σ H xs _ Q I1 (by simpa using rv) hw
noncomputable def I0 (to ti:TE) (t:wG):TG:=λv σ H Q=>to σ H λo H1=>ti σ H1 λi H2=>t o i v H2 λH3=>Q σ H3
theorem vZ {o i:Expr} {to ti:TE} {t:wG} (ho:PE X o to) (hi:PE X i ti) (hs:AN X t)
  (ha:∀v,acZ (.Subscript o i pos) X.env v=(do
   let ov <- abz [v] (eval o X.env)
   let iv <- abz [v,ov] (eval i X.env)
   acL pos
   abz [v,ov,iv] (setItem ov iv v)
   release [v,ov,iv] []):=by intro _;rfl):PG X (.Subscript o i pos) (I0 to ti t):=by
 intro pins s σ H v u Q I r h;rw[ha];refine YX (aat (aF (ho pins s σ H _ I h) λov s1 ⟨x,H1,I1,r1,q1⟩=>?_));refine YX (aat (aF (hi pins s1 σ H1 _ I1 q1) λiv s2 ⟨y,H2,I2,r2,q2⟩=>?_));refine YX (abA (YX (aat (aF (hs pins s2 σ H2 x y v ov iv u _ I2 r1 r2 r q2) λ_ s3 ⟨H3,I3,q3⟩=>?_))));exact wpAny_release ⟨σ,H3,I3,q3⟩
noncomputable def qr (te:TE) (g:TG):TS:=λD σ H=>te σ H λx H1=>g x σ H1 D.nx
theorem v5 {tg e:Expr} {te:TE} {g:TG} (he:PE X e te) (hg:PG X tg g) (hs:abk [tg] e pos.line X.env=pure false:=by rfl) (hw:abl [tg] e X.env=pure none:=by rfl)
  (h1:(abg [tg] X.env).map (·.2)=[acZ tg X.env]:=by rfl):PS X (.Assign [tg] e pos) (qr te g):=by
 intro pins s σ H D I h;refine wpAny_Assign_stores (aF (he pins s σ H _ I h) λv s1 ⟨x,H1,I1,r1,q1⟩=>?_) hs hw;rw[h1];exact aF (hg pins s1 σ H1 x v _ I1 r1 q1) λ_ s2 q=>q
theorem RR {i:Nat} {x:Str} {e:Expr} {te:TE} {pos':Pos} (hN:X.N.Nodup) (hi:X.N[i]?=some x) (hx:Loc X.env.scope x) (he:PE X e te) (hs:swapsWith e (some (.Name x pos')) pos.line X.env=pure false:=by rfl) (hf:X.fn x=true\/X.env.scope.names.lookup x=some .local:=by first|exact .inl rfl|exact .inr rfl|assumption) :
  PS X (.Assign [.Name x pos'] e pos) (qr te (lH i)):=by
 intro pins s σ H D I h;refine wpAny_Assign_Name (aF (he pins s σ H _ I h) λv s1 ⟨y,H1,I1,r1,q1⟩=>?_) hs;exact mm I1 hN hi hx r1 (λs2 I2=>⟨_,H1,I2,q1⟩) hf
noncomputable def Va (i j:Nat) (ta:TA):TS:=λD σ H=>ta σ H λvs H1=>∃v w,vs=[v,w]/\D.nx ((σ.set i (some v)).set j (some w)) H1
theorem RS {i j:Nat} {x y:Str} {a b:Expr} {ta:TA} {px py pt:Pos} {kt k2 hZ} (hc:X.calm=true) (hN:X.N.Nodup) (hi:X.N[i]?=some x) (hj:X.N[j]?=some y) (eT:i≠j)
  (hx:X.env.scope.names.lookup x=some .local) (hy:X.env.scope.names.lookup y=some .local) (ha:PA X [a,b] ta)
  (hw:abl [.Tuple [.Name x px,.Name y py] kt pt] (.Tuple [a,b] k2 hZ) X.env=pure (some [x,y]))
  (hs:abk [.Tuple [.Name x px,.Name y py] kt pt] (.Tuple [a,b] k2 hZ) pos.line X.env=pure false:=by rfl) :
  PS X (.Assign [.Tuple [.Name x px,.Name y py] kt pt] (.Tuple [a,b] k2 hZ) pos) (Va i j ta):=by
 intro pins s σ H D I h;rw[exec_Assign_arm];refine YX (abA ?_);rw[hs];refine YX (YZ ?_);rw[if_neg (by decide)];refine YX (Tuple_ (aF (ha _ pins s σ H _ I h) λus s1 ⟨vs,H1,I1,r1,q1⟩=>?_));obtain⟨v,w,e1,q1⟩:=q1;subst e1;obtain⟨u1,u2,rfl,rv,oP⟩:∃u1 u2,us=[u1,u2]/\RelV v u1/\RelV w u2:=by
  cases r1 with
  |cons p q =>
   cases q with
   |cons p' q' =>
    cases q';exact⟨_,_,rfl,p,p'⟩
 refine Zt ?_ (by show 2<=Zf;decide)
 have I2:Inv X pins σ H1 { s1 with heap:=s1.heap.push { cls:=.type "tuple",data:=.seq [u1,u2].toArray } }:=I1.kept (t':=s1.toks) λb o e=>YY _ e
 rw[hw];refine YX (YZ ?_)
 show wpAny (model X.prog X.w) X.A (do rule "assign.swapped-stores";let items <- unpackItems (.ref s1.heap.objs.size) 2 none;adb [λv=>ade X.env y v,λv=>ade X.env x v] items.reverse;pure Flow.next) _ _ _
 refine YX (aa5 (YX (unpackItems_tuple (items:=#[u1,u2]) (I.ok.hd hc) (IsTup.new s1.heap _) λh' sR=>?_)));have I3:=I2.kept (h':=h') (t':=s1.toks) λb o e=>sR b o (Zn (Y9 e)) e
 show wpAny _ _ (adb [λv=>ade X.env y v,λv=>ade X.env x v] [u2,u1] >>= λ_=>pure Flow.next) _ _ _
 refine YX (abj (acV (mm I3 hN hj (.inl hy) oP (λs2 I4=>?_) (.inr hy))));refine abj (acV (mm I4 hN hi (.inl hx) rv (λs3 I5=>assignInOrder_nil (YZ ?_)) (.inr hx)));rw[List.set_comm _ _ (abe eT)] at I5;exact⟨_,H1,I5,q1⟩
end
section
variable {X:Cx} {pos:Pos}
end
structure It where
 go:Nat->Hp->Prop
 sS:Nat->Hp->V->Hp->Prop
 stop:Nat->Hp->Prop
def gb (X:Cx) (pins:List (Addr×Obj)) (H:Hp) (b:Addr):Prop :=
 H b=none/\b≠X.env.locals/\b∉X.fs/\(b∈X.ex\/X.dC.heap.objs.size<=b)/\(∀x c,X.env.cells.lookup x=some c->c≠b)/\∀p∈X.pn++pins,p.1≠b
theorem Inv.ow {X:Cx} {pins:List (Addr×Obj)} {σ:St} {H H':Hp} {s:Y4} {b:Addr} (I:Inv X pins σ H s) (hb:s.heap.objs.size<=b) (hn:H' b=none):gb X pins H' b:=by
 refine⟨hn,aan (Y5 I.lt hb),I.sk hb,.inr (Zo I.sz hb),λx c e z=>?_,λp hp z=>?_⟩
 ·obtain⟨v,q⟩:=I.cell x c e
  exact absurd (Y5 q.lt (by rw[z];exact hb)) (ZF _)
 ·exact absurd (Y5 (Y9 (I.pin p hp).1) (by rw[z];exact hb)) (ZF _)
structure Turn (P:ZE) (w:World) (K:Frag) (tg:Expr) (J:It) (fp:List Addr) (it:Addr) (tn:Nat->Heap->Prop):Prop where
 mem:it∈fp
 obj:∀i h,tn i h->∀b∈fp,∃o,h.get? b=some o/\∀v,o.data≠.cell v
 keep:∀i h h',tn i h->(∀b∈fp,∀o,h.get? b=some o->h'.get? b=some o)->tn i h'
 item:∀(X:Cx),X.prog=P->X.w=w->X.K=K->X.calm=true->∀(i:Nat) (pins:List (Addr×Obj)) (s:Y4) (σ:St) (H:Hp) (E:Value->Y4->Prop),Inv X pins σ H s->(∀b∈fp,gb X pins H b)->tn i s.heap->J.go i H ->
  wpAny (model P w) X.A (abr (.ref it)) (λr s1=>∃u,r=some u /\
   wpAny (model P w) X.A (abt tg (.ref it) u) (λ_ s2=>∃x H',Inv X pins σ H' s2/\RelV x u/\J.sS i H x H'/\tn (i+1) s2.heap/\∀b∈fp,H' b=none) E s1) E s
 done:∀(X:Cx),X.prog=P->X.w=w->X.K=K->X.calm=true->∀(i:Nat) (pins:List (Addr×Obj)) (s:Y4) (σ:St) (H:Hp) (E:Value->Y4->Prop),Inv X pins σ H s->(∀b∈fp,gb X pins H b)->tn i s.heap->J.stop i H ->
  wpAny (model P w) X.A (abr (.ref it)) (λr s1=>r=none/\Inv X pins σ H s1) E s
 self:∀(A:ZX) (i:Nat) (s:Y4) (Q:Value->Y4->Prop) (E:Value->Y4->Prop),tn i s.heap->Q (.ref it) s->wpAny (model P w) A (pyIter (.ref it)) Q E s
noncomputable abbrev TI:=St->Hp->(It->Hp->Prop)->Prop
def JB (X:Cx) (pins:List (Addr×Obj)) (σ:St) (tg:Expr) (R:It->Hp->Prop) (iX:Value) (s2:Y4):Prop :=
 ∃(it:Addr) (fp:List Addr) (tn:Nat->Heap->Prop) (J:It) (H':Hp),iX=.ref it/\Inv X pins σ H' s2/\Turn X.prog X.w X.K tg J fp it tn/\tn 0 s2.heap/\(∀b∈fp,gb X pins H' b)/\R J H'
def PI (X:Cx) (tg iter:Expr) (wi:TI):Prop :=
 ∀(pins:List (Addr×Obj)) (s:Y4) (σ:St) (H:Hp) (R:It->Hp->Prop),Inv X pins σ H s->wi σ H R ->
  wpAny (model X.prog X.w) X.A (eval iter X.env) (λv s1=>wpAny (model X.prog X.w) X.A (pyIter v) (JB X pins σ tg R) X.xe s1) X.xe s
theorem rT {M:Model} {A:ZX} {E:Value->Y4->Prop} {s:Y4} {tg:Expr} {it:Addr} {u:Value} {o:Obj} {n:String} {vs:Array Value} {Q:Unit->Y4->Prop} (ho:s.heap.get? it=some o) (hc:o.cls=.type n) (hd:o.data=.fields vs)
  (hn:["enumerate","zip","dict_itemiterator","dict_reverseitemiterator","odict_iterator","itertools.zip_longest","itertools.pairwise"].contains n=false) (hQ:Q () s):wpAny M A (abt tg (.ref it) u) Q E s:=by
 unfold abt
 cases tg<;>first
  |exact YZ hQ
  |(cases u<;>first
    |exact YZ hQ
    |(refine YX (wpAny_load ho ?_)
      rw[hc,hd]
      show wpAny M A (if (["enumerate","zip","dict_itemiterator","dict_reverseitemiterator","odict_iterator","itertools.zip_longest","itertools.pairwise"].contains n&&vs[0]?==some (aaH _))=true then _ else _) Q E s
      rw[if_neg (by intro h;rw[hn,ab6] at h;cases h)];exact YZ hQ))
noncomputable def Bq (K:Frag) (a:Addr):It :=
 ⟨λi H=>∃xs x,bQ K H a xs/\xs[i]?=some x,λi H x H'=>H'=H/\∀xs,bQ K H a xs->xs[i]?=some x,λi H=>∃xs,bQ K H a xs/\xs.length<=i⟩
noncomputable def Br (K:Frag) (a:Addr):It :=
 ⟨λi H=>∃xs x,aS K H a xs/\xs[i]?=some x,λi H x H'=>H'=H/\∀xs,aS K H a xs->xs[i]?=some x,λi H=>∃xs,aS K H a xs/\xs.length<=i⟩
noncomputable def sT (lo:Int) (n:Nat):It:=⟨λi _=>i<n,λi H x H'=>H'=H/\x=.int (lo+i),λi _=>n<=i⟩
theorem M8 {P:ZE} {w:World} {K:Frag} {tg:Expr} (a it:Addr):Turn P w K tg (Bq K a) [it] it (λi h=>h.IsListIter it a i) where
 mem:=by simp
 obj:=λi h st b hb=>by
  have e:b=it:=by simpa using hb
  subst e;obtain⟨o,e,c,d⟩:=st;exact⟨o,e,λv z=>by rw[d] at z;cases z⟩
 keep:=λi h h' st k=>st.at λo e=>k it (by simp) o e
 item:=by
  intro X hP hw hK hc i pins s σ H E I hf st hg;subst hP hw hK;obtain⟨xs,x,hq,hx⟩:=hg;obtain⟨its,rv,p,hz⟩:=I.list hq;obtain⟨u,hu,ru⟩:=rv.get hx;obtain⟨f0,f1,f2,f3,f4,f5⟩:=hf it (by simp);refine wpAny_pyNext_list_item st p.isList (x:=u) (by simpa using hu) λh' dq sb=>?_
  have I1:Inv X pins σ H { s with heap:=h' }:=I.turned (t':=s.toks) (λb o hb e=>(sb.2 b hb).trans e) f0 f1 f3 f4 f5
  obtain⟨o,e,c,d⟩:=id dq
  exact⟨u,rfl,rT (s:={ s with heap:=h' }) e c d (by decide) ⟨x,H,I1,ru,⟨rfl,λys hy=>by rw[I.Oj hy hq];exact hx⟩,dq,λb hb=>(hf b hb).1⟩⟩
 done:=by
  intro X hP hw hK hc i pins s σ H E I hf st hg;subst hP hw hK;obtain⟨xs,hq,hx⟩:=hg;obtain⟨its,rv,p,hz⟩:=I.list hq;obtain⟨f0,f1,f2,f3,f4,f5⟩:=hf it (by simp);have hl:=rv.length;exact wpAny_pyNext_list_end (I.ok.hd hc) st p.isList (by simp;omega) λh' eb=>⟨rfl,I.turned (t':=s.toks) (λb o hb e=>eb b o hb e) f0 f1 f3 f4 f5⟩
 self:=λ_ _ _ _ _ st h=>wpAny_pyIter_listiter st h
theorem Ma {P:ZE} {w:World} {K:Frag} {tg:Expr} (a it:Addr):Turn P w K tg (Br K a) [it] it (λi h=>h.IsTupleIter it a i) where
 mem:=by simp
 obj:=λi h st b hb=>by
  have e:b=it:=by simpa using hb
  subst e;obtain⟨o,e,c,d⟩:=st;exact⟨o,e,λv z=>by rw[d] at z;cases z⟩
 keep:=λi h h' st k=>st.at λo e=>k it (by simp) o e
 item:=by
  intro X hP hw hK hc i pins s σ H E I hf st hg;subst hP hw hK;obtain⟨xs,x,hq,hx⟩:=hg;obtain⟨its,rv,p,hz⟩:=I.tuple hq;obtain⟨u,hu,ru⟩:=rv.get hx;obtain⟨f0,f1,f2,f3,f4,f5⟩:=hf it (by simp);refine wpAny_pyNext_tuple_item st (show s.heap.IsTuple a its.toArray from p) (x:=u) (by simpa using hu) λh' dq sb=>?_
  have I1:Inv X pins σ H { s with heap:=h' }:=I.turned (t':=s.toks) (λb o hb e=>(sb.2 b hb).trans e) f0 f1 f3 f4 f5
  obtain⟨o,e,c,d⟩:=id dq
  exact⟨u,rfl,rT (s:={ s with heap:=h' }) e c d (by decide) ⟨x,H,I1,ru,⟨rfl,λys hy=>by rw[I.uZ hy hq];exact hx⟩,dq,λb hb=>(hf b hb).1⟩⟩
 done:=by
  intro X hP hw hK hc i pins s σ H E I hf st hg;subst hP hw hK;obtain⟨xs,hq,hx⟩:=hg;obtain⟨its,rv,p,hz⟩:=I.tuple hq;obtain⟨f0,f1,f2,f3,f4,f5⟩:=hf it (by simp);have hl:=rv.length;exact wpAny_pyNext_tuple_end (I.ok.hd hc) st (show s.heap.IsTuple a its.toArray from p) (by simp;omega) λh' eb=>⟨rfl,I.turned (t':=s.toks) (λb o hb e=>eb b o hb e) f0 f1 f3 f4 f5⟩
 self:=λ_ _ _ _ _ st h=>wpAny_pyIter_tupleiter st h
theorem Mb {P:ZE} {w:World} {K:Frag} {tg:Expr} (it:Addr) (lo:Int) (n:Nat):Turn P w K tg (sT lo n) [it] it (λi h=>IsRangeIter h it (lo+(i:Nat)*1) ((n:Int)-(i:Nat)) 1) where
 mem:=by simp
 obj:=λi h st b hb=>by
  have e:b=it:=by simpa using hb
  subst e;exact⟨_,st,λv z=>by
   have z':Data.fields _=Data.cell v:=z;cases z'⟩
 keep:=λi h h' st k=>k it (by simp) _ st
 item:=by
  intro X hP hw hK hc i pins s σ H E I hf st hg;subst hP hw hK;obtain⟨f0,f1,f2,f3,f4,f5⟩:=hf it (by simp);have W:=Walks.range (prog:=X.prog) (w:=X.w) (I.ok.hd hc) it lo 1 n;refine W.item i s _ _ hg st λv h' tk hv dq kk=>?_;obtain⟨t,rfl⟩:=hv
  have I1:Inv X pins σ H { s with heap:=h',toks:=tk }:=I.turned (λb o hb e=>kk b o (by simpa using hb) e) f0 f1 f3 f4 f5
  refine⟨_,rfl,rT (s:={ s with heap:=h',toks:=tk }) (n:="range_iterator") dq rfl rfl (by decide) ⟨.int (lo+i),H,I1,⟨t,?_⟩,⟨rfl,rfl⟩,dq,λb hb=>(hf b hb).1⟩⟩
  rw[Int.mul_one]
 done:=by
  intro X hP hw hK hc i pins s σ H E I hf st hg;subst hP hw hK;obtain⟨f0,f1,f2,f3,f4,f5⟩:=hf it (by simp);exact wpAny_pyNext_range_end (I.ok.hd hc) st (by have:n<=i:=hg;omega) λh' eb=>⟨rfl,I.turned (t':=s.toks) (λb o hb e=>eb b o hb e) f0 f1 f3 f4 f5⟩
 self:=λ_ _ _ _ _ st h=>acH st h
end L2
namespace L2
open PySem PySem.Spec PyProof.Rows
section
variable {X:Cx} {tg:Expr}
noncomputable def Ic (K:Frag) (tl:TE):TI:=fun σ H R=>tl σ H λx H1=>∃a,x=.ref a/\(∃xs,bQ K H1 a xs)/\R (Bq K a) H1
noncomputable def Ja (K:Frag) (tl:TE):TI:=fun σ H R=>tl σ H λx H1=>∃a,x=.ref a/\(∃xs,aS K H1 a xs)/\R (Br K a) H1
theorem P6 {l:Expr} {tl:TE} (hl:PE X l tl):PI X tg l (Ic X.K tl):=by
 intro pins s σ H R I h;refine aF (hl pins s σ H _ I h) λv s1 ⟨x,H1,I1,r1,q1⟩=>?_;obtain⟨a,e,⟨xs,hq⟩,q⟩:=q1;subst e;cases r1;obtain⟨its,rv,p,hz⟩:=I1.list hq;refine acM p.isList ?_;refine⟨s1.heap.objs.size,[s1.heap.objs.size],_,_,H1,rfl,I1.kept (t':=s1.toks) λb o e=>YY _ e,M8 a _,⟨_,Y6 _ rfl,rfl,rfl⟩,λb hb=>?_,q⟩;have e:b=s1.heap.objs.size:=by simpa using hb
 subst e;exact I1.ow (Nat.le_refl _) (I1.aG.fresh (Nat.le_refl _))
theorem RT {l:Expr} {tl:TE} (hl:PE X l tl):PI X tg l (Ja X.K tl):=by
 intro pins s σ H R I h;refine aF (hl pins s σ H _ I h) λv s1 ⟨x,H1,I1,r1,q1⟩=>?_;obtain⟨a,e,⟨xs,hq⟩,q⟩:=q1;subst e;cases r1;obtain⟨its,rv,p,hz⟩:=I1.tuple hq;refine aaW (show s1.heap.IsTuple a its.toArray from p) ?_;refine⟨s1.heap.objs.size,[s1.heap.objs.size],_,_,H1,rfl,I1.kept (t':=s1.toks) λb o e=>YY _ e,Ma a _,⟨_,Y6 _ rfl,rfl,rfl⟩,λb hb=>?_,q⟩;have e:b=s1.heap.objs.size:=by simpa using hb
 subst e;exact I1.ow (Nat.le_refl _) (I1.aG.fresh (Nat.le_refl _))
theorem Fh {pins:List (Addr×Obj)} {σ:St} {H:Hp} {s:Y4} {R:It->Hp->Prop} {E:Value->Y4->Prop} {lo hi:Int} {t u v:Tok} {tk:Nat} (I:Inv X pins σ H s) (h1:-(2 ^ 62)<=lo) (h2:lo<2 ^ 62) (h3:-(2 ^ 62)<=hi) (h4:hi<2 ^ 62)
  (q:R (sT lo (hi-lo).toNat) H):wpAny (model X.prog X.w) X.A (pyIter (.ref s.heap.objs.size)) (JB X pins σ tg R) E { s with heap:=s.heap.push { cls:=.type "range",data:=.fields #[.int lo t,.int hi u,.int 1 v] },toks:=tk }:=by
 refine wpAny_pyIter_range (IsRange.new ..) (small_one h1 h2 h3 h4) ?_
 have I1:Inv X pins σ H { s with heap:=s.heap.push { cls:=.type "range",data:=.fields #[.int lo t,.int hi u,.int 1 v] },toks:=tk }:=I.kept λb o e=>YY _ e
 refine⟨(s.heap.push { cls:=.type "range",data:=.fields #[.int lo t,.int hi u,.int 1 v] }).objs.size,[(s.heap.push { cls:=.type "range",data:=.fields #[.int lo t,.int hi u,.int 1 v] }).objs.size],_,_,H,rfl,
  I1.kept (t':=tk) λb o e=>YY _ e,Mb _ lo (hi-lo).toNat,?_,λb hb=>?_,q⟩
 ·have e1:lo+((0:Nat):Int)*1=lo:=by simp
  have e2:(((hi-lo).toNat:Nat):Int)-((0:Nat):Int)=aa1 lo hi 1:=by rw[rangeSize_one];split<;>omega
  show IsRangeIter _ _ (lo+((0:Nat):Int)*1) ((((hi-lo).toNat:Nat):Int)-((0:Nat):Int)) 1;rw[e1,e2];exact Y6 _ rfl
 ·have e:b=(s.heap.push { cls:=.type "range",data:=.fields #[.int lo t,.int hi u,.int 1 v] }).objs.size:=by simpa using hb
  subst e;exact I1.ow (Nat.le_refl _) (I1.aG.fresh (Nat.le_refl _))
noncomputable def TM (ta:TA):TI:=fun σ H R=>ta σ H λvs H1=>∃j:Int,vs=[.int j]/\-(2 ^ 62)<=j/\j<2 ^ 62/\R (sT 0 j.toNat) H1
noncomputable def TN (ta:TA):TI:=fun σ H R=>ta σ H λvs H1=>∃i j:Int,vs=[.int i,.int j]/\(-(2 ^ 62)<=i/\i<2 ^ 62/\-(2 ^ 62)<=j/\j<2 ^ 62)/\R (sT i (j-i).toNat) H1
theorem M9 {a:Expr} {ta:TA} {p pos:Pos} (hg:Gl X "range") (hm:X.mg "range"=none) (ha:PA X [a] ta) (hs:Zp [a] X.env=[(false,eval a X.env)]:=by rfl):PI X tg (.Call (.Name "range" p) [a] [] pos) (TM ta):=by
 intro pins s σ H R I h;refine Call_ (lq I hg hm boot_range (aak (aF (ha pos pins s σ H _ I h) λus s1 ⟨vs,H1,I1,r1,q1⟩=>?_) hs rfl));obtain⟨j,e,q1,q2,q⟩:=q1;subst e
 cases r1 with
 |cons r rr =>
  cases rr;obtain⟨t,rfl⟩:=r;exact call_range_1 (Fh I1 (by omega) (by omega) q1 q2 (by simpa using q))
theorem Na {a b:Expr} {ta:TA} {p pos:Pos} (hg:Gl X "range") (hm:X.mg "range"=none) (ha:PA X [a,b] ta) (hs:Zp [a,b] X.env=[(false,eval a X.env),(false,eval b X.env)]:=by rfl) (eG:Zp [b] X.env=[(false,eval b X.env)]:=by rfl) :
  PI X tg (.Call (.Name "range" p) [a,b] [] pos) (TN ta):=by
 intro pins s σ H R I h;refine Call_ (lq I hg hm boot_range (aak (aF (ha pos pins s σ H _ I h) λus s1 ⟨vs,H1,I1,r1,q1⟩=>?_) (by rw[hs,eG]) (by rw[eG];rfl)));obtain⟨i,j,e,⟨q1,q2,q3,q4⟩,q⟩:=q1;subst e
 cases r1 with
 |cons r rr =>
  cases rr with
  |cons r' rr =>
   cases rr;obtain⟨t,rfl⟩:=r;obtain⟨t',rfl⟩:=r';exact call_range_2 (Fh I1 q1 q2 q3 q4 q)
noncomputable def Jb (wi:TI) (g:TG) (tb:TS):TS:=λD σ H=>wi σ H λJ H1=>∃W:Nat->Nat->St->Hp->Prop,(∃m,W 0 m σ H1)/\∀i m σ H,W i m σ H ->
 (J.stop i H/\D.nx σ H)\/(J.go i H/\∃N:St->Hp->Prop,(∀ bb H',N bb H'->∃m',m' < m/\W (i+1) m' bb H')/\∀x H',J.sS i H x H'->g x σ H' fun lW H2=>tb { D with nx:=N,ct:=N,bk:=D.nx } lW H2)
noncomputable def mw (fp:List Addr) (h:Heap):List (Addr×Obj):=fp.filterMap λb=>(h.get? b).map λo=>(b,o)
theorem pK {fp:List Addr} {h:Heap} {b:Addr} {o:Obj} (hb:b∈fp) (e:h.get? b=some o):(b,o)∈mw fp h:=List.mem_filterMap.mpr ⟨b,hb,by rw[e];rfl⟩
theorem EG {fp:List Addr} {h:Heap} {p:Addr×Obj} (hp:p∈mw fp h):p.1∈fp/\h.get? p.1=some p.2:=by
 obtain⟨b,hb,e⟩:=List.mem_filterMap.mp hp
 cases q:h.get? b with
 |none=>rw[q] at e;cases e
 |some o =>
  rw[q] at e;have e':(b,o)=p:=Option.some.inj e;subst e';exact⟨hb,q⟩
theorem Inv.pinned {pins:List (Addr×Obj)} {σ:St} {H:Hp} {s:Y4} {fp:List Addr} (I:Inv X pins σ H s) (hf:∀b∈fp,gb X pins H b) (ho:∀b∈fp,∃o,s.heap.get? b=some o/\∀v,o.data≠.cell v):Inv X (pins++mw fp s.heap) σ H s :=
 I.k9 λp hp=>(Zq.mp hp).elim (λz=>I.pin p (Zc _ z)) λz=>by
  obtain⟨hb,e⟩:=EG z;obtain⟨f0,f1,f2,_⟩:=hf p.1 hb;obtain⟨o,e',d⟩:=ho p.1 hb;rw[e] at e';cases e';exact⟨e,f0,f1,f2,d⟩
theorem Inv.kY {pins pl:List (Addr×Obj)} {σ:St} {H:Hp} {s:Y4} (I:Inv X (pins++pl) σ H s):Inv X pins σ H s:=I.k9 λp hp=>I.pin p (Zc _ (aaj _ hp))
theorem RU {iter:Expr} {body:List Stmt} {wi:TI} {g:TG} {tb:TS} {pos:Pos} (hp:PassesOwn (model X.prog X.w) X.A X.env X.xe) (hc:X.calm=true) (hi:PI X tg iter wi) (hg:PG X tg g) (hb:eD X body tb)
  (hs:∀x,ZW iter X.env x=pure x:=by intro _;rfl):PS X (.For tg iter body [] pos) (Jb wi g tb):=by
 intro pins s σ H D I h;refine wpAny_For (aF (hi pins s σ H _ I h) λv s1 h1=>aF h1 λiX s2 h2=>?_) hs;obtain⟨it,fp,tn,J,H2,e,I2,T,gv,f2,W,⟨m0,w0⟩,turn⟩:=h2;subst e;have stat:∀{H':Hp},(∀b∈fp,H' b=none)->∀b∈fp,gb X pins H' b:=λhn b hb=>⟨hn b hb,(f2 b hb).2⟩;refine codeAny_forLoop_any (λn s'=>∃i bb H',Inv X pins bb H' s'/\tn i s'.heap/\(∀b∈fp,H' b=none)/\W i n bb H') ?_ m0 ⟨0,σ,H2,I2,gv,λb hb=>(f2 b hb).1,w0⟩;rintro n s3 ⟨i,kJ,H3,I3,j0,mV,w3⟩
 rcases turn i n kJ H3 w3 with ⟨stop,qn⟩ | ⟨go,N,hN,step⟩
 ·refine acw hp (aF (T.done X rfl rfl rfl hc i pins s3 kJ H3 X.xe I3 (stat mV) j0 stop) λr s4 ⟨hr,I4⟩=>?_)
  subst hr;exact wpAny_execs_nil ⟨kJ,H3,I4,qn⟩
 ·refine acw hp (aF (T.item X rfl rfl rfl hc i pins s3 kJ H3 X.xe I3 (stat mV) j0 go) λr s4 ⟨u,hr,h4⟩=>?_)
  subst hr;refine acw hp (aF h4 λ_ s5 ⟨x,H5,I5,r5,y5,gO,sU⟩=>?_);have sV:=I5.pinned (stat sU) (T.obj _ _ gO);refine acw hp (aF (hg _ s5 kJ H5 x u _ sV r5 (step x H5 y5)) λ_ s6 ⟨VY,H6,I6,q6⟩=>?_);refine acw hp (aF (hb _ s6 VY H6 _ I6 q6) λf s7 q7=>?_);have again:∀{j3:St} {H7:Hp},Inv X (pins++mw fp s5.heap) j3 H7 s7->N j3 H7->∃m,m<n/\∃i bb H',Inv X pins bb H' s7/\tn i s7.heap/\(∀b∈fp,H' b=none)/\W i m bb H':=λ{j3 H7} I7 n7=>by
   obtain⟨m',hm,w7⟩:=hN j3 H7 n7;refine⟨m',hm,i+1,j3,H7,I7.kY,T.keep _ _ _ gO λb hb o e=>(I7.pin (b,o) (Zc _ (Zc _ (pK hb e)))).1,λb hb=>?_,w7⟩;obtain⟨o,e,d⟩:=T.obj _ _ gO b hb;exact(I7.pin (b,o) (Zc _ (Zc _ (pK hb e)))).2.1
  cases f with
  |next=>obtain⟨j3,H7,I7,n7⟩:=q7;exact again I7 n7
  |cont=>obtain⟨j3,H7,I7,n7⟩:=q7;exact again I7 n7
  |brk=>obtain⟨j3,H7,I7,q7⟩:=q7;exact⟨j3,H7,I7.kY,q7⟩
  |ret v=>obtain⟨x7,j3,H7,I7,r7,q7⟩:=q7;exact⟨x7,j3,H7,I7.kY,r7,q7⟩
end
end L2
namespace L2
open PySem PySem.Spec PyProof.Rows
noncomputable abbrev R2:=V->V->Hp->VK->Prop
def bj (X:Cx) (f:Value->Value->Sem Value) (r:R2):Prop :=
 ∀(pins:List (Addr×Obj)) (s:Y4) (σ:St) (H:Hp) (x y:V) (v u:Value) (Q:VK),Inv X pins σ H s->RelV x v->RelV y u->r x y H Q ->
  wpAny (model X.prog X.w) X.A (f v u) (EP X pins σ Q) X.xe s
def sW (X:Cx) (f:Value->Sem Value) (r:V->Hp->VK->Prop):Prop :=
 ∀(pins:List (Addr×Obj)) (s:Y4) (σ:St) (H:Hp) (x:V) (v:Value) (Q:VK),Inv X pins σ H s->RelV x v->r x H Q ->
  wpAny (model X.prog X.w) X.A (f v) (EP X pins σ Q) X.xe s
def cf (X:Cx) (f:Value) (r:List V->Hp->VK->Prop):Prop :=
 ∀(pins:List (Addr×Obj)) (s:Y4) (σ:St) (H:Hp) (xs:List V) (us:List Value) (Q:VK),Inv X pins σ H s->Vals xs us->r xs H Q ->
  wpAny (model X.prog X.w) X.A (call f us) (EP X pins σ Q) X.xe s
def Vb (X:Cx) (r:V->Hp->(Bool->Hp->Prop)->Prop):Prop :=
 ∀(pins:List (Addr×Obj)) (s:Y4) (σ:St) (H:Hp) (x:V) (v:Value) (Q:Bool->Hp->Prop),Inv X pins σ H s->RelV x v->r x H Q ->
  wpAny (model X.prog X.w) X.A (truthy v) (TP X pins σ Q) X.xe s
noncomputable def sX (r:R2) (ta tb:TE):TE:=fun σ H Q=>ta σ H λx H1=>tb σ H1 λy H2=>r x y H2 Q
noncomputable def JC (r:V->Hp->VK->Prop) (ta:TE):TE:=fun σ H Q=>ta σ H λx H1=>r x H1 Q
noncomputable def rI (C:Int->Int->Prop) (g:Int->Int->V):R2:=λx y H Q=>∃i j,x=.int i/\y=.int j/\C i j/\Q (g i j) H
noncomputable def oQ (g:Int->Int->V):R2:=λx y H Q=>∃i j,x=.int i/\y=.int j/\Q (g i j) H
noncomputable def rU (g:Int->V):V->Hp->VK->Prop:=λx H Q=>∃i,x=.int i/\Q (g i) H
section
variable {X:Cx} {a b c:Expr} {ta tb tc:TE} {pos:Pos}
theorem AR (ha:PE X a ta) (hb:PE X b tb) {pins:List (Addr×Obj)} {s:Y4} {σ:St} {H:Hp} {R:V->V->Hp->Prop} (I:Inv X pins σ H s)
  (h:ta σ H λx H1=>tb σ H1 λy H2=>R x y H2) {Q:Value->Y4->Prop} {f:Value->Value->Sem Value}
  (hf:∀v u s2 x y H2,Inv X pins σ H2 s2->RelV x v->RelV y u->R x y H2->wpAny (model X.prog X.w) X.A (f v u) Q X.xe s2) :
  wpAny (model X.prog X.w) X.A (eval a X.env) (λv bA=>wpAny (model X.prog X.w) X.A (eval b X.env) (λu ox=>wpAny (model X.prog X.w) X.A (f v u) Q X.xe ox) X.xe bA) X.xe s:=by
 refine aF (ha pins s σ H _ I h) λv s1 ⟨x,H1,I1,r1,q1⟩=>?_;refine aF (hb pins s1 σ H1 _ I1 q1) λu s2 ⟨y,H2,I2,r2,q2⟩=>?_;exact hf v u s2 x y H2 I2 r1 r2 q2
theorem TQ {op:Operator} {r:R2} (ho:bj X (aaO op) r) (ha:PE X a ta) (hb:PE X b tb):PE X (.BinOp a op b pos) (sX r ta tb):=by
 intro pins s σ H Q I h;exact wpAny_BinOp (AR ha hb I h λv u s2 x y H2 I2 rx ry q=>ho pins s2 σ H2 x y v u Q I2 rx ry q)
theorem Ie {op:UnaryOp} {r:V->Hp->VK->Prop} (ho:sW X (unaryOp op) r) (ha:PE X a ta):PE X (.UnaryOp op a pos) (JC r ta):=by
 intro pins s σ H Q I h;exact UnaryOp_ (aF (ha pins s σ H _ I h) λv s1 ⟨x,H1,I1,r1,q1⟩=>ho pins s1 σ H1 x v Q I1 r1 q1)
theorem xm {f:Value->Value->Sem Value} {C:Int->Int->Prop} {g:Int->Int->Int}
  (rule:∀(i j:Int) (t u:Tok) (s:Y4) (Q:Value->Y4->Prop) (E:Value->Y4->Prop),C i j->Q (.int (g i j) s.toks) { s with toks:=s.toks+1 }->wpAny (model X.prog X.w) X.A (f (.int i t) (.int j u)) Q E s) :
  bj X f (rI C λi j=>.int (g i j)):=by
 intro pins s σ H x y v u Q I rx ry h;obtain⟨i,j,rfl,rfl,hc,q⟩:=h;obtain⟨t,rfl⟩:=rx;obtain⟨t',rfl⟩:=ry;exact rule i j t t' s _ _ hc ⟨.int (g i j),H,I.tok _,⟨_,rfl⟩,q⟩
theorem Jc {f:Value->Value->Sem Value} {g:Int->Int->Int}
  (rule:∀(i j:Int) (t u:Tok) (s:Y4) (Q:Value->Y4->Prop) (E:Value->Y4->Prop),Q (.int (g i j) s.toks) { s with toks:=s.toks+1 }->wpAny (model X.prog X.w) X.A (f (.int i t) (.int j u)) Q E s) :
  bj X f (oQ λi j=>.int (g i j)):=by
 intro pins s σ H x y v u Q I rx ry h;obtain⟨i,j,rfl,rfl,q⟩:=h;obtain⟨t,rfl⟩:=rx;obtain⟨t',rfl⟩:=ry;exact rule i j t t' s _ _ ⟨.int (g i j),H,I.tok _,⟨_,rfl⟩,q⟩
theorem AS {f:Value->Value->Sem Value} {g:Int->Int->Bool}
  (rule:∀(i j:Int) (t u:Tok) (s:Y4) (Q:Value->Y4->Prop) (E:Value->Y4->Prop),Q (.bool (g i j)) s->wpAny (model X.prog X.w) X.A (f (.int i t) (.int j u)) Q E s) :
  bj X f (oQ λi j=>.bl (g i j)):=by
 intro pins s σ H x y v u Q I rx ry h;obtain⟨i,j,rfl,rfl,q⟩:=h;obtain⟨t,rfl⟩:=rx;obtain⟨t',rfl⟩:=ry;exact rule i j t t' s _ _ ⟨.bl (g i j),H,I,rfl,q⟩
def Vc (i j:Int):Prop:=0<j/\j<1073741824
def Vd (i j:Int):Prop:=0<=j/\j<=1000000/\i.natAbs<2 ^ 64
def wH (i j:Int):Prop:=(-(2 ^ 64)<i/\i<2 ^ 64)\/(-(2 ^ 64)<j/\j<2 ^ 64)
theorem wH.ok {i j:Int} (h:wH i j):IntMulOk i j:=by
 rcases h with ⟨h1,h2⟩ | ⟨h1,h2⟩
 ·exact .of_left (intBits_le_64 h1 h2)
 ·exact .of_right (intBits_le_64 h1 h2)
theorem RV:bj X (aaO .Add) (oQ λi j=>.int (i+j)):=Jc λ_ _ _ _ _ _ _ q=>add_int q
theorem RW:bj X (aaO .Sub) (oQ λi j=>.int (i-j)):=Jc λ_ _ _ _ _ _ _ q=>sub_int q
theorem RX:bj X (aaO .Mult) (rI wH λi j=>.int (i*j)):=xm λ_ _ _ _ _ _ _ hc q=>mul_int q hc.ok
theorem P7:bj X (aaO .FloorDiv) (rI Vc λi j=>.int (i / j)):=xm λi j _ _ _ _ _ hc q=>by
 have h1:(0:Int)<j:=hc.1;have h2:j<1073741824:=hc.2;exact floordiv_int (by omega) (by rw[Int.fdiv_eq_ediv_of_nonneg i (by omega)];exact q) (.inl (PyProof.noPylong_small (by omega)))
theorem RY:bj X (aaO .Mod) (rI (λ_ j=>0<j) λi j=>.int (i % j)):=xm λi j _ _ _ _ _ hc q=>by
 have h1:(0:Int)<j:=hc;exact mod_int' (by omega) (by rw[Int.fmod_eq_emod_of_nonneg i (by omega)];exact q)
theorem RZ:bj X (aaO .Pow) (rI Vd λi j=>.int (i ^ j.toNat)):=xm λ_ _ _ _ _ _ _ hc q=>pow_int_small hc.1 hc.2.1 hc.2.2 q
theorem VZ {f:Value->Sem Value} {g:Int->Int}
  (rule:∀(i:Int) (t:Tok) (s:Y4) (Q:Value->Y4->Prop) (E:Value->Y4->Prop),Q (.int (g i) s.toks) { s with toks:=s.toks+1 }->wpAny (model X.prog X.w) X.A (f (.int i t)) Q E s) :
  sW X f (rU λi=>.int (g i)):=by
 intro pins s σ H x v Q I rx h;obtain⟨i,rfl,q⟩:=h;obtain⟨t,rfl⟩:=rx;exact rule i t s _ _ ⟨.int (g i),H,I.tok _,⟨_,rfl⟩,q⟩
theorem G4:sW X (unaryOp .USub) (rU λi=>.int (-i)):=VZ λ_ _ _ _ _ q=>neg_int q
end
noncomputable def AU:V->V->Bool
 | .aA,.aA=>true | .aA,.int _=>true | .int _,.aA=>true | .aA,.bl _=>true | .bl _,.aA=>true | .aA,.str _=>true | .str _,.aA=>true
 | .int _,.int _=>true | .bl _,.bl _=>true | .str _,.str _=>true | .iW _,.iW _=>true
 | .int _,.str _=>true | .str _,.int _=>true | .bl _,.str _=>true | .str _,.bl _=>true
 |_,_=>false
noncomputable def V0:R2:=λx y H Q=>AU x y=true/\Q (.bl (decide (x=y))) H
noncomputable def V1:R2:=λx y H Q=>AU x y=true/\Q (.bl (!decide (x=y))) H
theorem F6 {i j:Int}:decide (V.int i=V.int j)=(i==j):=by
 rw[aaI];simp
theorem G5 {i j:Bool}:decide (V.bl i=V.bl j)=(i==j):=by
 rw[aaI];simp
theorem yX {i j:Str}:decide (V.str i=V.str j)=(i==j):=by
 rw[aaI];simp
theorem F7 {i j:Array UInt8}:decide (V.iW i=V.iW j)=(i.toList==j.toList):=by
 rw[aaI];cases i;cases j;simp
section
variable {X:Cx} {a b c:Expr} {ta tb tc:TE} {pos:Pos}
theorem cK {pins:List (Addr×Obj)} {σ:St} {H:Hp} {s:Y4} {Q:VK} {k k':Bool} (I:Inv X pins σ H s) (q:Q (.bl k) H) (e:k=k'):EP X pins σ Q (.bool k') s:=by
 subst e;exact⟨.bl k,H,I,rfl,q⟩
theorem TR:bj X (aag .Eq) V0:=by
 intro pins s σ H x y v u Q I rx ry h;obtain⟨hs,q⟩:=h
 cases x with
 |aA =>
  cases rx
  cases y with
  |aA=>cases ry;exact PySem.EqNone.eq_none_none (cK I q (by simp))
  |bl j=>cases ry;exact PySem.EqNone.eq_none_bool (cK I q (by simp))
  |int j=>obtain⟨t',rfl⟩:=ry;exact PySem.EqNone.eq_none_int (cK I q (by simp))
  |str j=>obtain⟨t',rfl⟩:=ry;exact PySem.EqNone.eq_none_str (cK I q (by simp))
  |_=>exact absurd (show false=true from hs) Y7
 |bl i =>
  cases rx
  cases y with
  |aA=>cases ry;exact PySem.EqNone.eq_bool_none (cK I q (by simp))
  |bl j=>cases ry;exact eq_bool (cK I q G5)
  |str j=>obtain⟨t',rfl⟩:=ry;exact PySem.EqMixed.eq_bool_str (cK I q (by simp))
  |_=>exact absurd (show false=true from hs) Y7
 |int i =>
  obtain⟨t,rfl⟩:=rx
  cases y with
  |aA=>cases ry;exact PySem.EqNone.eq_int_none (cK I q (by simp))
  |int j=>obtain⟨t',rfl⟩:=ry;exact eq_int (cK I q F6)
  |str j=>obtain⟨t',rfl⟩:=ry;exact PySem.EqMixed.eq_int_str (cK I q (by simp))
  |_=>exact absurd (show false=true from hs) Y7
 |str i =>
  obtain⟨t,rfl⟩:=rx
  cases y with
  |aA=>cases ry;exact PySem.EqNone.eq_str_none (cK I q (by simp))
  |bl j=>cases ry;exact PySem.EqMixed.eq_str_bool (cK I q (by simp))
  |int j=>obtain⟨t',rfl⟩:=ry;exact PySem.EqMixed.eq_str_int (cK I q (by simp))
  |str j=>obtain⟨t',rfl⟩:=ry;exact eq_str (cK I q yX)
  |_=>exact absurd (show false=true from hs) Y7
 |iW i =>
  obtain⟨t,rfl⟩:=rx
  cases y with
  |iW j=>obtain⟨t',rfl⟩:=ry;exact PySem.W.eq_bytes (cK I q F7)
  |_=>exact absurd (show false=true from hs) Y7
 |_=>cases y<;>exact absurd (show false=true from hs) Y7
theorem TU:bj X (aag .NotEq) V1:=by
 intro pins s σ H x y v u Q I rx ry h;obtain⟨hs,q⟩:=h
 cases x with
 |aA =>
  cases rx
  cases y with
  |aA=>cases ry;exact PySem.EqNone.ne_none_none (cK I q (by simp))
  |bl j=>cases ry;exact PySem.EqNone.ne_none_bool (cK I q (by simp))
  |int j=>obtain⟨t',rfl⟩:=ry;exact PySem.EqNone.ne_none_int (cK I q (by simp))
  |str j=>obtain⟨t',rfl⟩:=ry;exact PySem.EqNone.ne_none_str (cK I q (by simp))
  |_=>exact absurd (show false=true from hs) Y7
 |bl i =>
  cases rx
  cases y with
  |aA=>cases ry;exact PySem.EqNone.ne_bool_none (cK I q (by simp))
  |bl j=>cases ry;exact ne_bool (cK I q (congrArg not G5))
  |str j=>obtain⟨t',rfl⟩:=ry;exact PySem.EqMixed.ne_bool_str (cK I q (by simp))
  |_=>exact absurd (show false=true from hs) Y7
 |int i =>
  obtain⟨t,rfl⟩:=rx
  cases y with
  |aA=>cases ry;exact PySem.EqNone.ne_int_none (cK I q (by simp))
  |int j=>obtain⟨t',rfl⟩:=ry;exact ne_int (cK I q (congrArg not F6))
  |str j=>obtain⟨t',rfl⟩:=ry;exact PySem.EqMixed.ne_int_str (cK I q (by simp))
  |_=>exact absurd (show false=true from hs) Y7
 |str i =>
  obtain⟨t,rfl⟩:=rx
  cases y with
  |aA=>cases ry;exact PySem.EqNone.ne_str_none (cK I q (by simp))
  |bl j=>cases ry;exact PySem.EqMixed.ne_str_bool (cK I q (by simp))
  |int j=>obtain⟨t',rfl⟩:=ry;exact PySem.EqMixed.ne_str_int (cK I q (by simp))
  |str j=>obtain⟨t',rfl⟩:=ry;exact ne_str (cK I q (congrArg not yX))
  |_=>exact absurd (show false=true from hs) Y7
 |iW i =>
  obtain⟨t,rfl⟩:=rx
  cases y with
  |iW j=>obtain⟨t',rfl⟩:=ry;exact PySem.W.ne_bytes (cK I q (congrArg not F7))
  |_=>exact absurd (show false=true from hs) Y7
 |_=>cases y<;>exact absurd (show false=true from hs) Y7
theorem TV:bj X (aag .LtE) (oQ λi j=>.bl (decide (i<=j))):=AS λ_ _ _ _ _ _ _ q=>le_int q
theorem TX:bj X (aag .Gt) (oQ λi j=>.bl (decide (j<i))):=AS λ_ _ _ _ _ _ _ q=>gt_int q
theorem TY:bj X (aag .GtE) (oQ λi j=>.bl (decide (j<=i))):=AS λ_ _ _ _ _ _ _ q=>ge_int q
theorem bt (b:Expr) {op:CmpOp} (h:op≠.In:=by decide) (h2:op≠.NotIn:=by decide):acx op b=false:=by
 have e1:(op==CmpOp.In)=false:=by cases op<;>first|rfl|exact absurd rfl h
 have e2:(op==CmpOp.NotIn)=false:=by cases op<;>first|rfl|exact absurd rfl h2
 cases b<;>simp[acx,e1,e2]
theorem P8 {op:CmpOp} {r:R2} (ho:bj X (aag op) r) (ha:PE X a ta) (hb:PE X b tb) (hm:acx op b=false):PE X (.Compare a [op] [b] pos) (sX r ta tb):=by
 intro pins s σ H Q I h;exact wpAny_Compare1 (AR ha hb I h λv u s2 x y H2 I2 rx ry q=>ho pins s2 σ H2 x y v u Q I2 rx ry q) hm
noncomputable def rV (t:TE):TT:=fun σ H Q=>t σ H λx H'=>∃k,x=.bl k/\Q k H'
theorem P9 {op:CmpOp} {r:R2} (ho:bj X (aag op) r) (ha:PE X a ta) (hb:PE X b tb) (hm:acx op b=false):PT X (.Compare a [op] [b] pos) (rV (sX r ta tb)):=by
 intro pins s σ H Q I h;refine wpAny_isTrue_Compare1 (aF (ha pins s σ H _ I h) λv s1 ⟨x,H1,I1,r1,q1⟩=>aF (hb pins s1 σ H1 _ I1 q1) λu s2 ⟨y,H2,I2,r2,q2⟩ =>
  aF (ho pins s2 σ H2 x y v u _ I2 r1 r2 q2) λc s3 ⟨z,H3,I3,r3,k,e,q3⟩=>?_) hm
 subst e;cases r3;exact aaE ⟨H3,I3,q3⟩
noncomputable def zB (r r':R2) (ta tb tc:TE):TE:=fun σ H Q=>ta σ H λx H1=>tb σ H1 λy H2=>r x y H2 λz H3=>∃k,z=.bl k /\
 (if k=true then tc σ H3 λw' H4=>r' y w' H4 Q else Q (.bl false) H3)
theorem Om {op iY:CmpOp} {r r':R2} (ho:bj X (aag op) r) (cP:bj X (aag iY) r') (ha:PE X a ta) (hb:PE X b tb) (hc:PE X c tc)
  (hm:lastMarks [op,iY] [b,c]=false:=by with_unfolding_all rfl):PE X (.Compare a [op,iY] [b,c] pos) (zB r r' ta tb tc):=by
 intro pins s σ H Q I h;refine Compare_chain (aF (ha pins s σ H _ I h) λv s1 ⟨x,H1,I1,r1,q1⟩=>chain_link (aF (hb pins s1 σ H1 _ I1 q1) λu s2 ⟨y,H2,I2,r2,q2⟩ =>
  aF (ho pins s2 σ H2 x y v u _ I2 r1 r2 q2) λd s3 ⟨z,H3,I3,r3,k,e,q3⟩=>?_)) hm
 subst e;cases r3;refine aaE ?_
 cases k with
 |false=>exact ite_ff ⟨.bl false,H3,I3,rfl,q3⟩
 |true=>exact ite_tt (chain_last (aF (hc pins s3 σ H3 _ I3 q3) λw' s4 ⟨z',H4,I4,r4,q4⟩=>cP pins s4 σ H4 y z' u w' Q I4 r2 r4 q4))
theorem Oo {op iY:CmpOp} {r r':R2} (ho:bj X (aag op) r) (cP:bj X (aag iY) r') (ha:PE X a ta) (hb:PE X b tb) (hc:PE X c tc)
  (hm:lastMarks [op,iY] [b,c]=false:=by with_unfolding_all rfl):PT X (.Compare a [op,iY] [b,c] pos) (rV (zB r r' ta tb tc)):=by
 intro pins s σ H Q I h;refine isTrue_chain (aF (ha pins s σ H _ I h) λv s1 ⟨x,H1,I1,r1,q1⟩=>test_link (aF (hb pins s1 σ H1 _ I1 q1) λu s2 ⟨y,H2,I2,r2,q2⟩ =>
  aF (ho pins s2 σ H2 x y v u _ I2 r1 r2 q2) λd s3 ⟨z,H3,I3,r3,k,e,q3⟩=>?_)) hm
 subst e;cases r3;refine aaE ?_
 cases k with
 |false =>
  obtain⟨k',e',q'⟩:=q3;cases e';exact ite_ff ⟨H3,I3,q'⟩
 |true =>
  refine ite_tt (test_last (aF (hc pins s3 σ H3 _ I3 q3) λw' s4 ⟨z',H4,I4,r4,q4⟩=>aF (cP pins s4 σ H4 y z' u w' _ I4 r2 r4 q4) λd' s5 ⟨z2,H5,I5,r5,k2,e2,q5⟩=>?_));subst e2;cases r5;exact aaE ⟨H5,I5,q5⟩
def oy (K:Frag) (x:V) (H:Hp) (k:Bool):Prop :=
 match x with
 | .aA=>k=false
 | .bl b=>k=b
 | .int i=>k=(i != 0)
 | .str y=>y.length<=Zf/\k=((y.length:Int) != 0)
 | .iW y=>y.size<=Zf/\k=((y.size:Int) != 0)
 | .ref p=>(∃xs,bQ K H p xs/\k=!xs.isEmpty)\/(∃xs,aS K H p xs/\k=!xs.isEmpty)\/∃ao,H p=some (.dK ao)/\k=!ao.isEmpty
 |_=>False
theorem Mc {κ:Type} {ao:List (κ×V)} {vs:List (κ×Value)} (r:KV ao vs):(!vs.isEmpty)=!ao.isEmpty:=by
 cases r<;>rfl
theorem Ej {xs:List V} {its:List Value} (r:Vals xs its):(!its.toArray.isEmpty)=!xs.isEmpty:=by
 cases r<;>simp
theorem nX:(Zf:Nat)<2 ^ 63:=by rw[abB];decide
theorem G6:Vb X (λx H Q=>∃k,oy X.K x H k/\Q k H):=by
 intro pins s σ H x v Q I rx h;obtain⟨k,e,q⟩:=h;have hl:=nX;have hs:Zf=16777216:=abB
 cases x with
 |aA =>
  cases rx;have e':k=false:=e;subst e';exact truthy_none ⟨H,I,q⟩
 |bl b =>
  cases rx;have e':k=b:=e;subst e';exact aaE ⟨H,I,q⟩
 |int i =>
  obtain⟨t,rfl⟩:=rx;have e':k=(i != 0):=e;subst e';exact PySem.P.truthy_int ⟨H,I,q⟩
 |str y =>
  obtain⟨t,rfl⟩:=rx;obtain⟨hy,e'⟩:y.length<=Zf/\k=((y.length:Int) != 0):=e;subst e';exact PySem.P.truthy_str (by omega) ⟨H,I.tok _,q⟩
 |iW y =>
  obtain⟨t,rfl⟩:=rx;obtain⟨hy,e'⟩:y.size<=Zf/\k=((y.size:Int) != 0):=e;subst e';exact PySem.W.truthy_bytes (by omega) ⟨H,I.tok _,q⟩
 |ref p =>
  cases rx;have e':(∃xs,bQ X.K H p xs/\k=!xs.isEmpty)\/(∃xs,aS X.K H p xs/\k=!xs.isEmpty)\/∃ao,H p=some (.dK ao)/\k=!ao.isEmpty:=e
  rcases e' with ⟨xs,hx,e'⟩ | ⟨xs,hx,e'⟩ | ⟨ao,hx,e'⟩
  ·subst e'
   obtain⟨its,r,pl,hz⟩:=I.list hx;have hlen:=r.length;exact wpAny_truthy_list pl.isList (by simp only[Zg];omega) ⟨H,I.tok _,by rw[Ej r];exact q⟩
  ·subst e'
   obtain⟨its,r,pl,hz⟩:=I.tuple hx;have hlen:=r.length;exact truthy_tuple pl (by simp only[Zg];omega) ⟨H,I.tok _,by rw[Ej r];exact q⟩
  ·subst e'
   obtain⟨hz,hS,vs,r,m⟩:ao.length<=Zf/\(p==aaJ)=false/\∃vs,KV ao vs/\s.heap.DictOf (jd X.prog X.w) p vs:=I.aG p _ hx;have hlen:ao.length=vs.length:=Paired.length r;exact wpAny_truthy_dict hS m (by omega) ⟨H,I.tok _,by rw[Mc r];exact q⟩
 |_=>exact(show False from e).elim
theorem Oq (ha:PE X a ta) (he:∀whole,isTrue a X.env whole=(do let v <- whole;acL a.pos;abz [v] (truthy v))) :
  PT X a (fun σ H Q=>ta σ H λx H'=>∃k,oy X.K x H' k/\Q k H'):=by
 intro pins s σ H Q I h;exact isTrue_plain (aF (ha pins s σ H _ I h) λv s1 ⟨x,H1,I1,r1,q1⟩=>G6 pins s1 σ H1 x v Q I1 r1 q1) (he _)
theorem Md:bj X (aaO .Add) (λx y H Q=>∃i j,x=.str i/\y=.str j/\i.length+j.length<=Zf/\Q (.str (i++j)) H):=by
 intro pins s σ H x y v u Q I rx ry h;obtain⟨i,j,rfl,rfl,hz,q⟩:=h;obtain⟨t,rfl⟩:=rx;obtain⟨t',rfl⟩:=ry;exact add_str (λt' tk=>⟨.str (i++j),H,I.tok _,⟨_,rfl⟩,q⟩) hz
theorem vals1 {x:V} {us:List Value} (r:Vals [x] us):∃u,us=[u]/\RelV x u:=by
 cases r with
 |cons r1 r2=>cases r2;exact⟨_,rfl,r1⟩
theorem vals2 {x y:V} {us:List Value} (r:Vals [x,y] us):∃u w',us=[u,w']/\RelV x u/\RelV y w':=by
 cases r with
 |cons r1 r2 =>
  cases r2 with
  |cons r3 r4=>cases r4;exact⟨_,_,rfl,r1,r3⟩
theorem Nb (hc:X.calm=true):cf X (.builtin "max") (λxs H Q=>∃i j,xs=[.int i,.int j]/\Q (.int (if j > i then j else i)) H):=by
 intro pins s σ H xs us Q I r h;obtain⟨i,j,rfl,q⟩:=h;obtain⟨u,w',rfl,⟨t,rfl⟩,⟨t',rfl⟩⟩:=vals2 r;refine max_two_ints (I.ok.hd hc) λh' tk k=>⟨_,H,I.kept k,?_,q⟩;by_cases hj:j > i
 ·rw[if_pos hj,if_pos hj];exact⟨_,rfl⟩
 ·rw[if_neg hj,if_neg hj];exact⟨_,rfl⟩
theorem Nc (hc:X.calm=true):cf X (.builtin "min") (λxs H Q=>∃i j,xs=[.int i,.int j]/\Q (.int (if j<i then j else i)) H):=by
 intro pins s σ H xs us Q I r h;obtain⟨i,j,rfl,q⟩:=h;obtain⟨u,w',rfl,⟨t,rfl⟩,⟨t',rfl⟩⟩:=vals2 r;refine min_two_ints (I.ok.hd hc) λh' tk k=>⟨_,H,I.kept k,?_,q⟩;by_cases hj:j<i
 ·rw[if_pos hj,if_pos hj];exact⟨_,rfl⟩
 ·rw[if_neg hj,if_neg hj];exact⟨_,rfl⟩
end
end L2
namespace L2
open PySem PySem.Spec PyProof.Rows
structure Yv (h:Heap) (x dx C:Addr) (mA:Str->Option Value):Prop where
 obj:h.get? x=some (PySem.W.instObj C dx)
 ns:h.Ns1 dx mA
 ne:dx≠x
section
variable {prog:ZE} {w:World} {A:ZX} {E:Value->Y4->Prop} {s:Y4} {K:Frag} {x dx C f:Addr} {mA:Str->Option Value} {name:Str} {v:Value}
end
section
variable {P:ZE} {w:World} {H H':Hp} {h h':Heap} {a C dx:Addr} {fs VU:List (Str×V)}
end
structure V2 (K:Frag) (C:Addr):Prop where
 pg:PySem.W.plainGet K C Str.empty=true
 hd:PySem.W.hasDictIn K C=true
 po:PySem.W.plainOver K C=true
 sa:acW K (.ref C) "__setattr__"=some (some (.builtin "object.__setattr__"))
structure YD (K:Frag) (C:Addr) (f:Str) (v:V) (u:Value):Prop where
 at_:acW K (.ref C) f=some (some u)
 rel:RelV v u
 get:PySem.W.specialIn K u "__get__"=some none
 cp:PySem.W.copiedNames.contains f=false
structure Meth (K:Frag) (C:Addr) (m:Str) (f:Addr):Prop where
 at_:acW K (.ref C) m=some (some (.ref f))
 fn:PySem.W.isFn K (.ref f)=true
 kp:abp K (.ref f)=true
section
variable {X:Cx} {pins:List (Addr×Obj)} {σ:St} {H:Hp} {s:Y4} {a C dx:Addr} {fs:List (Str×V)} {f:Str} {v:V} {A:ZX} {E:Value->Y4->Prop}
end
section
variable {X:Cx} {o e value:Expr} {f:Str} {pos pos' wI:Pos} {ta tv:TE}
end
section
variable {X:Cx} {pins:List (Addr×Obj)} {σ:St} {H:Hp} {s:Y4} {A:ZX} {E:Value->Y4->Prop} {Q:Value->Y4->Prop} {c:Value} {b:Bool}
inductive jM (K:Frag) (H:Hp):V->Value->Prop where
 |aA:jM K H .aA (.type "NoneType")
 |bl (x:Bool):jM K H (.bl x) (.type "bool")
 |int (i:Int):jM K H (.int i) (.type "int")
 |str (x:Str):jM K H (.str x) (.type "str")
 |sG (x:UInt64):jM K H (.sG x) (.type "float")
 |lst {a:Addr} {xs:List V} (e:H a=some (.lst xs)):jM K H (.ref a) (.type "list")
 |cE {a:Addr} {o:Obj} {xs:List V} (e:H a=some (.cE o (.lst xs))):jM K H (.ref a) (.type "list")
 |tup {a:Addr} {xs:List V} (e:H a=some (.tup xs)):jM K H (.ref a) (.type "tuple")
 |dK {a:Addr} {ao:List (Key×V)} (e:H a=some (.dK ao)):jM K H (.ref a) (.type "dict")
 |dT {a:Addr} {ao:List (List Key×V)} (e:H a=some (.dT ao)):jM K H (.ref a) (.type "dict")
 |ins {a C dx:Addr} {fs:List (Str×V)} (e:H a=some (.ins C dx fs)) (cl:V2 K C) (ha:acW K (.ref C) "__class__"=some (some (.builtin "object.__class__")))
   (hn:PySem.W.specialIn K (.builtin "object.__class__") "__get__"=some (some (.builtin "getset_descriptor.__get__"))) (JD:PySem.W.takesIn K (.builtin "object.__class__")=some true)
   (hm:PySem.W.mroIn K C (.type "object")=some true):jM K H (.ref a) (.ref C)
end
end L2
namespace L2
open PySem PySem.Spec PyProof.Rows
structure cM (k:Nat) (A:ZX):Prop where
 hd:A.handled=none
 dp:A.depth+3*k+5<recursionLimit
 un:A.units+16*k+200<cLine
 gd:A.guards=some []
theorem cM.mono {j k:Nat} {A:ZX} (r:cM k A) (h:j<=k):cM j A:=⟨r.hd,by have:=r.dp;omega,by have:=r.un;omega,r.gd⟩
theorem cM.deeper {k:Nat} {A:ZX} (r:cM (k+1) A) (env:Env):cM k (A.deeper env) :=
 ⟨r.hd,by have:=r.dp;show A.depth+1+3*k+5 < _;omega,by have:=r.un;show A.units+3+16*k+200 < _;omega,r.gd⟩
theorem cM.depth {k:Nat} {A:ZX} (r:cM k A):A.depth<recursionLimit:=by have:=r.dp;omega
noncomputable def Ve:TA:=λ_ H Q=>Q [] H
noncomputable def TZ (ta:TE) (tr:TA):TA:=fun σ H Q=>ta σ H λx H1=>tr σ H1 λxs H2=>Q (x::xs) H2
section
variable {X:Cx} {e:Expr} {es:List Expr} {te:TE} {t:TA} {pos:Pos}
theorem lr:PA X [] Ve:=λ_ _ _ _ H Q I h=>Calls.spliced_nil ⟨[],H,I,.nil,h⟩
theorem jC (ha:PE X e te) (hr:PA X es t) (hs:Zp (e::es) X.env=(false,eval e X.env)::Zp es X.env:=by rfl):PA X (e::es) (TZ te t):=by
 intro pos pins s σ H Q I h;rw[hs];show wpAny _ _ (spliced ((false,eval e X.env)::ab5 pos (Zp es X.env))) _ _ s;refine Calls.spliced_cons (aF (ha pins s σ H _ I h) λu s1 ⟨x,H1,I1,r1,q1⟩=>?_);exact aF (hr pos pins s1 σ H1 _ I1 q1) λus s2 ⟨xs,H2,I2,r2,q2⟩=>⟨x::xs,H2,I2,.cons r1 r2,q2⟩
noncomputable def Vf (t:TA):TE:=fun σ H Q=>t σ H λxs H1=>xs.length<=Zf/\∀p,H1 p=none->Q (.ref p) (upd H1 p (.tup xs))
noncomputable def Vg (t:TA):TE:=fun σ H Q=>t σ H λxs H1=>xs.length<=Zf/\∀p,H1 p=none->Q (.ref p) (upd H1 p (.lst xs))
theorem G7 {x1} (h:PA X es t):PE X (.Tuple es x1 pos) (Vf t):=by
 intro pins s σ H Q I hq;refine wpAny_Tuple_spliced (aF (h pos pins s σ H _ I hq) λus s1 ⟨xs,H1,I1,r,z,q⟩=>⟨by rw[<- r.length];exact z,?_⟩);have hf:H1 s1.heap.objs.size=none:=I1.aG.fresh (Nat.le_refl _);refine⟨.ref s1.heap.objs.size,upd H1 s1.heap.objs.size (.tup xs),I1.laid (t':=s1.toks) (λb u e=>YY _ e) (Nat.le_refl _) ?_,rfl,q _ hf⟩;exact⟨z,us,r,⟨_,Y6 _ rfl,rfl,_,rfl⟩⟩
theorem G8 (h:PA X es t):PE X (.List es pos) (Vg t):=by
 intro pins s σ H Q I hq;refine wpAny_List_spliced (aF (h pos pins s σ H _ I hq) λus s1 ⟨xs,H1,I1,r,z,q⟩=>⟨by rw[<- r.length];exact z,?_⟩);have hf:H1 s1.heap.objs.size=none:=I1.aG.fresh (Nat.le_refl _);refine⟨.ref s1.heap.objs.size,upd H1 s1.heap.objs.size (.lst xs),I1.laid (t':=s1.toks) (λb u e=>YY _ e) (Nat.le_refl _) ?_,rfl,q _ hf⟩;exact⟨z,us,0,r,Y6 _ rfl⟩
end
noncomputable abbrev Sp:=List V->Hp->VK->XK->Prop
noncomputable abbrev js:=List Env->Hp->Y4->XK->Value->Y4->Prop
structure wJ (P:ZE) (w:World) (K:Frag) (mg:Str->Option Value) (base:Heap) (A:ZX) (outer:List Env) (s:Y4) (H:Hp):Prop where
 frames:A.frames=some outer
 mod:Mod K mg base
 bs:∀b o,base.get? b=some o->s.heap.get? b=some o/\H b=none
 jY:base.objs.size<=s.heap.objs.size
 jL:s.heap.FunFrames base outer
 qE:∀b∈gM outer,H b=none
 aG:cm P w H s.heap
 bare:AllBare s.gens
def CE (outer:List Env) (P:ZE) (w:World) (H:Hp) (s:Y4) (Q:VK) (u:Value) (s':Y4):Prop :=
 ∃v H',s'.os=s.os/\AllBare s'.gens/\Un (gM outer) [] H H' s.heap s'.heap/\cm P w H' s'.heap/\RelV v u/\Q v H'
def CR (CX:js) (outer:List Env) (P:ZE) (w:World) (H:Hp) (s:Y4) (Q:VK) (E:XK) (r:Result) (s':Y4):Prop :=
 match r with
 | .ok (.ret u)=>CE outer P w H s Q u s'
 | .ok _=>False
 | .error e=>CX outer H s E e s'
structure aV (P:ZE) (w:World) (K:Frag) (mg:Str->Option Value) (base:Heap) (CX:js) (k:Nat) (f:Addr) (fd:ZA) (ps:List Str) (sp:Sp):Prop where
 len:∀vs H Q E,sp vs H Q E->vs.length=ps.length
 run:∀(A:ZX) (outer:List Env) (s:Y4) (H:Hp) (args:Args) (us:List Value) (vs:List V) (Q:VK) (E:XK),cM k A->wJ P w K mg base A outer s H->BindsTo s fd args (ps.zip us)->Vals vs us->sp vs H Q E ->
  adk (model P w) A (.call (.ref f) args) (CR CX outer P w H s Q E) s
theorem aV.imp {P:ZE} {w:World} {K:Frag} {mg:Str->Option Value} {base:Heap} {CX:js} {k:Nat} {f:Addr} {fd:ZA} {ps:List Str} {sp JE:Sp} (F:aV P w K mg base CX k f fd ps sp)
  (h:∀vs H Q E,JE vs H Q E->sp vs H Q E):aV P w K mg base CX k f fd ps JE :=
 ⟨λvs H Q E q=>F.len vs H Q E (h _ _ _ _ q),λA outer s H args us vs Q E hr he hb hv hs=>F.run A outer s H args us vs Q E hr he hb hv (h _ _ _ _ hs)⟩
section
variable {X:Cx} {pins:List (Addr×Obj)} {σ:St} {H:Hp} {s s':Y4}
theorem Inv.oz (I:Inv X pins σ H s):wJ X.prog X.w X.K X.mg X.base X.A X.stack s H :=
 ⟨I.ok.frames,I.ok.mod,I.bs,Zo I.ok.jY I.sz,I.stack,I.yV,I.aG,I.bare⟩
theorem Inv.after {Q:VK} {u:Value} (I:Inv X pins σ H s) (h:CE X.stack X.prog X.w H s Q u s'):EP X pins σ Q u s':=by
 obtain⟨v,H',os,bare,un,aG,r,q⟩:=h;obtain⟨hh,g,d,t,sY⟩:=s';obtain rfl:sY=s.os:=os;exact⟨v,H',I.call (h':=hh) (g':=g) (d':=d) (t':=t) (ch:=[]) un aG bare (λb z=>absurd z (by simp)),r,q⟩
end
noncomputable def T4 (sp:Sp) (ar:List V) (E:XK) (t:TA):TE:=fun σ H Q=>t σ H λvs H1=>sp (vs++ar) H1 Q E
def Binds (K:Frag) (fd:ZA) (ps:List Str) (ds:List Value):Prop :=
 ∀(s:Y4) (us:List Value),K.In s.heap->(us++ds).length=ps.length->BindsTo s fd ⟨us,[]⟩ (ps.zip (us++ds))
theorem Binds.all {K:Frag} {fd:ZA} {ps:List Str} (h:∀us:List Value,us.length=ps.length->bindArgs fd ⟨us,[]⟩=pure (ps.zip us)):Binds K fd ps []:=λs us _ hl=>by
 rw[aa8] at hl |-;exact .of_eq (h us hl)
def Passes (CX:js) (X:Cx) (E:XK):Prop:=∀(pins:List (Addr×Obj)) (σ:St) (H:Hp) (s:Y4) (e:Value) (s':Y4),Inv X pins σ H s->CX X.stack H s E e s'->X.xe e s'
section
variable {X:Cx} {CX:js} {k:Nat} {f C:Addr} {fd:ZA} {ps:List Str} {sp:Sp} {ar:List V} {ds:List Value} {E:XK} {x m:Str} {p pos apos:Pos} {e o:Expr} {es:List Expr} {ta:TE} {t:TA}
theorem R1 {pins:List (Addr×Obj)} {σ:St} {H:Hp} {s:Y4} {Q:VK} {us:List Value} {vs:List V} (F:aV X.prog X.w X.K X.mg X.base CX k f fd ps sp) (hr:cM k X.A) (hb:Binds X.K fd ps ds) (hd:Vals ar ds) (hx:Passes CX X E)
  (I:Inv X pins σ H s) (r:Vals vs us) (h:sp (vs++ar) H Q E):wpAny (model X.prog X.w) X.A (call (.ref f) us) (EP X pins σ Q) X.xe s:=by
 have r2:Vals (vs++ar) (us++ds):=r.append hd;have hl:(us++ds).length=ps.length:=by rw[<- r2.length];exact F.len _ _ _ _ h
 refine wpAny_call (aa3 (F.run X.A X.stack s H ⟨us,[]⟩ (us++ds) (vs++ar) Q E hr I.oz (hb s us I.qF hl) r2 h) λr s' hq=>?_)
 cases r with
 |error e=>exact hx pins σ H s e s' I hq
 |ok fl =>
  cases fl with
  |ret u=>exact I.after hq
  |next=>exact abU hq
  |brk=>exact abU hq
  |cont=>exact abU hq
theorem Qa (F:aV X.prog X.w X.K X.mg X.base CX k f fd ps sp) (hr:cM k X.A) (hg:Gl X x) (hm:X.mg x=some (.ref f)) (hk:abp X.K (.ref f)=true) (hb:Binds X.K fd ps ds) (hd:Vals ar ds) (hx:Passes CX X E)
  (ha:PA X (e::es) t) (j4:(x==("__debug__":Str))=false:=by decide) (he:Zp (e::es) X.env=(false,eval e X.env)::Zp es X.env:=by rfl) (cZ:(ab5 pos (Zp es X.env)).any (·.1)=false:=by rfl) :
  PE X (.Call (.Name x p) (e::es) [] pos) (T4 sp ar E t):=by
 intro pins s σ H Q I h;refine wpAny_Call_Name_kw (F5 I hg hm ?_ j4);refine PySem.W.callWith_K (h₀:=X.base) I.ok.mod.xh hk (aF (ha pos pins s σ H _ I h) λus s1 ⟨vs,H1,I1,r,q⟩=>⟨I1.qF,?_⟩) he cZ;exact R1 F hr hb hd hx I1 r q
structure Mk (K:Frag) (C f:Addr):Prop where
 makes:PySem.W.makesIn K C=true
 init:acW K (.ref C) "__init__"=some (some (.ref f))
 fn:PySem.W.isFn K (.ref f)=true
 kp:abp K (.ref C)=true
end
section
variable {X:Cx} {CX:js} {k:Nat} {f C:Addr} {fd:ZA} {ps ks:List Str} {sp:Sp} {E:XK} {x m:Str} {p pos apos Vh:Pos} {e o:Expr} {es:List Expr} {YE:List Keyword} {te ta:TE} {t tk:TA} {nm:Option Str}
structure Yu (K:Frag) (fd:ZA) (ps ks:List Str) (g:List Value->List Value->List Value) (gV:List V->List V->List V):Prop where
 to:∀(s:Y4) (us ws:List Value),K.In s.heap->(g us ws).length=ps.length->BindsTo s fd ⟨us,ks.zip ws⟩ (ps.zip (g us ws))
 rel:∀{vs:List V} {us:List Value} {zs:List V} {ws:List Value},Vals vs us->Vals zs ws->Vals (gV vs zs) (g us ws)
variable {g:List Value->List Value->List Value} {gV:List V->List V->List V}
end
structure bz (N P:List Str) (sc:Scope):Prop where
 kind:sc.kind=.function
 co:sc.isCoroutine=false
 gen:sc.isGenerator=false
 nd:N.Nodup
 pre:N.take P.length=P
 par:∀x∈P,sc.names.lookup x=some .local\/sc.names.lookup x=some .cell
 R3:∀y∈sc.names,y.2≠.free
theorem EH {kindOf:Str->Option abV} {x:Str}:∀{binds:List (Str×Value)} {m:Str->Option Value},(∀v,(x,v)∉binds)->bindL kindOf binds m x=m x
 | [],_,_=>rfl
 |(n,v)::r,m,h=>by
  unfold bindL;rw[EH λw hw=>h w (Zd _ hw)];split
  ·have:x≠n:=by rintro rfl;exact h v Zb
   simp[this]
  ·rfl
theorem EI {kindOf:Str->Option abV} {x:Str}:∀{binds:List (Str×Value)} {m:Str->Option Value},(∀v,(x,v)∉binds)->bindC kindOf binds m x=m x
 | [],_,_=>rfl
 |(n,v)::r,m,h=>by
  unfold bindC;rw[EI λw hw=>h w (Zd _ hw)];split
  ·rfl
  ·have:x≠n:=by rintro rfl;exact h v Zb
   simp[this]
theorem EJ {kindOf:Str->Option abV} {x:Str} {v:Value}:∀{P:List Str} {vs:List Value} {i:Nat} {m:Str->Option Value},P.Nodup->P[i]?=some x->vs[i]?=some v->kindOf x=some .local ->
  bindL kindOf (P.zip vs) m x=some v
 | [],_,_,_,_,h,_,_=>by simp at h
 |_::_,[],_,_,_,_,h,_=>by simp at h
 |p::P,w::vs,0,m,nd,h1,h2,hk=>by
  simp at h1 h2;subst h1;subst h2;show bindL kindOf ((p,w)::P.zip vs) m p=_;unfold bindL;rw[EH λv hv=>(abN.mp nd).1 (List.of_mem_zip hv).1,if_pos hk];simp
 |p::P,w::vs,i+1,m,nd,h1,h2,hk=>by
  show bindL kindOf ((p,w)::P.zip vs) m x=_;unfold bindL;exact EJ (i:=i) (abN.mp nd).2 (by simpa using h1) (by simpa using h2) hk
theorem EK {kindOf:Str->Option abV} {x:Str} {v:Value}:∀{P:List Str} {vs:List Value} {i:Nat} {m:Str->Option Value},P.Nodup->P[i]?=some x->vs[i]?=some v->kindOf x≠some .local ->
  bindC kindOf (P.zip vs) m x=some v
 | [],_,_,_,_,h,_,_=>by simp at h
 |_::_,[],_,_,_,_,h,_=>by simp at h
 |p::P,w::vs,0,m,nd,h1,h2,hk=>by
  simp at h1 h2;subst h1;subst h2;show bindC kindOf ((p,w)::P.zip vs) m p=_;unfold bindC;rw[EI λv hv=>(abN.mp nd).1 (List.of_mem_zip hv).1,if_neg hk];simp
 |p::P,w::vs,i+1,m,nd,h1,h2,hk=>by
  show bindC kindOf ((p,w)::P.zip vs) m x=_;unfold bindC;exact EK (i:=i) (abN.mp nd).2 (by simpa using h1) (by simpa using h2) hk
noncomputable def start (N:List Str) (vs:List V):St:=vs.map some++Za (N.length-vs.length) none
noncomputable def oA (CX:js) (P:ZE) (w:World) (K:Frag) (mg:Str->Option Value) (base:Heap) (N:List Str) (qual:Str) (scope:Scope) (f:Addr) (cd:Value) (A:ZX) (outer:List Env) (s:Y4) (H:Hp) (E:XK):Cx where
 prog:=P
 w:=w
 K:=K
 mg:=mg
 base:=base
 A:=A.deeper (envOfC qual scope s.heap.objs.size f cd)
 N:=N
 dC:=s
 sj:=H
 env:=envOfC qual scope s.heap.objs.size f cd
 outer:=outer
 stack:=envOfC qual scope s.heap.objs.size f cd::outer
 ex:=[]
 calm:=true
 fn:=λ_=>true
 pn:=[]
 xe:=λe s'=>wpAny (model P w) (A.deeper (envOfC qual scope s.heap.objs.size f cd)) (leaving (envOfC qual scope s.heap.objs.size f cd) e) (λ_ sZ=>CX outer H s E e sZ) (λe' sZ=>CX outer H s E e' sZ) s'
theorem Fi {sc:Scope} {n:Nat} {x:Str} (h:sc.names.lookup x=some .cell):∃c,(ab7 n sc.names []).lookup x=some c:=by
 have q:=acI sc.names n [] (.inl h);exact Option.isSome_iff_exists.mp q
theorem Nd {CX:js} {P:ZE} {w:World} {K:Frag} {mg:Str->Option Value} {base:Heap} {N ps:List Str} {qual:Str} {scope:Scope} {f:Addr} {cd:Value} {A:ZX} {outer:List Env} {s s1:Y4} {H:Hp} {E:XK} {us:List Value} {vs:List V}
  (S:bz N ps scope) (hd:A.handled=none) (e0:wJ P w K mg base A outer s H) (hl:vs.length=ps.length) (r:Vals vs us)
  (x:InCallC s s.heap.objs.size (bindL (envOfC qual scope s.heap.objs.size f cd).kindOf (ps.zip us) λ_=>none) (ab7 (s.heap.objs.size+1) scope.names []) (bindC (envOfC qual scope s.heap.objs.size f cd).kindOf (ps.zip us) λ_=>none) s1) :
  Inv (oA CX P w K mg base N qual scope f cd A outer s H E) [] (start N vs) H s1:=by
 have cZ:ps.length<=N.length:=by have:=congrArg List.length S.pre;rw[acf] at this;omega
 obtain⟨h1,tk,rfl,hk⟩:=x.done;have tj:∀b:Addr,b∉(oA CX P w K mg base N qual scope f cd A outer s H E).ex:=λb z=>absurd (show b∈([]:List Addr) from z) (by simp);refine⟨⟨e0.mod,S.kind,rfl,rfl,Nat.le_refl _,λy z c h1 h2=>?_,λy hy=>?_,λy c _ h=>?_,λ_=>hd,Around.frames_deeper e0.frames,.inr ⟨rfl,rfl⟩,λb z=>absurd z (tj b),e0.bs,e0.jY,λb _ _=>tj b,λb z=>absurd z (tj b),e0.jL,e0.qE⟩,
  rfl,e0.bare,Un.kept hk,⟨_,x.toInCall.ns,λi y v h1 h2 h3=>?_⟩,λy c h=>⟨_,x.cell y c h⟩,e0.aG.fresh (Nat.le_refl _),λy c h=>?_,λp hp=>absurd (show p∈([]:List (Addr×Obj)) from hp) (by simp),e0.aG.kept hk,?_⟩
 ·exact name_of_addr x.apart (abC h1) (abC h2)
 ·have hy:scope.names.lookup y=some .cell\/scope.names.lookup y=some .free:=hy
  rcases hy with hy|hy
  ·exact Fi hy
  ·exact absurd rfl (S.R3 _ (abC hy))
 ·exact Nat.le_of_lt (x.above y c (abC h))
 ·have hi:i<vs.length:=by
   unfold start at h2;by_cases hi:i<vs.length
   ·exact hi
   ·rw[ZK (by simpa using hi)] at h2
    rw[aaq] at h2
    split at h2<;>cases h2
  have ha:vs[i]?=some v:=by
   unfold start at h2;rw[Zm (by simpa using hi),Zj] at h2
   cases e:vs[i]? with
   |none=>rw[e] at h2;cases h2
   |some a=>rw[e] at h2;cases h2;rfl
  obtain⟨u,hu,rv⟩:=r.get ha;have hp:ps[i]?=some y:=by
   rw[<- S.pre,List.getElem?_take_of_lt (by omega)];exact h1
  have JF:ps.Nodup:=by rw[<- S.pre];exact S.nd.sublist (List.take_sublist _ _)
  refine⟨u,rv,?_⟩
  rcases S.par y (aaK hp) with k|k
  ·exact .inl ⟨k,EJ JF hp hu k⟩
  ·obtain⟨c,e⟩:=Fi (n:=s.heap.objs.size+1) k
   refine .inr ⟨.inl k,c,e,?_⟩;have q:=x.cell y c e;rw[EK JF hp hu (by show scope.names.lookup y≠_;rw[k];decide)] at q;exact q
 ·exact e0.aG.fresh (Nat.le_of_lt (x.above y c (abC h)))
 ·unfold start
  show _=N.length;rw[Zx,Y1,abO];omega
theorem T5 {CX:js} {P:ZE} {w:World} {K:Frag} {mg:Str->Option Value} {base:Heap} {k:Nat} {f:Addr} {name qual:Str} {params:Arguments} {body:List Stmt} {scope:Scope} {dV kV doc pm bg ct oc:Value} {an od:Option Addr}
  {mW:Array (Option Value)} {N ps:List Str} {sp:Sp} (lk:K.lookup f=some ⟨oc,od,.func (aby name qual params body scope dV kV doc pm an bg ct),mW⟩) (jZ:acX K bg qual=true) (S:bz N ps scope)
  (len:∀vs H Q E,sp vs H Q E->vs.length=ps.length)
  (Ah:∀(A:ZX) (outer:List Env) (s:Y4) (H:Hp) (vs:List V) (Q:VK) (E:XK),cM k (A.deeper (envOfC qual scope s.heap.objs.size f bg))->sp vs H Q E ->
   ∃t,eD (oA CX P w K mg base N qual scope f bg A outer s H E) body t/\t { nx:=λ_ H'=>Q .aA H',rt:=Q } (start N vs) H) :
  aV P w K mg base CX (k+1) f (aby name qual params body scope dV kV doc pm an bg ct) ps sp:=by
 refine⟨len,λA outer s H args us vs Q E hr e0 hb r mY=>?_⟩;have hl:=len _ _ _ _ mY;have KX:K.In s.heap:=e0.mod.xh.keeps λb o e=>(e0.bs b o e).1;have lim:s.heap.NoLimit:=e0.mod.nolimit.keeps λb o e=>(e0.bs b o e).1;have T6:∀y∈ps.zip us,scope.names.lookup y.1=some .local\/(scope.names.lookup y.1=some .cell/\((ab7 (s.heap.objs.size+1) scope.names []).lookup y.1).isSome=true):=λ⟨n,v⟩ hy=>by
  rcases S.par n (List.of_mem_zip hy).1 with q|q
  ·exact .inl q
  ·exact .inr ⟨q,acI _ _ _ (.inl q)⟩
 refine codeAny_call_function hr.depth (KX _ _ lk) rfl S.co S.gen rfl (PySem.W.codeRec_of KX jZ) (hb _ _ _ _ ?_);refine wpAny_newFunctionEnv_cells S.kind T6 λenv he s1 x=>?_;subst he;refine⟨lim.keeps x.toInCall.keep,codeAny_func ?_⟩;obtain⟨t,ht,hq⟩:=Ah A outer s H vs Q E (hr.deeper _) mY;have I:Inv (oA CX P w K mg base N qual scope f bg A outer s H E) [] (start N vs) H s1:=Nd S hr.hd e0 hl r x;refine aaQ (ht [] s1 (start N vs) H _ I hq) (λfl s' hs=>?_) λe s' hs=>hs;have fin:∀{bb:St} {H':Hp} {v:V} {u:Value},Inv (oA CX P w K mg base N qual scope f bg A outer s H E) [] bb H' s'->RelV v u->Q v H'->CE outer P w H s Q u s' :=
  λ{bb H' v u} J rv q=>⟨v,H',J.os,J.bare,J.base,J.aG,rv,q⟩
 cases fl with
 |ret u =>
  obtain⟨v,bb,H',J,rv,q⟩:=hs;exact fin J rv q
 |next =>
  obtain⟨bb,H',J,q⟩:=hs;exact fin (v:=V.aA) (u:=Value.none) J rfl q
 |brk =>
  obtain⟨_,_,_,q⟩:=hs;exact abU q
 |cont =>
  obtain⟨_,_,_,q⟩:=hs;exact abU q
end L2
namespace L2
open PySem PySem.Spec PyProof.Rows
section
variable {X:Cx} {x:Str} {p pos:Pos} {e:Expr} {es:List Expr} {t:TA} {id T:String} {r:List V->Hp->VK->Prop}
noncomputable def Bs (r:List V->Hp->VK->Prop) (t:TA):TE:=fun σ H Q=>t σ H λvs H1=>r vs H1 Q
theorem vf (hc:cf X (.builtin id) r) (hg:Gl X x) (hm:X.mg x=none) (hv:ZL x=some (.builtin id)) (ha:PA X (e::es) t) (hn:x≠"__name__":=by decide) (j4:(x==("__debug__":Str))=false:=by decide)
  (he:Zp (e::es) X.env=(false,eval e X.env)::Zp es X.env:=by rfl) (cZ:(ab5 pos (Zp es X.env)).any (·.1)=false:=by rfl):PE X (.Call (.Name x p) (e::es) [] pos) (Bs r t):=by
 intro pins s σ H Q I h;refine wpAny_Call_Name_kw (lq I hg hm hv ?_ hn j4);exact PyProof.Rows.callWith_builtin1 (aF (ha pos pins s σ H _ I h) λus s1 ⟨vs,H1,I1,r1,q1⟩=>hc pins s1 σ H1 vs us Q I1 r1 q1) he cZ
theorem u0 (hc:cf X (.type T) r) (hg:Gl X x) (hm:X.mg x=none) (hv:ZL x=some (.type T)) (ha:PA X (e::es) t) (hn:x≠"__name__":=by decide) (j4:(x==("__debug__":Str))=false:=by decide)
  (he:Zp (e::es) X.env=(false,eval e X.env)::Zp es X.env:=by rfl) (cZ:(ab5 pos (Zp es X.env)).any (·.1)=false:=by rfl):PE X (.Call (.Name x p) (e::es) [] pos) (Bs r t):=by
 intro pins s σ H Q I h;refine wpAny_Call_Name_kw (lq I hg hm hv ?_ hn j4);exact aak (aF (ha pos pins s σ H _ I h) λus s1 ⟨vs,H1,I1,r1,q1⟩=>hc pins s1 σ H1 vs us Q I1 r1 q1) he cZ
end
end L2
namespace HT
open PySem PyProof.Rows
noncomputable def lexLt:List Int->List Int->Bool
 | [],[]=>false
 | [],_::_=>true
 |_::_,[]=>false
 |x::xs,y::ys=>if x=y then lexLt xs ys else decide (x<y)
theorem jc (x y:Int) (xs ys:List Int):lexLt (x::xs) (y::ys)=if x=y then lexLt xs ys else decide (x<y):=rfl
theorem Fj (A:ZX) (s:Y4) (a:Int) (t:Tok) (c:Int) (u:Tok) (prog:ZE) (w:World) (E:Value->Y4->Prop) (Q:Value->Y4->Prop) (h:Q (.bool (decide (a<c))) s) :
  wpAny (model prog w) A (richCompare .Lt (.int a t) (.int c u)) Q E s :=
 (PyProof.Rows.lt_int h:wpAny (model prog w) A (aag .Lt (.int a t) (.int c u)) Q E s)
section
open PySem.SeqAt
open PySem.AutoSeq1 (wpAny_loadPart')
open PySem.MeetsSeq PySem.MeetsSeq2 PySem.MeetsSeq3
end
section
variable {prog:ZE} {w:World} {A:ZX} {E:Value->Y4->Prop} {s:Y4}
theorem Qb {t b:Addr} {vs ws:List Value} {Q:Value->Y4->Prop} (ht:IsTup s.heap t vs.toArray) (hb:IsTup s.heap b ws.toArray) (hv:vs≠[])
  (h1:ws=[]->Q (.ref t) s) (h2:ws≠[]->Q (.ref s.heap.objs.size) { s with heap:=s.heap.push { cls:=.type "tuple",data:=.seq (vs++ws).toArray } })
  (hsz:vs.length+ws.length<=Zf):wpAny (model prog w) A (aaO .Add (.ref t) (.ref b)) Q E s:=by
 obtain⟨⟨cls,dd,data,sl⟩,ho,hc,n,hd⟩:=id ht;obtain⟨⟨Jd,mZ,data2,dF⟩,jt,m7,n2,hd2⟩:=id hb;simp only at hc hd m7 hd2;subst hc hd m7 hd2;have e:vs.toArray++ws.toArray=(vs++ws).toArray:=by simp
 by_cases hw:ws=[]
 ·exact concat_meets ⟨_,ho,rfl⟩ ⟨_,jt,rfl⟩ noFill_tuple_add seq_tuple_add acJ acy (acs _ _)
   (tuple_addW1 t b vs.toArray ws.toArray n n2 dd mZ sl dF (by simpa using hv) (by simp[hw])) ⟨ho,jt,h1 hw⟩
 ·refine concat_meets ⟨_,ho,rfl⟩ ⟨_,jt,rfl⟩ noFill_tuple_add seq_tuple_add acJ acy (acs _ _)
   (tuple_addW2 t b vs.toArray ws.toArray n n2 dd mZ sl dF (by simpa using hv) (by simpa using hw) (by rw[Zg,Zg];exact hsz)) ⟨ho,jt,?_⟩
  rw[e];exact h2 hw
noncomputable def aR (n d:Nat):Option Int->Nat
 |none=>d
 |some v=>if v<0 then (v+(n:Int)).toNat else min v.toNat n
theorem Qc (n d k:Nat):aR n d (some (k:Int))=min k n:=by
 show (if (k:Int)<0 then ((k:Int)+(n:Int)).toNat else min (k:Int).toNat n)=min k n
 rw[if_neg (by omega),ZD]
theorem R4 (n d:Nat) (hd:d<=n) (o:Option Int):aR n d o<=n:=by
 cases o with
 |none=>exact hd
 |some v =>
  show (if v<0 then (v+(n:Int)).toNat else min v.toNat n)<=n
  by_cases hv:v<0
  ·rw[if_pos hv];omega
  ·rw[if_neg hv];exact Nat.min_le_right _ _
theorem F8 (v:Int) (n d:Nat):(if v<0 then max (v+(n:Int)) 0 else min v (n:Int))=((aR n d (some v):Nat):Int):=by
 show (if v<0 then max (v+(n:Int)) 0 else min v (n:Int))=(((if v<0 then (v+(n:Int)).toNat else min v.toNat n):Nat):Int)
 by_cases hv:v<0
 ·simp only[if_pos hv];omega
 ·simp only[if_neg hv];omega
theorem Me (lo hi:Option Int) (n:Nat):aaA lo hi 1 (n:Int)=(((aR n 0 lo:Nat):Int),((aR n n hi:Nat):Int)):=by
 have h1:¬ ((1:Int)<0):=by omega
 unfold aaA;simp only[h1,if_false];refine Prod.ext ?_ ?_
 ·cases lo with
  |none=>rfl
  |some v=>exact F8 v n 0
 ·cases hi with
  |none=>rfl
  |some v=>exact F8 v n n
theorem Mf (i j:Nat):aai (i:Int) (j:Int) 1=j-i:=by
 unfold aai;have h1:(1:Int) > 0:=by omega
 simp only[h1,if_true,Int.ediv_one]
 split<;>omega
theorem Ek {v:Value} {o:Option Int} {Q:Option Int->Y4->Prop} (p:IsPart v o) (h:Q o s):wpAny (model prog w) A (Builtin.Slice.slicePartIndex v) Q E s:=by
 cases p with
 |none=>exact slicePart_none h
 |int i t=>exact slicePart_int h
theorem Dw {sl:Addr} {vl vu:Value} {lo hi:Option Int} {n:Nat} {Q:Int×Int×Nat->Y4->Prop} (hs:s.heap.IsSliceOf sl vl vu .none) (pl:IsPart vl lo) (pu:IsPart vu hi)
  (h:Q (((aR n 0 lo:Nat):Int),1,aR n n hi-aR n 0 lo) s):wpAny (model prog w) A (ab1 (.ref sl) (pure (n:Int))) Q E s:=by
 obtain⟨os,ju,ia,jv⟩:=id hs;unfold ab1 adu;refine YX (YX (Z2 ju jv (x:=vl) rfl (YX (Z2 ju jv (x:=vu) rfl (YX (Z2 ju jv (x:=.none) rfl (YZ ?_)))))));refine YX (slicePart_none ?_)
 show wpAny _ _ (if ((1:Int)==0)=true then _ else _) _ _ s
 rw[if_neg (by decide)];refine YX (Ek pl (YX (Ek pu (YX (YZ ?_)))))
 show wpAny _ _ (match aaA lo hi 1 (n:Int) with | (lo,hi)=>pure (lo,(1:Int),aai lo hi 1)) _ _ s
 rw[Me lo hi n];show wpAny _ _ (pure (((aR n 0 lo:Nat):Int),(1:Int),aai ((aR n 0 lo:Nat):Int) ((aR n n hi:Nat):Int) 1)) _ _ s;rw[Mf];exact YZ h
theorem Ot (xs:Array Value) (i k:Nat):((Zk k).filterMap λ(m:Nat)=>xs[((i:Int)+(m:Int)*1).toNat]?).toArray=((xs.toList.drop i).take k).toArray:=by
 have e:(λ(m:Nat)=>xs[((i:Int)+(m:Int)*1).toNat]?)=λm=>xs[i+m]?:=by
  funext m;have:((i:Int)+(m:Int)*1).toNat=i+m:=by omega
  rw[this]
 rw[e];have:=pick_run xs i k;rw[List.filterMap_map] at this;have e2:((λx=>xs[x]?) ∘ λx=>i+x)=λm=>xs[i+m]?:=rfl;rw[e2] at this;rw[this]
theorem Kv {t sl:Addr} {items:Array Value} {vl vu:Value} {lo hi:Option Int} {Q:Value->Y4->Prop} (ht:IsTup s.heap t items) (hs:s.heap.IsSliceOf sl vl vu .none) (pl:IsPart vl lo) (pu:IsPart vu hi)
  (hw:¬ (aR items.size 0 lo=0/\aR items.size items.size hi=items.size))
  (h:Q (.ref s.heap.objs.size) { s with heap:=s.heap.push { cls:=.type "tuple",data:=.seq ((items.toList.drop (aR items.size 0 lo)).take (aR items.size items.size hi-aR items.size 0 lo)).toArray } })
  (hsz:items.size<=Zf):wpAny (model prog w) A (getItem (.ref t) (.ref sl)) Q E s:=by
 have wk:sizeOk (.seq ((items.toList.drop (aR items.size 0 lo)).take (aR items.size items.size hi-aR items.size 0 lo)).toArray):=by
  show ((items.toList.drop (aR items.size 0 lo)).take (aR items.size items.size hi-aR items.size 0 lo)).toArray.size<=Zf;rw[Zg,acf,ac7,ZH];omega
 have hj:aR items.size items.size hi<=items.size:=R4 _ _ (Nat.le_refl _) hi;obtain⟨os,ju,ia,jv⟩:=id hs;have tm:s.TypeIs (.ref sl) "slice":=⟨os,ju,ia⟩;unfold getItem
 try with_reducible refine aat ?_
 first|refine YX (YZ ?_)|skip
 refine YX (wpAny_sequenceKey ht.typeIs (by decide) ?_);refine YX (ZC (name:=ZJ "__getitem__") ht.typeIs ZS
  (ZI ZS ht.typeIs entry_tuple_getitem ?_ (args_tuple_getitem _ _)))
 show wpAny _ _ (aaP (.ref t) >>= _) _ _ s;refine YX (tupleItemsOf_ ht ?_);refine YX (acu tm ?_);rw[if_pos (by decide)];refine YX (Dw hs pl pu ?_);have oR:¬ ((((aR items.size 0 lo:Nat):Int)==0&&(1:Int)==1&&(aR items.size items.size hi-aR items.size 0 lo)==items.size)=true):=by
  intro q;rw[Y3,Y3] at q;have q1:((aR items.size 0 lo:Nat):Int)=0:=eq_of_beq q.1.1;have q2:aR items.size items.size hi-aR items.size 0 lo=items.size:=eq_of_beq q.2;exact hw ⟨by omega,by omega⟩
 show wpAny _ _ (if (((aR items.size 0 lo:Nat):Int)==0&&(1:Int)==1&&(aR items.size items.size hi-aR items.size 0 lo)==items.size)=true then _ else _) _ _ s
 rw[if_neg oR,Ot]
 first
  |exact YX (m:=aal _) (Zt (YZ ⟨_,rfl,YZ h⟩) wk)
  |exact YX (m:=aal _) (Zt (YX (YZ (YZ ⟨_,rfl,YZ h⟩))) wk)
  |exact YX (YX (m:=aal _) (Zt (YZ (YZ ⟨_,rfl,YZ h⟩)) wk))
  |exact YX (YX (m:=aal _) (Zt (YZ ⟨_,rfl,YZ h⟩) wk))
end
end HT
namespace L2
open PySem PySem.Spec PyProof.Rows
noncomputable abbrev TO:=St->Hp->(Option Int->Hp->Prop)->Prop
def PO (X:Cx) (e:Option Expr) (t:TO):Prop :=
 ∀(pins:List (Addr×Obj)) (s:Y4) (σ:St) (H:Hp) (Q:Option Int->Hp->Prop),Inv X pins σ H s->t σ H Q ->
  wpAny (model X.prog X.w) X.A (evalPart e X.env) (λu s'=>∃o H',Inv X pins σ H' s'/\IsPart u o/\Q o H') X.xe s
noncomputable def Qd:TO:=λ_ H Q=>Q none H
noncomputable def T7 (t:TE):TO:=fun σ H Q=>t σ H λx H1=>∃i,x=.int i/\Q (some i) H1
theorem intsAre_of {ns:List Int}:∀{us:List Value},Vals (ns.map V.int) us->acz us ns:=by
 induction ns with
 |nil=>intro us r;rw[aaL] at r;cases r;exact .nil
 |cons n ns ih =>
  intro us r;rw[Zl] at r
  cases r with
  |cons r1 r2 =>
   obtain⟨t,e⟩:=r1;subst e;exact .cons n t (ih r2)
section
variable {X:Cx} {e:Expr} {te:TE} {lo hi:Option Expr} {tl th:TO} {pos p2:Pos}
theorem Qe:PO X none Qd:=by
 intro pins s σ H Q I h;rw[evalPart_none];exact YZ ⟨none,H,I,.none,h⟩
theorem Qf (h:PE X e te):PO X (some e) (T7 te):=by
 intro pins s σ H Q I hw;rw[evalPart_some];refine aF (h pins s σ H _ I hw) λu s1 ⟨x,H1,I1,r1,q1⟩=>?_;obtain⟨i,rfl,q⟩:=q1;obtain⟨t,rfl⟩:=r1;exact⟨some i,H1,I1,.int i t,q⟩
def tu (X:Cx) (r:V->Option Int->Option Int->Hp->VK->Prop):Prop :=
 ∀(pins:List (Addr×Obj)) (s:Y4) (σ:St) (H:Hp) (x:V) (v vl vu:Value) (lo hi:Option Int) (sl:Addr) (Q:VK),Inv X pins σ H s->RelV x v->s.heap.IsSliceOf sl vl vu .none->IsPart vl lo->IsPart vu hi->r x lo hi H Q ->
  ∃T id,typeLookup (.type T) "__getitem__"=pure (some (.builtin id))/\s.TypeIs v T/\wpAny (model X.prog X.w) X.A (getItem v (.ref sl)) (EP X pins σ Q) X.xe s
noncomputable def V3 (r:V->Option Int->Option Int->Hp->VK->Prop) (te:TE) (tl th:TO):TE:=fun σ H Q=>te σ H λx H1=>tl σ H1 λl H2=>th σ H2 λu H3=>r x l u H3 Q
theorem Ou {r:V->Option Int->Option Int->Hp->VK->Prop} (hr:tu X r) (he:PE X e te) (hl:PO X lo tl) (hu:PO X hi th):PE X (.Subscript e (.Slice lo hi none p2) pos) (V3 r te tl th):=by
 intro pins s σ H Q I h;refine Subscript_ (aF (he pins s σ H _ I h) λv s1 ⟨x,H1,I1,r1,q1⟩=>?_);refine wpAny_Slice (aF (hl pins s1 σ H1 _ I1 q1) λvl s2 ⟨l,H2,I2,pl,q2⟩=>aF (hu pins s2 σ H2 _ I2 q2) λvu s3 ⟨u,H3,I3,pu,q3⟩=>?_);rw[evalPart_none];refine YZ ?_
 have I4:Inv X pins σ H3 { s3 with heap:=s3.heap.push { cls:=.type "slice",data:=.fields #[vl,vu,.none] } }:=I3.kept (t':=s3.toks) λb ob q=>YY _ q
 obtain⟨T,id,hT,ht,hg⟩:=hr pins { s3 with heap:=s3.heap.push { cls:=.type "slice",data:=.fields #[vl,vu,.none] } } σ H3 x v vl vu l u s3.heap.objs.size Q I4 r1 (Heap.IsSliceOf.new ..) pl pu q3
 show wpAny (model X.prog X.w) X.A (subscriptTail e (.Slice lo hi none p2) v (.ref s3.heap.objs.size)) (EP X pins σ Q) X.xe { s3 with heap:=s3.heap.push { cls:=.type "slice",data:=.fields #[vl,vu,.none] } }
 exact tail_any (ops:=[.ref s3.heap.objs.size,v]) ht hT hg (by with_unfolding_all rfl)
noncomputable def jN (xs:List V) (lo hi:Option Int):List V:=(xs.drop (HT.aR xs.length 0 lo)).take (HT.aR xs.length xs.length hi-HT.aR xs.length 0 lo)
theorem D5 (xs:List V) (lo hi:Option Int):(jN xs lo hi).length<=xs.length:=by
 unfold jN;rw[acf,ac7];omega
noncomputable def Vi (K:Frag):V->Option Int->Option Int->Hp->VK->Prop:=λx lo hi H Q=>∃a xs,x=.ref a/\aS K H a xs /\
 ¬ (HT.aR xs.length 0 lo=0/\HT.aR xs.length xs.length hi=xs.length)/\∀p,H p=none->Q (.ref p) (upd H p (.tup (jN xs lo hi)))
theorem zC:tu X (Vi X.K):=by
 intro pins s σ H x v vl vu lo hi sl Q I rx hs pl pu h;obtain⟨a,xs,rfl,hx,hw,q⟩:=h;cases rx;obtain⟨its,r,ht,hz⟩:=I.tuple hx;have hlen:its.toArray.size=xs.length:=by rw[Zg];exact r.length.symm
 refine⟨"tuple",_,ZS.lookup,ht.typeIs,?_⟩;refine HT.Kv ht hs pl pu (by rw[hlen];exact hw) ?_ (by rw[hlen];exact hz);rw[hlen];refine⟨.ref s.heap.objs.size,_,I.laid (t':=s.toks) (o:=.tup (jN xs lo hi)) (λb ob q=>YY _ q) (Nat.le_refl _) ?_,rfl,q _ (I.aG.fresh (Nat.le_refl _))⟩;exact⟨Zo (D5 xs lo hi) hz,_,(r.drop (HT.aR xs.length 0 lo)).take (HT.aR xs.length xs.length hi-HT.aR xs.length 0 lo),IsTup.new _ _⟩
noncomputable def T8 (K:Frag):R2:=λx y H Q=>∃a b xs ys,x=.ref a/\y=.ref b/\aS K H a xs/\aS K H b ys/\xs≠[]/\xs.length+ys.length<=Zf /\
 (ys=[]->Q (.ref a) H)/\(ys≠[]->∀p,H p=none->Q (.ref p) (upd H p (.tup (xs++ys))))
theorem Vals.yY {xs:List V} {us:List Value} (r:Vals xs us):us=[]↔xs=[]:=by
 cases r with
 |nil=>simp
 |cons _ _=>simp
theorem Qg:bj X (aaO .Add) (T8 X.K):=by
 intro pins s σ H x y v u Q I rx ry h;obtain⟨a,b,xs,ys,rfl,rfl,ha,hb,hx,hz,q1,q2⟩:=h;cases rx;cases ry;obtain⟨its,r1,p1,_⟩:=I.tuple ha;obtain⟨oB,r2,p2,_⟩:=I.tuple hb;refine HT.Qb p1 p2 (λz=>hx (r1.yY.mp z)) (λz=>⟨.ref a,H,I,rfl,q1 (r2.yY.mp z)⟩) (λz=>?_) (by rw[<- r1.length,<- r2.length];exact hz);refine⟨.ref s.heap.objs.size,_,I.laid (t':=s.toks) (o:=.tup (xs++ys)) (λb ob q=>YY _ q) (Nat.le_refl _) ?_,rfl,q2 (λw=>z (r2.yY.mpr w)) _ (I.aG.fresh (Nat.le_refl _))⟩;exact⟨by rw[Zx];exact hz,_,r1.append r2,IsTup.new _ _⟩
end
end L2
namespace L2
open PySem PySem.Spec PyProof.Rows
noncomputable def fq (n:Nat) (i:Int):Option Nat:=if 0<=i then (if i<n then some i.toNat else none) else if -(n:Int)<=i then some (i+n).toNat else none
noncomputable def eI {α:Type} (xs:List α) (i:Int):Option α:=(fq xs.length i).bind λj=>xs[j]?
theorem F9 {n:Nat} {i:Int} {j:Nat} (h:fq n i=some j):seqIndex? i n=some j/\j<n/\-(n:Int)<=i/\i<n:=by
 unfold fq at h;by_cases h0:0<=i
 ·rw[if_pos h0] at h
  by_cases h1:i<n
  ·rw[if_pos h1] at h
   have e:i.toNat=j:=Option.some.inj h;exact⟨by rw[seqIndex_of h0 h1,e],by omega,by omega,h1⟩
  ·rw[if_neg h1] at h;cases h
 ·rw[if_neg h0] at h
  by_cases h1:-(n:Int)<=i
  ·rw[if_pos h1] at h
   have e:(i+n).toNat=j:=Option.some.inj h;exact⟨by rw[seqIndex_neg (by omega) h1,e],by omega,h1,by omega⟩
  ·rw[if_neg h1] at h;cases h
theorem yZ {α:Type} {xs:List α} {i:Int} {v:α} (h:eI xs i=some v):∃j,seqIndex? i xs.length=some j/\xs[j]?=some v/\j<xs.length/\-(xs.length:Int)<=i/\i<xs.length:=by
 unfold eI at h
 cases e:fq xs.length i with
 |none=>rw[e] at h;cases h
 |some j =>
  rw[e] at h;obtain⟨h1,h2,h3,h4⟩:=F9 e;exact⟨j,h1,h,h2,h3,h4⟩
def Ga (b:Expr):Prop:=∀o i,subscripted b false o i=operate [o,i] (getItem o i)
def tw (X:Cx) (r:R2):Prop :=
 ∀(value slice:Expr) (pins:List (Addr×Obj)) (s:Y4) (σ:St) (H:Hp) (x y:V) (v u:Value) (Q:VK),Inv X pins σ H s->RelV x v->RelV y u->r x y H Q ->
  subscripted slice false v u=operate [v,u] (getItem v u)->wpAny (model X.prog X.w) X.A (subscriptTail value slice v u) (EP X pins σ Q) X.xe s
def V4 (X:Cx) (id:String) (r:V->List V->Hp->VK->Prop):Prop :=
 ∀(pins:List (Addr×Obj)) (s:Y4) (σ:St) (H:Hp) (x:V) (xs:List V) (v:Value) (us:List Value) (Q:VK),Inv X pins σ H s->RelV x v->Vals xs us->r x xs H Q ->
  wpAny (model X.prog X.w) X.A (call (.builtin id) (v::us)) (EP X pins σ Q) X.xe s
section
variable {X:Cx} {a b:Expr} {ta tb:TE} {pos:Pos}
theorem T9 {r:R2} (hr:tw X r) (ha:PE X a ta) (hb:PE X b tb) (hs:Ga b):PE X (.Subscript a b pos) (sX r ta tb):=by
 intro pins s σ H Q I h;exact Subscript_ (AR ha hb I h λv u s2 x y H2 I2 rx ry q=>hr a b pins s2 σ H2 x y v u Q I2 rx ry q (hs _ _))
noncomputable def Vj (K:Frag):R2:=λx y H Q=>∃p xs i v,x=.ref p/\y=.int i/\bQ K H p xs/\eI xs i=some v/\Q v H
noncomputable def Vk (K:Frag):R2:=λx y H Q=>∃p xs i v,x=.ref p/\y=.int i/\aS K H p xs/\eI xs i=some v/\Q v H
noncomputable def Vl:R2:=λx y H Q=>∃z i c,x=.str z/\y=.int i/\z.length<=Zf/\eI z.cps.toList i=some c/\Q (.str ⟨#[c]⟩) H
theorem Gb:tw X (Vj X.K):=by
 intro value slice pins s σ H x y v u Q I rx ry h hs;obtain⟨p,xs,i,z,rfl,rfl,hq,he,q⟩:=h;cases rx;obtain⟨t,rfl⟩:=ry;obtain⟨its,r,pl,hz⟩:=I.list hq;obtain⟨j,h1,h2,h3,h4,h5⟩:=yZ he;obtain⟨w,ew,oP⟩:=r.get h2;have hl:=r.length;have hn:=nX;have fin:EP X pins σ Q w s:=⟨z,H,I,oP,q⟩;by_cases h0:0<=i
 ·have hj:i.toNat=j:=by
   rw[seqIndex_of h0 h5] at h1;exact Option.some.inj h1
  exact item_listR pl.isList h0 (by omega) (by rw[hj];simpa using ew) fin hs
 ·have hj:(i+(its.toArray.size:Int)).toNat=j:=by
   rw[seqIndex_neg (by omega) h4] at h1;rw[Zg,<- hl];exact Option.some.inj h1
  exact subscriptTail_builtinR (x:=w) pl.isList.typeIs slot_list_getitem.lookup
   (wpAny_getItem_list_neg (Q:=λr s'=>r=w/\EP X pins σ Q r s') pl.isList (by omega) (by rw[Zg]<;>omega) (by omega) (by rw[hj];simpa using ew) ⟨rfl,fin⟩) hs
theorem R5:tw X (Vk X.K):=by
 intro value slice pins s σ H x y v u Q I rx ry h hs;obtain⟨p,xs,i,z,rfl,rfl,hq,he,q⟩:=h;cases rx;obtain⟨t,rfl⟩:=ry;obtain⟨its,r,pl,hz⟩:=I.tuple hq;obtain⟨j,h1,h2,h3,h4,h5⟩:=yZ he;obtain⟨w,ew,oP⟩:=r.get h2;have hl:=r.length;have hn:=nX;have fin:EP X pins σ Q w s:=⟨z,H,I,oP,q⟩;exact subscriptTail_builtinR (x:=w) pl.typeIs slot_tuple_getitem.lookup
  (getItem_tuple (j:=j) (Q:=λr s'=>r=w/\EP X pins σ Q r s') pl (by omega) (by omega) (by rw[Zg,<- hl];exact h1) (by simpa using ew) ⟨rfl,fin⟩) hs
theorem R6:tw X Vl:=by
 intro value slice pins s σ H x y v u Q I rx ry h hs;obtain⟨z,i,c,rfl,rfl,hz,he,q⟩:=h;obtain⟨t,rfl⟩:=rx;obtain⟨t',rfl⟩:=ry;obtain⟨j,h1,h2,h3,h4,h5⟩:=yZ he;have hl:z.cps.toList.length=z.length:=by simp[Str.length]
 rw[hl] at h1 h4 h5;have hn:=nX;exact tail_any (typeIs_str s z t) slot_str_getitem.lookup (getItem_str (c:=c) (by
  have e1:decide (i < -(2 ^ 63:Int))=false:=decide_eq_false (by omega);have e2:decide (i ≥ 2 ^ 63)=false:=decide_eq_false (by omega);rw[e1,e2,Bool.or_false]) (by rw[h1];simpa using h2) ⟨.str ⟨#[c]⟩,H,I.tok _,⟨_,rfl⟩,q⟩) hs
theorem Mg (its:List Value) (n j:Nat) (u:Value):aa6 (·.setIfInBounds j u) { cls:=.type "list",data:=.seq its.toArray n }={ cls:=.type "list",data:=.seq (its.set j u).toArray n }:=by
 simp[aa6]
theorem Inv.lst {pins:List (Addr×Obj)} {σ:St} {H:Hp} {s:Y4} {p:Addr} {xs:List V} (I:Inv X pins σ H s) (h:H p=some (.lst xs)) :
  ∃(its:List Value) (n:Nat),Vals xs its/\s.heap.get? p=some { cls:=.type "list",data:=.seq its.toArray n }/\xs.length<=Zf:=by
 obtain⟨z,its,n,r,e⟩:=I.aG p _ h;exact⟨its,n,r,e,z⟩
theorem Inv.R7 {pins:List (Addr×Obj)} {σ:St} {H:Hp} {s:Y4} {p:Addr} {xs ys:List V} {its its':List Value} {n n':Nat} {f:Obj->Obj} (I:Inv X pins σ H s) (h:H p=some (.lst xs))
  (ho:s.heap.get? p=some { cls:=.type "list",data:=.seq its.toArray n }) (hf:f { cls:=.type "list",data:=.seq its.toArray n }={ cls:=.type "list",data:=.seq its'.toArray n' }) (r:Vals ys its') (hz:ys.length<=Zf) (t:Nat) :
  Inv X pins σ (upd H p (.lst ys)) { s with heap:=s.heap.update p f,toks:=t }:=by
 have e:(s.heap.update p f).get? p=some { cls:=.type "list",data:=.seq its'.toArray n' }:=by
  rw[aah f ho (by rw[hf]<;>rfl),hf]
 refine I.write (x:=p) (e:=p) (by rw[h];trivial) (.inl rfl) (λb u hb q=>(abL _ _ (abe hb)).trans q) ⟨_,e⟩ ?_;exact⟨hz,its',n',r,e⟩
noncomputable def Ig:V->V->V->Hp->(Hp->Prop)->Prop:=λo i v H Q=>∃p xs k j,o=.ref p/\i=.int k/\H p=some (.lst xs)/\fq xs.length k=some j/\Q (upd H p (.lst (xs.set j v)))
theorem set_list:AN X Ig:=by
 intro pins s σ H o i v ov iv u Q I ro ri rv h;obtain⟨p,xs,k,j,rfl,rfl,hp,hj,q⟩:=h;cases ro;obtain⟨t,rfl⟩:=ri;obtain⟨its,n,r,ho,hz⟩:=I.lst hp;obtain⟨h1,h2,h3,h4⟩:=F9 hj;have hl:=r.length;have hn:=nX
 have I':Inv X pins σ (upd H p (.lst (xs.set j v))) { s with heap:=s.heap.update p (aa6 (·.setIfInBounds j u)) } :=
  I.R7 hp ho (Mg its n j u) (r.set rv j) (by rw[ZU];exact hz) s.toks
 by_cases h0:0<=k
 ·have hk:k.toNat=j:=by
   rw[seqIndex_of h0 h4] at h1;exact Option.some.inj h1
  exact PySem.W.ki_setAt ho h0 (by omega) (by rw[Zg,<- hl];exact h4) (by rw[hk];exact⟨_,I',q⟩)
 ·have hk:(k+(its.toArray.size:Int)).toNat=j:=by
   rw[seqIndex_neg (by omega) h3] at h1;rw[Zg,<- hl];exact Option.some.inj h1
  exact PySem.W.ki_setBack ho (by omega) (by rw[Zg,<- hl];exact h3) (by omega) (by rw[hk];exact⟨_,I',q⟩)
theorem K5 (lo hi:Option Int) (n:Nat):(acN lo hi none n).1=((HT.aR n 0 lo:Nat):Int)/\(acN lo hi none n).2.1=((HT.aR n n hi:Nat):Int)/\(acN lo hi none n).2.2=1:=by
 refine⟨?_,?_,rfl⟩
 ·cases lo with
  |none=>simp[acN,HT.aR]
  |some i =>
   simp only[acN,HT.aR,Option.getD_none,show (1:Int) > 0 by decide,if_true];by_cases h:i<0
   ·simp only[h,if_true]<;>omega
   ·simp only[h,if_false]<;>omega
 ·cases hi with
  |none=>simp[acN,HT.aR]
  |some i =>
   simp only[acN,HT.aR,Option.getD_none,show (1:Int) > 0 by decide,if_true];by_cases h:i<0
   ·simp only[h,if_true]<;>omega
   ·simp only[h,if_false]<;>omega
theorem KQ (its:List Value) (lo hi:Option Int):slicePick its.toArray lo hi none=((its.drop (HT.aR its.length 0 lo)).take (HT.aR its.length its.length hi-HT.aR its.length 0 lo)).toArray:=by
 obtain⟨h1,h2,h3⟩:=K5 lo hi its.toArray.size;unfold slicePick;rw[h1,h2,h3]
 simp only[sliceRange_one,pick_run,Zg]<;>rfl
noncomputable def Vm (K:Frag):V->Option Int->Option Int->Hp->VK->Prop:=λx lo hi H Q=>∃a xs,x=.ref a/\bQ K H a xs/\∀p,H p=none->Q (.ref p) (upd H p (.lst (jN xs lo hi)))
theorem Qh:tu X (Vm X.K):=by
 intro pins s σ H x v vl vu lo hi sl Q I rx hs pl pu h;obtain⟨a,xs,rfl,hx,q⟩:=h;cases rx;obtain⟨its,r,ht,hz⟩:=I.list hx;have hlen:=r.length;refine⟨"list",_,slot_list_getitem.lookup,ht.isList.typeIs,?_⟩
 refine wpAny_getItem_list_slice ht.isList hs pl pu .none (by simp) ?_ (by rw[Zg]<;>omega)
 rw[KQ,<- hlen];refine⟨.ref s.heap.objs.size,_,I.laid (t':=s.toks) (o:=.lst (jN xs lo hi)) (λb ob q=>YY _ q) (Nat.le_refl _) ?_,rfl,q _ (I.aG.fresh (Nat.le_refl _))⟩;exact⟨Zo (D5 xs lo hi) hz,_,0,(r.drop (HT.aR xs.length 0 lo)).take (HT.aR xs.length xs.length hi-HT.aR xs.length 0 lo),Y6 _ rfl⟩
theorem xX:cf X (.builtin "len") (λxs H Q=>∃p ys,xs=[.ref p]/\(bQ X.K H p ys\/aS X.K H p ys)/\Q (.int ys.length) H):=by
 intro pins s σ H xs us Q I r h;obtain⟨p,ys,rfl,hq,q⟩:=h;obtain⟨u,rfl,rx⟩:=vals1 r;cases rx;have hn:=nX
 rcases hq with hq|hq
 ·obtain⟨its,r',pl,hz⟩:=I.list hq
  have hlen:=r'.length
  exact Calls.call_len_list pl.isList (by simp only[Zg]<;>omega) ⟨.int ys.length,H,I.tok _,⟨s.toks+1,by rw[Zg,hlen]⟩,q⟩
 ·obtain⟨its,r',pl,hz⟩:=I.tuple hq
  have hlen:=r'.length
  exact len_tuple pl (by simp only[Zg]<;>omega) ⟨.int ys.length,H,I.tok _,⟨s.toks+1,by rw[Zg,hlen]⟩,q⟩
theorem K6:cf X (.builtin "len") (λxs H Q=>∃z,xs=[.str z]/\z.length<=Zf/\Q (.int z.length) H):=by
 intro pins s σ H xs us Q I r h;obtain⟨z,rfl,hz,q⟩:=h;obtain⟨u,rfl,t,rfl⟩:=vals1 r;have hn:=nX;exact len_str (by omega) ⟨.int z.length,H,I.tok _,⟨_,rfl⟩,q⟩
theorem xY:cf X (.type "list") (λxs H Q=>∃p ys,xs=[.ref p]/\(bQ X.K H p ys\/aS X.K H p ys)/\∀l,H l=none->Q (.ref l) (upd H l (.lst ys))):=by
 intro pins s σ H xs us Q I r h;obtain⟨p,ys,rfl,hq,q⟩:=h;obtain⟨u,rfl,rx⟩:=vals1 r;cases rx;have fin:∀(its:List Value),Vals ys its->ys.length<=Zf->∀(h':Heap) (c':Nat),(∀b o',s.heap.get? b=some o'->h'.get? b=some o') ->
   h'.get? s.heap.objs.size=some { cls:=.type "list",dict:=none,data:=.seq its.toArray c',slots:=#[] }->EP X pins σ Q (.ref s.heap.objs.size) { s with heap:=h' }:=λits r' hz h' c' kp e =>
  ⟨.ref s.heap.objs.size,_,I.laid (t':=s.toks) kp (Nat.le_refl _) (show cL X.prog X.w _ h' _ (.lst ys) from ⟨hz,its,c',r',e⟩),rfl,q _ (I.aG.fresh (Nat.le_refl _))⟩
 rcases hq with hq|hq
 ·obtain⟨its,r',pl,hz⟩:=I.list hq
  have hlen:=r'.length;obtain⟨o,ho,hc,n,hd⟩:=pl.isList
  exact call_list_seq p (.inl rfl) ho hc hd (λh' c' kp e=>fin its r' hz h' c' kp e) (by simp only[Zg]<;>omega)
 ·obtain⟨its,r',pl,hz⟩:=I.tuple hq
  have hlen:=r'.length;obtain⟨o,ho,hc,n,hd⟩:=pl
  exact call_list_seq p (.inr rfl) ho hc hd (λh' c' kp e=>fin its r' hz h' c' kp e) (by simp only[Zg]<;>omega)
theorem DE:cf X (.type "tuple") (λxs H Q=>∃p ys,xs=[.ref p]/\((bQ X.K H p ys/\∀l,H l=none->Q (.ref l) (upd H l (.tup ys)))\/(aS X.K H p ys/\Q (.ref p) H))):=by
 intro pins s σ H xs us Q I r h;obtain⟨p,ys,rfl,h⟩:=h;obtain⟨u,rfl,rx⟩:=vals1 r;cases rx
 rcases h with ⟨hq,q⟩ | ⟨hq,q⟩
 ·obtain⟨its,r',pl,hz⟩:=I.list hq
  have hlen:=r'.length
  refine call_tuple_list pl.isList (λh' kp=>?_) (by simp only[Zg]<;>omega)
  have I1:Inv X pins σ H { s with heap:=h' }:=I.kept (t':=s.toks) kp
  have I2:Inv X pins σ (upd H h'.objs.size (.tup ys)) { s with heap:=h'.push { cls:=.type "tuple",data:=.seq its.toArray } } :=
   I1.laid (t':=s.toks) (λb o e=>YY _ e) (Nat.le_refl _) (show cL X.prog X.w _ _ _ (.tup ys) from ⟨hz,its,r',IsTup.new _ _⟩)
  exact⟨.ref h'.objs.size,_,I2,rfl,q _ (I1.aG.fresh (Nat.le_refl _))⟩
 ·obtain⟨its,r',pl,hz⟩:=I.tuple hq
  exact call_tuple_same pl ⟨.ref p,H,I,rfl,q⟩
def JG (K:Frag) (T:String) (x:V) (H:Hp):Prop:=match x with
 | .str _=>T="str"
 | .int _=>T="int"
 | .ref p=>(T="list"/\∃xs,bQ K H p xs)\/(T="tuple"/\∃o,K.lookup p=some o/\o.cls=.type "tuple"/\o.dict=none) \/
   (T="dict"/\((∃ao,H p=some (.dK ao))\/∃ao,H p=some (.dT ao)))\/(T="set"/\∃S n,H p=some (.set S n))
 |_=>False
theorem R8 {pins:List (Addr×Obj)} {σ:St} {H:Hp} {s:Y4} {T:String} {x:V} {v:Value} (I:Inv X pins σ H s) (r:RelV x v) (ty:JG X.K T x H) :
  s.TypeIs v T/\∀a,v=.ref a->∃ob,s.heap.get? a=some ob/\ob.dict=none:=by
 cases x with
 |str z =>
  obtain⟨t,rfl⟩:=r;cases (show T="str" from ty)
  exact⟨typeIs_str s z t,λ_ e=>nomatch e⟩
 |int i =>
  obtain⟨t,rfl⟩:=r;cases (show T="int" from ty)
  exact⟨typeIs_int s i t,λ_ e=>nomatch e⟩
 |ref p =>
  cases r
  rcases ty with ⟨rfl,xs,hq⟩ | ⟨rfl,o,hk,hc,hd⟩ | ⟨rfl,hk⟩ | ⟨rfl,S,n,hk⟩
  ·obtain⟨its,_,pl,_⟩:=I.list hq
   refine⟨pl.isList.typeIs,λa e=>?_⟩;cases e;obtain⟨o,n,e,c,hd,_⟩:=pl;exact⟨o,e,hd⟩
  ·refine⟨⟨o,I.qF p o hk,hc⟩,λa e=>?_⟩
   cases e;exact⟨o,I.qF _ o hk,hd⟩
  ·have z:∃o,s.heap.get? p=some o/\o.ExactDict:=by
    rcases hk with ⟨ao,hk⟩ | ⟨ao,hk⟩
    ·obtain⟨_,_,_,_,o,_,_,e,ex,_⟩:=I.aG p _ hk
     exact⟨o,e,ex⟩
    ·obtain⟨_,_,_,_,o,_,_,e,ex,_⟩:=I.aG p _ hk
     exact⟨o,e,ex⟩
   obtain⟨o,e,ex⟩:=z;refine⟨⟨o,e,ex.1⟩,λa e2=>?_⟩;cases e2;exact⟨o,e,ex.2.1⟩
  ·obtain⟨o,_,_,_,e,ex,_⟩:=I.aG p _ hk
   refine⟨⟨o,e,ex.1⟩,λa e2=>?_⟩;cases e2;exact⟨o,e,ex.2.1⟩
 |_=>exact abU ty
noncomputable def V5 (K:Frag) (T:String) (r:V->List V->Hp->VK->Prop) (to:TE) (t:TA):TE:=fun σ H Q=>to σ H λx H1=>JG K T x H1/\t σ H1 λxs H2=>r x xs H2 Q
variable {o e:Expr} {es:List Expr} {to:TE} {t:TA} {name:Str} {apos dQ:Pos} {T id:String} {r:V->List V->Hp->VK->Prop}
theorem Ua (pa:PlainAttrs T) (slot:Slot T name id) (V6:typeOf (.builtin id)=pure (.type "method_descriptor")) (hm:V4 X id r) (ho:PE X o to) (ha:PA X (e::es) t)
  (Ai:attributeBase o name X.env (eval o X.env)=eval o X.env:=by rfl)
  (AV:((ab5 dQ (Zp (e::es) X.env)).all (λx=>!x.1)&&(backToKw dQ (keywordEach [] X.env)).all (λx=>x.1.isSome)
   && decide ((e::es).length+([]:List Keyword).length+(if ([]:List Keyword).isEmpty then 0 else 1)<30))=true:=by rfl)
  (Aj:(apos.endLine==dQ.line)=true:=by rfl) (hs:Zp (e::es) X.env=(false,eval e X.env)::Zp es X.env:=by rfl) (zD:(ab5 dQ (Zp es X.env)).any (·.1)=false:=by rfl) :
  PE X (.Call (.Attribute o name apos) (e::es) [] dQ) (V5 X.K T r to t):=by
 intro pins s σ H Q I h;refine wpAny_Call_method_late Ai AV Aj rfl (aF (ho pins s σ H _ I h) λv s1 ⟨x,H1,I1,r1,ty,q1⟩=>?_);obtain⟨h1,h2⟩:=R8 I1 r1 ty;refine⟨T,id,pa,slot,V6,h1,h2,?_⟩;have hA:=ha dQ pins s1 σ H1 _ I1 q1;rw[hs] at hA |-
 refine Calls.callWith_builtin (by show (false||(ab5 dQ (Zp es X.env)).any (·.1))=false;rw[zD]<;>rfl) (Calls.evalArgs_plain ?_)
 exact aF hA λus s2 ⟨vs,H2,I2,r2,q2⟩=>hm pins s2 σ H2 x vs v us Q I2 r1 r2 q2
end
end L2
namespace L2
open PySem PySem.Spec PyProof.Rows
def V7 (X:Cx) (id:String) (r:V->List V->Hp->VK->Prop):Prop :=
 ∀(pins:List (Addr×Obj)) (s:Y4) (σ:St) (H:Hp) (x:V) (xs:List V) (v:Value) (us:List Value) (Q:VK),Inv X pins σ H s->RelV x v->Vals xs us->r x xs H Q ->
  wpAny (model X.prog X.w) X.A (call (.builtin id) (v::us)) (EP X pins σ Q) X.xe s
theorem Vals.one:∀{x:V} {us:List Value},Vals [x] us->∃u,us=[u]/\RelV x u
 |_,_,.cons r .nil=>⟨_,rfl,r⟩
theorem Vals.rep {xs:List V} {us:List Value} (h:Vals xs us):∀k:Nat,Vals (Za k xs).flatten (Za k us).flatten
 |0=>.nil
 |k+1=>by
  rw[aaR,aaR,abu,abu];exact Vals.append h (Vals.rep h k)
theorem foldl_rep (its:List Value):∀(k:Nat) (acc:List Value),
  List.foldl (λx1 x2=>x1++x2) acc.toArray (Za k its.toArray)=(acc++(Za k its).flatten).toArray
 |0,acc=>by simp
 |k+1,acc=>by
  have e:acc.toArray++its.toArray=(acc++its).toArray:=by simp
  have e2:(acc++its)++(Za k its).flatten=acc++(Za (k+1) its).flatten:=by
   rw[aaR,abu,aax]
  rw[<- e2,<- foldl_rep its k (acc++its),<- e,aaR,List.foldl_cons]
section
variable {X:Cx} {pins:List (Addr×Obj)} {σ:St} {H:Hp} {s:Y4} {l b:Addr} {xs ys zs:List V}
theorem Inv.Vn {its its':List Value} {n:Nat} {f:Array Value->Array Value} {t':Nat} (I:Inv X pins σ H s) (hH:H l=some (.lst xs))
  (e:s.heap.get? l=some { cls:=.type "list",data:=.seq its.toArray n }) (hf:f its.toArray=its'.toArray) (hv:Vals ys its') (hz:ys.length<=Zf) :
  Inv X pins σ (upd H l (.lst ys)) { s with heap:=s.heap.update l (aa6 f),toks:=t' }:=by
 have q:=PySem.IsL.update e f;rw[hf] at q;refine I.write (x:=l) (e:=l) (by rw[hH];exact trivial) (.inl rfl) (λb' u hb hu=>(abL s.heap (aa6 f) (abe hb)).trans hu) ⟨_,q⟩ ?_;exact⟨hz,its',_,hv,q⟩
theorem Inv.Je {its:List Value} {t':Nat} (I:Inv X pins σ H s) (hv:Vals ys its) (hz:ys.length<=Zf) :
  Inv X pins σ (upd H s.heap.objs.size (.lst ys)) { s with heap:=s.heap.push { cls:=.type "list",data:=.seq its.toArray },toks:=t' } :=
 I.laid (λ_ _ q=>YY _ q) (Nat.le_refl _) ⟨hz,its,0,hv,Y6 _ rfl⟩
theorem Inv.fresh (I:Inv X pins σ H s):H s.heap.objs.size=none:=I.aG.fresh (Nat.le_refl _)
theorem Inv.wK (I:Inv X pins σ H s) (hH:H l=some (.lst xs)):xs.length<=Zf/\∃(its:List Value) (n:Nat),Vals xs its/\xs.length=its.length/\s.heap.get? l=some { cls:=.type "list",data:=.seq its.toArray n }:=by
 obtain⟨z,its,n,r,e⟩:=I.aG l _ hH;exact⟨z,its,n,r,r.length,e⟩
theorem Ov {n:Nat} (h:n<=Zf):acv n=false:=by
 unfold acv;exact decide_eq_false (by omega)
end
section
variable {X:Cx}
noncomputable def Qi:V->List V->Hp->VK->Prop:=λx vs H Q=>∃l xs y,x=.ref l/\vs=[y]/\H l=some (.lst xs)/\xs.length<Zf/\Q .aA (upd H l (.lst (xs++[y])))
theorem Nf:V7 X "list.append" Qi:=by
 intro pins s σ H x vs v us Q I rx rv h;obtain⟨l,xs,y,rfl,rfl,hH,hz,q⟩:=h;cases rx;obtain⟨u,rfl,ru⟩:=rv.one;obtain⟨z,its,n,r,hl,e⟩:=I.wK hH;refine call_meets F.slot_list_append ⟨_,e,rfl⟩ F.entry_list_append (F.args_list_append_2 _ _) (PySem.list_append l its.toArray n u (by rw[Zg];omega)) ⟨e,?_⟩;refine⟨.aA,_,I.Vn (its':=its++[u]) hH e (by simp) (r.append (.cons ru .nil)) ?_,rfl,q⟩;rw[Zx,ac0];omega
noncomputable def Vo:R2:=λx y H Q=>∃l b xs zs,x=.ref l/\y=.ref b/\H l=some (.lst xs)/\H b=some (.lst zs)/\xs.length+zs.length<=Zf/\∀p,H p=none->Q (.ref p) (upd H p (.lst (xs++zs)))
theorem G9:bj X (aaO .Add) Vo:=by
 intro pins s σ H x y v u Q I rx ry h;obtain⟨l,b,xs,zs,rfl,rfl,hH,hB,hz,q⟩:=h;cases rx;cases ry;obtain⟨z,its,n,r,hl,e⟩:=I.wK hH;obtain⟨z2,oB,n2,r2,xn,e2⟩:=I.wK hB;refine PySem.P.add_list e e2 ?_ (by rw[Zg,Zg];omega);have ea:its.toArray++oB.toArray=(its++oB).toArray:=by simp
 rw[ea];exact⟨.ref _,_,I.Je (t':=s.toks) (r.append r2) (by rw[Zx];omega),rfl,q _ I.fresh⟩
noncomputable def Vp:R2:=λx y H Q=>∃l k xs,x=.ref l/\y=.int k/\H l=some (.lst xs)/\-(2 ^ 63)<=k/\k<2 ^ 63/\xs.length*k.toNat<=Zf /\
 ∀p,H p=none->Q (.ref p) (upd H p (.lst (Za k.toNat xs).flatten))
theorem len_rep {α:Type} (xs:List α) (k:Nat):(Za k xs).flatten.length=k*xs.length:=by
 induction k with
 |zero=>simp
 |succ k ih=>rw[aaR,abu,Zx,ih,Nat.succ_mul,Nat.add_comm]
theorem R9:bj X (aaO .Mult) Vp:=by
 intro pins s σ H x y v u Q I rx ry h;obtain⟨l,k,xs,rfl,rfl,hH,h1,h2,hz,q⟩:=h;cases rx;obtain⟨t,rfl⟩:=ry;obtain⟨z,its,n,r,hl,e⟩:=I.wK hH;have hlen:its.toArray.size*k.toNat<=Zf:=by rw[Zg,<- hl];exact hz
 have Vq:¬ its.toArray.size*k.toNat > (2 ^ 63-1) / 8:=by
  have:(Zf:Nat)<=(2 ^ 63-1) / 8:=by decide
  omega
 have Vr:¬ (!Builtin.List.listFitsIndex k)=true:=by
  rw[fitsIndex_both h1 h2];exact Y7
 have Ub:¬ acv (its.toArray.size*k.toNat)=true:=by
  rw[Ov hlen];exact Y7
 have Vs:List.foldl (λx1 x2=>x1++x2) #[] (Za (if its.toArray.isEmpty=true then 0 else k.toNat) its.toArray)=(Za k.toNat its).flatten.toArray:=by
  have f0:∀m:Nat,List.foldl (λx1 x2=>x1++x2) #[] (Za m its.toArray)=(Za m its).flatten.toArray:=λm=>by
   have:=foldl_rep its m [];rw[aaB] at this;exact this
  rw[f0]
  cases its with
  |nil=>simp
  |cons a r'=>rw[if_neg (by simp)]
 refine wpAny_binaryOp_repeat_ref (T:="list") (U:="int") (by decide) ⟨_,e,rfl⟩ (λs'=>typeIs_int s' k t) noFill_list_mul F.fills_int_mul adl repeat_list F.slot_int_index.lookup
  (call_meets adl (typeIs_int s k t) F.entry_int_rmul (F.args_int_rmul_2 _ _) (int___rmul___int_list k t l its.toArray n)
   ⟨e,rfl,⟨_,e,rfl⟩,call_meets F.slot_list_mul ⟨_,e,rfl⟩ F.entry_list_mul (F.args_list_mul_2 _ _) (AutoListH.list___mul___list_int_3 l its.toArray n k t Vr Vq Ub) ⟨e,?_⟩⟩)
 rw[Vs];exact⟨.ref _,_,I.Je (t':=s.toks) (r.rep k.toNat) (by rw[len_rep,Nat.mul_comm];exact hz),rfl,q _ I.fresh⟩
end
section
variable {prog:ZE} {w:World} {A:ZX} {E:Value->Y4->Prop} {s:Y4}
set_option maxRecDepth 100000 in
end
section
variable {X:Cx}
end
end L2
namespace JH
open PySem PySem.W PySem.Calls PyProof.Rows
theorem Kz {P:Params} {h:Heap}:∀(ns:List Int) (vs:List Value),WellAll P h vs (ns.map WData.int)->acz vs ns:=by
 intro ns
 induction ns with
 |nil =>
  intro vs w;rw[aaL] at w;cases w;exact .nil
 |cons n ns ih =>
  intro vs w;rw[Zl] at w
  cases w with
  |cons a b =>
   cases a;exact .cons _ _ (ih _ b)
theorem Ng {l:OpenLaw} {n:Nat} (hn:l.most=some n) {P:Params} {h:Heap} {args:List WData} {vals:List Value}
  (wM:l.row.toRowW.claim.pre args=true) (Bt:WellAll P h vals args) :
  ∃a vs ns,vals=[abG a]/\args=[WData.list (ns.map WData.int)]/\h.get? a=some { cls:=.type "list",data:=.seq vs.toArray }/\acz vs ns/\ns.length<=n:=by
 have V8:WShape.hasAll [] args [.list .int]=true:=(pre_splitW wM).1;have hc:l.pre.holds [] { args:=args }=true:=(pre_splitW wM).2;obtain⟨d,r,rfl,h1,h2⟩:=hasAllW_cons V8;obtain rfl:=hasAllW_nil h2;obtain⟨xs,rfl,h3⟩:=hasW_list h1;obtain⟨ns,rfl⟩:=items_int h3;have hlen:ns.length<=n:=by
  unfold OpenLaw.pre at hc;have h4:(WTm.not (.lt (.lit (.int (n:Int))) (.len (.arg 0)))).holds [] { args:=[.list (ns.map .int)] }=true:=by
   have h4:=(holds_andW hc).1;rw[hn] at h4;exact h4
  have h5:=condW_of h4 (w_not (w_lt w_lit (w_len_list (w_arg rfl))));rw[Y1] at h5;refine abH λq=>?_;have q':(n:Int)<((ns.length:Nat):Int):=by omega
  first
   |(rw[decide_eq_true q'] at h5;exact absurd h5 (by decide))
   |(simp at h5;omega)
 cases Bt with
 |cons w1 w2 =>
  cases w2
  cases w1 with
  |list ho cw=>exact⟨_,_,ns,rfl,rfl,ho,Kz ns _ cw,hlen⟩
theorem Nh (l:OpenLaw) (args:List WData):l.row.toRowW.claim.post args (.bool true) args=true :=
 postW_of (r:=l.row.toRowW) (X:=(true==true))
  (show WShape.has [] (.bool true) .bool=true by first|rfl|decide|simp[WShape.has,WShape.arms,WShape.armsAll])
  (show (WTm.eq .res (.lit (.bool true))).value [] { args:=args,res:=some (.bool true),after:=args }=some (.bool (true==true)) from w_eq_bool (w_res rfl) w_lit) rfl
theorem LB {l:OpenLaw} {n:Nat} {q:ZE} {loose:List Str} {XP:(Str->Option Value)->Heap->Prop} {YP:World->Heap->Prop} {d:DefRec}
  (hn:l.most=some n) (tB:d.params.defaults=[])
  (call:∀(w:World) (dC bA:Y4) (mg mb:Str->Option Value) (fa:Addr) (o:Obj) (pm cd doc:Value) (a:Addr) (vs:List Value) (ns:List Int),
   Ground q loose [] XP w dC mg mb bA.heap->YP w bA.heap ->
   bA.heap.get? fa=some o->o.data=.func (docDef d.name d.params d.body d.scope pm cd doc)->bA.heap.CodeRec cd d.name->mg d.name=some (.ref fa) ->
   bA.heap.get? a=some { cls:=.type "list",data:=.seq vs.toArray }->acz vs ns->ns.length<=n->bA.gens=#[] ->
   adk (model l.prog w) callerA (.call (.ref fa) ⟨[.ref a],[]⟩) (λr s'=>r=.ok (.ret (.bool true))/\OldK bA.heap s'.heap/\s'.os=bA.os/\AllBare s'.gens) bA) :
  WalkO q loose XP YP l.row.toRowW d [] (λf vs=>PySem.call f vs):=by
 intro w dC bA mg mb G Y fa o pm cd doc dV kV ho hd jZ hD tD hg args vals as wM Yw YF Bt JI;obtain rfl:dV=.none:=Dflts.none hD tB;obtain rfl:kV=.none:=Dflts.noKw hD;obtain⟨a,vs,ns,rfl,rfl,AW,hints,hlen⟩:=Ng hn wM Bt;refine enter_call (aa3 (call w dC bA mg mb fa o pm cd doc a vs ns G Y ho (fd_plain hd) jZ tD AW hints hlen hg) λr s' hq=>?_);obtain⟨rfl,h2,h3,h4⟩:=hq
 exact⟨.inl ⟨.bool true,.bool true,[],rfl,λ_=>rfl,.bool true,Nh l _,λ_=>⟨List.Pairwise.nil,λ_ hm=>(nomatch hm)⟩⟩,h2,h3,h4⟩
section
variable {prog:ZE} {w:World} {A:ZX} {E:Value->Y4->Prop} {s:Y4} {K:Frag}
noncomputable def ledger (h:Heap) (L d:Addr):List (Addr×Obj):=(Zk h.objs.size).filterMap λa=>if a=L\/a=d then none else (h.get? a).map λo=>(a,o)
end
end JH
namespace L2
open PySem PySem.Spec PyProof.Rows
theorem EL:∀{vs:List Value} {ns:List Int},acz vs ns->Vals (ns.map V.int) vs
 |_,_,.nil=>.nil
 |_,_,.cons n t h=>.cons ⟨t,rfl⟩ (EL h)
def AX (H:Hp):Prop:=∀b,H b=none\/∃o xs,H b=some (.cE o (.lst xs))
theorem Ow {P:ZE} {w:World} {K:Frag} {mg mb:Str->Option Value} {CX:js} {k:Nat} {fa a:Addr} {fd:ZA} {x:Str} {sp:Sp} {bA:Y4} {vs:List Value} {ns:List Int}
  (KX:K.In bA.heap) (qG:bA.heap.Ns Zy mg) (hb:bA.heap.Ns builtinsNs mb) (V9:∀x:Str,x≠"__name__"->mb x=ZL x) (Vt:bA.heap.NoLimit) (hg:bA.gens=#[])
  (ha:bA.heap.get? a=some { cls:=.type "list",data:=.seq vs.toArray }) (hi:acz vs ns) (hl:ns.length<=Zf) (hr:cM k callerA)
  (F:∀base:Heap,K.In base->base.Ns Zy mg->aV P w K mg base CX k fa fd [x] sp) (Uc:∀(s:Y4) (u:Value),BindsTo s fd ⟨[u],[]⟩ [(x,u)])
  (mY:∀H:Hp,AX H->bQ K H a (ns.map V.int)->sp [.ref a] H (λv _=>v=.bl true) λ_ _ _=>False)
  (Bu:∀H e s',CX [] H bA (λ_ _ _=>False) e s'->False) :
  adk (model P w) callerA (.call (.ref fa) ⟨[.ref a],[]⟩) (λr s'=>r=.ok (.ret (.bool true))/\OldK bA.heap s'.heap/\s'.os=bA.os/\AllBare s'.gens) bA:=by
 have rv:=EL hi;have Vu:=hi.length;have core:∀H:Hp,AX H->bQ K H a (ns.map V.int)->cm P w H bA.heap->(∀b,H b≠none->b=a)->(H a≠none->K.lookup a=none) ->
   adk (model P w) callerA (.call (.ref fa) ⟨[.ref a],[]⟩) (λr s'=>r=.ok (.ret (.bool true))/\OldK bA.heap s'.heap/\s'.os=bA.os/\AllBare s'.gens) bA:=by
  intro H hO hS aG hA hK;have Ge:∀{b:Addr} {o:Obj},bA.heap.get? b=some o->H b=none->(lQ bA.heap H).get? b=some o:=λe n=>Oh e n;have tj:∀{b:Addr} {o:Obj} {es:Array ady} {ep:Nat},bA.heap.get? b=some o->o.data=.dict es ep->H b=none:=λ{b o es ep} e d=>by
   cases q:H b with
   |none=>rfl
   |some u =>
    have e':b=a:=hA b (by rw[q];simp);subst e';rw[ha] at e;cases e;have d':Data.seq vs.toArray _=Data.dict es ep:=d;cases d'
  have xo:∀{b:Addr} {m:Str->Option Value},bA.heap.Ns b m->(lQ bA.heap H).Ns b m:=λ{b m} ⟨o,es,ep,e,d,r⟩=>⟨o,es,ep,Ge e (tj e d),d,r⟩;have JJ:K.In (lQ bA.heap H):=λb o e=>Ge (KX b o e) (by
   cases q:H b with
   |none=>rfl
   |some u =>
    have e':b=a:=hA b (by rw[q];simp);subst e';rw[hK (by rw[q];simp)] at e;cases e)
  have hM:Mod K mg (lQ bA.heap H):=⟨JJ,xo qG,⟨mb,xo hb,V9⟩,let ⟨mc,h1,h2⟩:=Vt;⟨mc,xo h1,h2⟩⟩
  have e0:wJ P w K mg (lQ bA.heap H) callerA [] bA H:=⟨rfl,hM,λb o e=>PY e,Nat.le_of_eq (M6 _ _),trivial,λb hb=>absurd (show b∈([]:List Addr) from hb) (by simp),aG,.of_eq hg⟩;refine aa3 ((F _ JJ (xo qG)).run callerA [] bA H ⟨[.ref a],[]⟩ [.ref a] [.ref a] _ _ hr e0 (Uc bA (.ref a)) (.cons rfl .nil) (mY H hO hS)) λr s' h=>?_
  cases r with
  |error e=>exact(Bu H e s' h).elim
  |ok fl =>
   cases fl with
   |next=>exact abU h
   |brk=>exact abU h
   |cont=>exact abU h
   |ret u =>
    obtain⟨v,H',os,bare,un,Vv,r',q⟩:=h;have q':v=.bl true:=q;subst q';obtain rfl:u=Value.bool true:=r';refine⟨rfl,OldK.of_keep λb o e=>?_,os,bare⟩
    cases q:H b with
    |none=>exact un.keep b o e q (by intro z;exact absurd (show b∈([]:List Addr) from z) (by simp)) (by simp)
    |some u =>
     rcases hO b with z | ⟨ob,xs,z⟩
     ·rw[q] at z;cases z
     ·have z2:=un.iP b ob _ z
      obtain⟨e1,_⟩:=aG b _ z;obtain⟨e2,_⟩:=Vv b _ z2;rw[e] at e1;cases e1;exact e2
 cases hk:K.lookup a with
 |some o =>
  have e:=KX a o hk;rw[ha] at e;cases e;refine core (λ_=>none) (λ_=>.inl rfl) (.inr ⟨_,vs.toArray,_,hk,rfl,rfl,rfl,by rw[Zg,Vu];exact hl,by simpa using rv⟩) (λb u z=>by have z':(none:Option HO)=some u:=z;cases z') (λb z=>absurd rfl z) λz=>absurd rfl z
 |none =>
  refine core (λb=>if b=a then some (.cE { cls:=.type "list",data:=.seq vs.toArray } (.lst (ns.map V.int))) else none) (λb=>?_) (.inl (.inr ⟨{ cls:=.type "list",data:=.seq vs.toArray },if_pos rfl⟩)) (λb u z=>?_) (λb z=>?_) λ_=>hk
  ·by_cases hb:b=a
   ·exact .inr ⟨_,_,if_pos hb⟩
   ·exact .inl (if_neg hb)
  ·by_cases hb:b=a
   ·have z':=(if_pos hb).symm.trans z
    cases z';subst hb;exact⟨ha,by rw[Y1];exact hl,vs,_,rv,ha⟩
   ·have z':=(if_neg hb).symm.trans z
    cases z'
  ·by_cases hb:b=a
   ·exact hb
   ·exact absurd (if_neg hb) z
end L2
namespace L2
open PySem PySem.Spec PyProof.Rows
noncomputable abbrev YG {K:Frag} {h:Heap} (_:K.In h):Frag:=K
theorem Qj {l:PySem.W.OpenLaw} {n k:Nat} {q:ZE} {loose:List Str} {XP:(Str->Option Value)->Heap->Prop} {YP:World->Heap->Prop} {d:DefRec} {K:Params->Frag} {CX:World->js} {sp:World->Sp} {x:Str}
  (hn:l.most=some n) (Wa:n<=Zf) (tB:d.params.defaults=[]) (hr:cM k callerA)
  (hY:∀(w:World) (h:Heap),YP w h->(K w.params).In h)
  (F:∀(w:World) (mg:Str->Option Value) (fa:Addr) (h:Heap),(K w.params).In h->h.Ns Zy mg->mg d.name=some (.ref fa) ->
   ∃fd:ZA,(∀(s:Y4) (u:Value),BindsTo s fd ⟨[u],[]⟩ [(x,u)]) /\
    ∀base:Heap,(K w.params).In base->base.Ns Zy mg->aV l.prog w (K w.params) mg base (CX w) k fa fd [x] (sp w))
  (mY:∀(w:World) (H:Hp) (a:Addr) (ns:List Int),ns.length<=n->AX H->bQ (K w.params) H a (ns.map V.int)->sp w [.ref a] H (λv _=>v=.bl true) λ_ _ _=>False)
  (Bu:∀(w:World) (H:Hp) (s:Y4) (e:Value) (s':Y4),CX w [] H s (λ_ _ _=>False) e s'->False) :
  PySem.W.WalkO q loose XP YP l.row.toRowW d [] (λf vs=>PySem.call f vs):=by
 refine JH.LB hn tB λw dC bA mg mb fa o pm cd doc a vs ns G Y ho hd jZ tD AW hints hlen hg=>?_;have KX:=hY w _ Y;obtain⟨fd,hb,hF⟩:=F w mg fa _ KX G.T.g tD;exact Ow KX G.T.g G.T.b G.T.builtins G.T.nolimit hg AW hints (Zo hlen Wa) hr hF hb (λH hO hS=>mY w H a ns hlen hO hS) λH e s'=>Bu w H bA e s'
end L2
namespace L2
open PySem PySem.Spec PyProof.Rows
noncomputable def nU (s:Stmt):Arguments:=match s with
 | .FunctionDef _ a _ _ _ _ _ _ _ _=>a
 |_=>{ posonlyargs:=[],args:=[],vararg:=none,kwonlyargs:=[],kw_defaults:=[],kwarg:=none,defaults:=[] }
noncomputable def lg (s:Stmt):List Stmt:=match s with
 | .FunctionDef _ _ b _ _ _ _ _ _ _=>b
 |_=>[]
noncomputable def aX (s:Stmt):Scope:=match s with
 | .FunctionDef _ _ _ _ _ _ sc _ _ _=>sc
 |_=>{ kind:=.function,names:=[],isGenerator:=false,isCoroutine:=false }
noncomputable abbrev aY:js:=λ_ _ _ _ _ _=>False
noncomputable abbrev E0:XK:=λ_ _ _=>False
theorem Ud {X:Cx}:Passes aY X E0:=λ_ _ _ _ _ _ _ h=>h.elim
structure oS (K:Frag) (x qual:Str) (st:Stmt) (f:Addr) (fd:ZA):Prop where
 ex:∃(oc:Value) (od:Option Addr) (kV doc pm:Value) (an:Option Addr) (bg ct:Value) (mW:Array (Option Value)),
  fd=aby x qual (nU st) (lg st) (aX st) .none kV doc pm an bg ct/\K.lookup f=some ⟨oc,od,.func fd,mW⟩/\acX K bg qual=true
 kp:abp K (.ref f)=true
section
variable {P:ZE} {w:World} {K:Frag} {mg:Str->Option Value} {base:Heap}
theorem oS.ok {x qual:Str} {st:Stmt} {f:Addr} {fd:ZA} {N ps:List Str} {k:Nat} {sp:Sp} (F:oS K x qual st f fd) (S:bz N ps (aX st)) (len:∀vs H Q E,sp vs H Q E->vs.length=ps.length)
  (Ah:∀(bg:Value) (A:ZX) (outer:List Env) (s:Y4) (H:Hp) (vs:List V) (Q:VK) (E:XK),cM k (A.deeper (envOfC qual (aX st) s.heap.objs.size f bg))->sp vs H Q E ->
   ∃t,eD (oA aY P w K mg base N qual (aX st) f bg A outer s H E).sP (lg st) t/\t { nx:=λ_ H'=>Q .aA H',rt:=Q } (start N vs) H):aV P w K mg base aY (k+1) f fd ps sp:=by
 obtain⟨oc,od,kV,doc,pm,an,bg,ct,mW,rfl,lk,jZ⟩:=F.ex;refine T5 lk jZ S len λA outer s H vs Q E hr mY=>?_;obtain⟨t,h,q⟩:=Ah bg A outer s H vs Q E hr mY;exact⟨t,h.sP,q⟩
theorem oS.binds {x qual:Str} {st:Stmt} {f:Addr} {fd:ZA} {ps:List Str} (F:oS K x qual st f fd)
  (h:∀(kV doc pm:Value) (an:Option Addr) (bg ct:Value) (us:List Value),us.length=ps.length->bindArgs (aby x qual (nU st) (lg st) (aX st) .none kV doc pm an bg ct) ⟨us,[]⟩=pure (ps.zip us)):Binds K fd ps []:=by
 obtain⟨oc,od,kV,doc,pm,an,bg,ct,mW,rfl,lk,jZ⟩:=F.ex;exact .all (h kV doc pm an bg ct)
theorem Ha {x qual:Str} {st:Stmt} {f:Addr} {oc:Value} {od an:Option Addr} {mW:Array (Option Value)} {kV doc pm bg ct:Value} (l:K.lookup f=some ⟨oc,od,.func (aby x qual (nU st) (lg st) (aX st) .none kV doc pm an bg ct),mW⟩)
  (c:acX K bg qual=true) (k:abp K (.ref f)=true):oS K x qual st f (aby x qual (nU st) (lg st) (aX st) .none kV doc pm an bg ct):=⟨⟨oc,od,kV,doc,pm,an,bg,ct,mW,rfl,l,c⟩,k⟩
end
section
variable {X:Cx}
end
def jO (H H':Hp):Prop:=∀b o,H b=some o->H' b=some o
theorem jO.refl (H:Hp):jO H H:=λ_ _ h=>h
end L2
namespace L2
open PySem PySem.Spec PyProof.Rows
theorem Mh (J:Nat->Y4->Prop)
 (turn:∀n s,J n s->wpAny (model P w) A (abr iX) (λr s1=>match r with
   |none=>R (.ok .next) s1
   |some v=>wpAny (model P w) A (abt tg iX v) (λ_ s2=>wpAny (model P w) A (acZ tg ce v) (λ_ s3 =>
     wpAny (model P w) A (forIn tests true λc r=>if r=true then do let ok <- isTrue c ce (eval c ce);pure (abP ok) else pure (abP r)) (λok s4 =>
      if ok=true then wpAny (model P w) A (eval el ce) (λy s5=>wpAny (model P w) A (call (.builtin "list.append") [av,y]) (λ_ s6=>∃m,m<n/\J m s6) (λ_ _=>False) s5) (λ_ _=>False) s4
      else ∃m,m<n/\J m s4) (λ_ _=>False) s3) (λ_ _=>False) s2) (λ_ _=>False) s1) (λ_ _=>False) s)
 (n:Nat) (h:J n s):adk (model P w) A (.compLoop (.ListComp el [⟨tg,src,tests,0⟩] sc ps) 0 iX av ce) R s:=by
 refine codeAny_loop rfl J (λn s hJ=>?_) n h
 show wpAny _ A ((compTurn (.ListComp el [⟨tg,src,tests,0⟩] sc ps) 0 iX av ce).onRaise (λx=>do noteFrame x ce;theTreesLotGoes x)) _ _ s
 refine wpAny_noted ?_;rw[compTurn_list];refine YX (abA (YX (aaQ (turn n s hJ) (λr s1 h1=>?_) λ_ _ z=>z.elim)))
 cases r with
 |none=>exact YZ h1
 |some v =>
  refine YX (aaQ h1 (λ_ s2 h2=>?_) λ_ _ z=>z.elim);refine YX (aaQ h2 (λ_ s3 h3=>YX (aaQ h3 (λok s4 h4=>?_) λ_ _ z=>z.elim)) λ_ _ z=>z.elim)
  cases ok with
  |false=>exact YZ ⟨rfl,h4⟩
  |true =>
   exact YX (YX (aaQ h4 (λy s5 h5=>YX (aaQ h5 (λ_ s6 h6=>YZ (YZ ⟨rfl,h6⟩)) λ_ _ z=>z.elim)) λ_ _ z=>z.elim))
theorem yu (env:Env):∀(l:List (Str×abV)) (acc:List (Str×Addr)),(∀n,(n,ZQ)∈l->∃c,env.cells.lookup n=some c) ->
  ∃cl,(forIn l acc (λ(p:Str×abV) (cs:List (Str×Addr))=>(do
   if (p.2==ZQ)=true then do let c <- cellOf env p.1;pure (abP ((p.1,c)::cs)) else pure (abP cs):Sem (ForInStep (List (Str×Addr))))))=pure cl /\
   ∀n c,cl.lookup n=some c↔(((n,ZQ)∈l/\env.cells.lookup n=some c)\/((n,ZQ)∉l/\acc.lookup n=some c))
 | [],acc,_=>⟨acc,rfl,λn c=>by simp⟩
 |(x,k)::r,acc,h=>by
  rw[List.forIn_cons]
  cases hk:(k==ZQ) with
  |false =>
   have dN:k≠.free:=by intro e;rw[e] at hk;cases hk
   obtain⟨cl,e,q⟩:=yu env r acc λn hn=>h n (Zd _ hn);refine⟨cl,?_,λn c=>?_⟩
   ·simp only[Y2,if_false]
    exact e
   ·rw[q n c]
    have:(n,ZQ)∈(x,k)::r↔(n,ZQ)∈r:=by
     constructor
     ·intro hm
      rcases Zh.mp hm with z|z
      ·injection z with _ z2
       exact absurd z2.symm dN
      ·exact z
     ·exact Zd _
    rw[this]
  |true =>
   have he:k=.free:=by cases k<;>first|rfl|cases hk
   subst he;obtain⟨c0,Bv⟩:=h x Zb;obtain⟨cl,e,q⟩:=yu env r ((x,c0)::acc) λn hn=>h n (Zd _ hn);refine⟨cl,?_,λn c=>?_⟩
   ·simp only[if_true,cellOf,Bv]
    exact e
   ·rw[q n c]
    by_cases hx:n=x
    ·subst hx
     constructor
     ·rintro (⟨_,z⟩ | ⟨_,z⟩)
      ·exact .inl ⟨Zb,z⟩
      ·rw[aaM,beq_self_eq_true] at z
       exact .inl ⟨Zb,Bv.trans z⟩
     ·rintro (⟨_,z⟩ | ⟨z,_⟩)
      ·by_cases hm:(n,ZQ)∈r
       ·exact .inl ⟨hm,z⟩
       ·refine .inr ⟨hm,?_⟩
        rw[aaM,beq_self_eq_true];exact Bv.symm.trans z
      ·exact absurd Zb z
    ·have:(n,ZQ)∈(x,ZQ)::r↔(n,ZQ)∈r:=by
      constructor
      ·intro hm
       rcases Zh.mp hm with z|z
       ·injection z with z1 _
        exact absurd z1 hx
       ·exact z
      ·exact Zd _
     rw[this,aaM,beq_false_of_ne hx]
theorem Hb (h:∀n,(n,ZQ)∈sc.names->∃c,env.cells.lookup n=some c) :
  ∃cl,closureFor sc env=pure cl/\∀n c,cl.lookup n=some c↔((n,ZQ)∈sc.names/\env.cells.lookup n=some c):=by
 obtain⟨cl,e,q⟩:=yu env sc.names [] h;refine⟨cl,?_,λn c=>?_⟩
 ·unfold closureFor
  exact(congrArg (λz:Sem (List (Str×Addr))=>z >>= λr=>pure r) e)
 ·rw[q n c]
  simp
theorem Fm (f:Str->abV->abV) (x:Str):∀l:List (Str×abV),(l.map λp=>(p.1,f p.1 p.2)).lookup x=(l.lookup x).map (f x)
 | []=>rfl
 |(n,k)::r=>by
  rw[Zl,aaM,aaM]
  cases h:x==n with
  |true =>
   have e:x=n:=by simpa using h
   subst e;rfl
  |false=>exact Fm f x r
theorem uz (sc:Scope) (env:Env) (x:Str):(relabel sc env).names.lookup x=(sc.names.lookup x).map λk=>if (k==ZQ&&env.scope.kind==.function&&env.kindOf x==some .cell)=true then NameKind.cell else k:=by
 rw[<- Fm (λx k=>if (k==ZQ&&env.scope.kind==.function&&env.kindOf x==some .cell)=true then NameKind.cell else k)]
 show List.lookup x (sc.names.map _)=_;congr 1;apply acn;rintro ⟨n,k⟩ _;dsimp only
 split<;>rfl
noncomputable abbrev dW (X:Cx) (N:List Str) (sc:Scope) (cl:List (Str×Addr)) (C:Addr) (s:Y4) (H:Hp) (ex:List Addr) (pn:List (Addr×Obj)):Cx where
 prog:=X.prog
 w:=X.w
 K:=X.K
 mg:=X.mg
 base:=X.base
 A:=X.A
 N:=N
 dC:=s
 sj:=H
 env:=compEnvC sc cl C X.env
 outer:=X.stack
 stack:=X.stack
 ex:=ex
 fn:=λ_=>false
 calm:=X.calm
 pn:=pn
 xe:=λ_ _=>False
structure rD (X:Cx) (sc:Scope) (N:List Str) (nt:Nat) (cap:List Nat):Prop where
 kind:sc.kind=.function
 Hc:∀x∈sc.names,x.2≠.cell
 names:∀x∈sc.names,x.2=.local->sc.names.lookup x.1=some .local
 frees:∀x∈sc.names,x.2=.free->sc.names.lookup x.1=some .free/\(X.env.scope.names.lookup x.1=some .cell\/X.env.scope.names.lookup x.1=some .free)
 len:N.length=nt+cap.length
 AY:∀(k:Nat) j,cap[k]?=some j->∃x,X.N[j]?=some x/\N[nt+k]?=some x/\(x,ZQ)∈sc.names
noncomputable def kq (nt:Nat) (cap:List Nat) (σ:St):St:=Za nt none++cap.map λj=>(σ[j]?).getD none
def PF (X:Cx) (tests:List Expr) (t:TT):Prop :=
 ∀(pins:List (Addr×Obj)) (s:Y4) (σ:St) (H:Hp) (Q:Bool->Hp->Prop),Inv X pins σ H s->t σ H Q ->
  wpAny (model X.prog X.w) X.A (forIn tests true λc r=>if r=true then do let ok <- isTrue c X.env (eval c X.env);pure (abP ok) else pure (abP r)) (TP X pins σ Q) X.xe s
noncomputable def Vw:TT:=λ_ H Q=>Q true H
theorem Sa:PF X [] Vw:=λ_ _ _ H _ I h=>wpAny_tests_nil ⟨H,I,h⟩
theorem Sb (h:PT X c t):PF X [c] t:=λpins s σ H Q I hw=>wpAny_tests_one (h pins s σ H Q I hw)
def lX (g:TG) (nt:Nat):Prop:=∀(x:V) (o caps:St) (H:Hp) (R:St->Hp->Prop),o.length=nt->g x (o++caps) H R->g x (o++caps) H fun τ H2=>(∃o2:St,o2.length=nt/\τ=o2++caps)/\R τ H2
noncomputable def mG (cap:List Nat) (σ:St):St:=cap.map λj=>(σ[j]?).getD none
def CW (J:It) (nt:Nat) (caps:St) (g:TG) (tf:TT) (te:TE) (H:Hp) (Q:VK):Prop:=∃W:Nat->Nat->List V->Hp->Prop,(∃m,W 0 m [] H) /\
 ∀i m acc H2,W i m acc H2->(J.stop i H2/\acc.length<=Zf/\∀D,H2 D=none->Q (.ref D) (upd H2 D (.lst acc))) \/
  (J.go i H2/\acc.length<=Zf/\∃N:List V->Hp->Prop,(∀fG H',N fG H'->∃m',m' < m/\W (i+1) m' fG H') /\
   ∀o x H3,o.length=nt->J.sS i H2 x H3->g x (o++caps) H3 fun oT H4=>tf oT H4 λb H5=>if b=true then te oT H5 λv H6=>N (acc++[v]) H6 else N acc H5)
noncomputable def lJ (wi:TI) (nt:Nat) (cap:List Nat) (g:TG) (tf:TT) (te:TE):TE:=fun σ H Q=>wi σ H λJ H1=>CW J nt (mG cap σ) g tf te H1 Q
section
variable {fs ex:List Addr} {H H':Hp} {h h1 h2:Heap} {P:ZE} {w:World}
theorem Un.adopt {D:Addr} {o:HO} (u:Un fs ex H H' h h1) (hp:h.objs.size<=D) (hn:H' D=none):Un fs ex H (upd H' D o) h h1 where
 keep:=u.keep
 slot:=u.slot
 free:=λb ob q n hx=>by rw[bq (Zn (Y5 (Y9 q) hp))];exact u.free b ob q n hx
 there:=u.there
 jm:=λb xs q=>by rw[bq (eO (u.jm b xs q) hn)];exact u.jm b xs q
 iP:=λb ob xs q=>by rw[bq (eO (u.iP b ob xs q) hn)];exact u.iP b ob xs q
 jK:=λb ps q=>by
  obtain⟨more,e⟩:=u.jK b ps q;exact⟨more,by rw[bq (eO e hn)];exact e⟩
theorem Un.but {C:Addr} (u:Un fs ex H H' h h1) (hp:h.objs.size<=C) (sb:aaz C h1 h2):Un fs ex H H' h h2:=by
 have ne:∀b ob,h.get? b=some ob->b≠C:=λb ob q=>Zn (Y5 (Y9 q) hp);refine⟨λb ob q n hb hx=>(sb.2 b (ne b ob q)).trans (u.keep b ob q n hb hx),λb ob q n hb hx=>?_,u.free,λb ob q hx=>?_,u.jm,u.iP,u.jK⟩
 ·obtain⟨sl,e⟩:=u.slot b ob q n hb hx
  exact⟨sl,(sb.2 b (ne b ob q)).trans e⟩
 ·obtain⟨o',e⟩:=u.there b ob q hx
  exact⟨o',(sb.2 b (ne b ob q)).trans e⟩
theorem cm.but (x:cm P w H h1) (hn:H C=none) (sb:aaz C h1 h2):cm P w H h2:=λa o e =>
 (x a o e).gG (λb u hb q=>(sb.2 b (by
  rintro rfl
  rcases hb with z|z
  ·subst z;rw[hn] at e;cases e
  ·rw[hn] at z;cases z)).trans q) (λ_ q=>q) λ_ _ q=>q
theorem cm.adopt (x:cm P w H h) (hn:H D=none) (new:cL P w (upd H D o) h D o):cm P w (upd H D o) h:=λb u e=>by
 by_cases hb:b=D
 ·subst hb;rw[cF] at e;cases e;exact new
 ·rw[bq hb] at e
  exact(x b u e).gG (λc v _ q=>q) (λc q=>by rw[bq (eO q hn)];exact q) λc xs q=>by rw[bq (eO q hn)];exact q
end
section
variable {X:Cx} {sc:Scope} {N:List Str} {nt:Nat} {cap:List Nat} {cl:List (Str×Addr)} {s:Y4} {h1:Heap} {H:Hp} {σ:St} {pins:List (Addr×Obj)} {fp:List Addr} {C:Addr} {t':Nat}
theorem Inv.block (I:Inv X pins σ H s) (S:rD X sc N nt cap) (dO:∀n c,cl.lookup n=some c↔((n,ZQ)∈sc.names/\X.env.cells.lookup n=some c)) (hf:∀b∈fp,gb X pins H b) (iZ:∀b∈fp,b<s.heap.objs.size)
  (hk:∀b o,s.heap.get? b=some o->h1.get? b=some o) (hC:s.heap.objs.size<=C) (qG:∃m,h1.Ns C m):Inv (dW X N sc cl C s H fp (X.pn++pins)) [] (kq nt cap σ) H { s with heap:=h1,toks:=t' }:=by
 have rW:∀b∈gM X.stack,b∈X.env.locals::X.fs:=I.lp;have JK:C∉gM X.stack:=λz=>by
  rcases Zh.mp (I.lp C z) with e|e
  ·exact absurd (Y5 I.lt hC) (by rw[e];exact ZF _)
  ·exact I.sk hC e
 have Ak:∀x,(relabel sc X.env).names.lookup x=some .cell\/(relabel sc X.env).names.lookup x=some .free->(x,ZQ)∈sc.names:=λx hx=>by
  rw[uz] at hx
  cases e:sc.names.lookup x with
  |none=>rw[e] at hx;rcases hx with z|z<;>cases z
  |some k =>
   have hm:(x,k)∈sc.names:=by
    obtain⟨l1,l2,e1,_⟩:=List.lookup_eq_some_iff.mp e;rw[e1];simp
   rw[e] at hx
   cases k with
   |free=>exact hm
   |cell=>exact absurd rfl (S.Hc _ hm)
   |_=>exfalso;revert hx;simp
 have y0:∀x,(x,ZQ)∈sc.names->∃c,X.env.cells.lookup x=some c:=λx hx=>I.ok.has x (S.frees _ hx rfl).2;have ok:Cx.Ok (dW X N sc cl C s H fp (X.pn++pins)):=by
  refine⟨I.ok.mod,?_,I.ok.glob,I.ok.blt,hC,?_,?_,?_,I.ok.hd,I.ok.frames,.inl rfl,?_,I.bs,Zo I.ok.jY I.sz,?_,?_,I.stack,I.yV⟩
  ·exact S.kind
  ·intro x y c hx hy
   exact I.ok.inj x y c ((dO x c).mp hx).2 ((dO y c).mp hy).2
  ·intro x hx
   have hm:=Ak x hx;obtain⟨c,e⟩:=y0 x hm;exact⟨c,(dO x c).mpr ⟨hm,e⟩⟩
  ·intro x c hx
   cases hx
  ·intro b hb
   refine⟨Zn (Y5 (iZ b hb) hC),λx c e=>?_⟩;exact(hf b hb).2.2.2.2.1 x c ((dO x c).mp e).2
  ·intro b o e hb
   rcases(hf b hb).2.2.2.1 with z|z
   ·exact I.ok.ou b o e z
   ·exact absurd (Y5 (Y9 e) (Zo I.ok.jY z)) (ZF _)
  ·intro b hb z
   rcases Zh.mp (rW b z) with e|e
   ·exact(hf b hb).2.1 e
   ·exact(hf b hb).2.2.1 e
 obtain⟨m,hm⟩:=qG;obtain⟨mX,Wb,Bw⟩:=I.loc;refine⟨ok,rfl,I.bare,Un.kept hk,⟨m,hm,λi x v e1 e2 e3=>?_⟩,λx c e=>?_,I.aG.fresh hC,λx c e=>I.fj x c ((dO x c).mp e).2,λp hp=>?_,I.aG.kept hk,?_⟩
 ·
  have hi:nt<=i:=by
   apply abH;intro bC;have:(kq nt cap σ)[i]?=some none:=by
    unfold kq;rw[Zm (by simpa using bC),aaq,if_pos bC]
   rw[this] at e2;cases e2
  have j5:(cap.map λj=>(σ[j]?).getD none)[i-nt]?=some (some v):=by
   have e:=e2;unfold kq at e;rw[ZK (by simpa using hi)] at e;simpa using e
  rw[Zj] at j5
  cases ej:cap[i-nt]? with
  |none=>rw[ej] at j5;cases j5
  |some j =>
   rw[ej] at j5;have ev:(σ[j]?).getD none=some v:=Option.some.inj j5;have tF:σ[j]?=some (some v):=by
    cases q:σ[j]? with
    |none=>rw[q] at ev;cases ev
    |some z=>rw[q] at ev;exact congrArg some ev
   obtain⟨y,f1,f2,f3⟩:=S.AY _ _ ej;rw[Nat.add_sub_cancel' hi] at f2;have Bx:y=x:=Option.some.inj (f2.symm.trans e1);subst Bx;obtain⟨g1,g2⟩:=S.frees _ f3 rfl;have By:sI X.env.scope y:=.inr g2;obtain⟨u,r,l⟩:=Bw j y v f1 tF By;refine⟨u,r,.inr ⟨?_,?_⟩⟩
   ·show (relabel sc X.env).names.lookup y=some .cell\/(relabel sc X.env).names.lookup y=some .free
    rw[uz,g1];simp only[aaU];split
    ·exact .inl rfl
    ·exact .inr rfl
   ·rcases l with ⟨k,_⟩ | ⟨_,c,hc,mF⟩
    ·exfalso
     have k':X.env.scope.names.lookup y=some .local:=k;dsimp only at g2;rw[k'] at g2
     rcases g2 with z|z<;>cases z
    ·obtain⟨oc,ho,hd⟩:=mF
     exact⟨c,(dO y c).mpr ⟨f3,hc⟩,oc,hk _ _ ho,hd⟩
 ·obtain⟨v,oc,ho,hd⟩:=I.cell x c ((dO x c).mp e).2
  exact⟨v,oc,hk _ _ ho,hd⟩
 ·have fU:p∈X.pn++pins:=by simpa using hp
  obtain⟨e,n,ne,nf,d⟩:=I.pin p fU;refine⟨hk _ _ e,n,Zn (Y5 (Y9 e) hC),λz=>?_,d⟩
  rcases Zh.mp (rW p.1 z) with q|q
  ·exact ne q
  ·exact nf q
 ·unfold kq
  rw[Zx,abO,Y1];exact S.len.symm
end
section
variable {X:Cx}
end
end L2
namespace L2
open PySem PySem.Spec PyProof.Rows
inductive Kn where
 |aA|bl|int|str|tup|lst|aW
 deriving DecidableEq
noncomputable def m8 (K:Frag) (H:Hp):V->Kn->Prop
 | .aA,.aA=>True
 | .bl _,.bl=>True
 | .int _,.int=>True
 | .str _,.str=>True
 | .ref a,.tup=>∃xs,aS K H a xs
 | .ref a,.lst=>∃xs,bQ K H a xs
 | .ref a,.aW=>∃ao,H a=some (.dK ao)
 |_,_=>False
noncomputable def qt:Kn->String->Bool
 | .int,"int"=>true
 | .bl,"int"=>true
 | .bl,"bool"=>true
 | .str,"str"=>true
 | .tup,"tuple"=>true
 | .lst,"list"=>true
 |_,_=>false
section
variable {X:Cx}
theorem Inv.pX {pins:List (Addr×Obj)} {σ:St} {H:Hp} {s:Y4} {a:Addr} {xs:List V} (I:Inv X pins σ H s) (h:aS X.K H a xs):∃o,s.heap.get? a=some o/\o.cls=.type "tuple":=by
 obtain⟨its,r,⟨o,e,c,_⟩,_⟩:=I.tuple h;exact⟨o,e,c⟩
theorem Inv.pY {pins:List (Addr×Obj)} {σ:St} {H:Hp} {s:Y4} {a:Addr} {xs:List V} (I:Inv X pins σ H s) (h:bQ X.K H a xs):∃o,s.heap.get? a=some o/\o.cls=.type "list":=by
 obtain⟨its,r,⟨o,n,e,c,_⟩,_⟩:=I.list h;exact⟨o,e,c⟩
theorem Inv.pZ {pins:List (Addr×Obj)} {σ:St} {H:Hp} {s:Y4} {a:Addr} {ao:List (Key×V)} (I:Inv X pins σ H s) (h:H a=some (.dK ao)):∃o,s.heap.get? a=some o/\o.cls=.type "dict":=by
 obtain⟨_,_,vs,_,p⟩:=(show cL X.prog X.w H s.heap a (.dK ao) from I.aG a _ h);obtain⟨o,es,ep,h1,h2,_⟩:=p;exact⟨o,h1,h2.1⟩
theorem K7:cf X (.builtin "isinstance") (λxs H Q=>∃x k,xs=[x,.ty "int"]/\m8 X.K H x k/\Q (.bl (qt k "int")) H):=by
 intro pins s σ H xs us Q I r h;obtain⟨x,k,rfl,hk,q⟩:=h;obtain⟨u,c,rfl,ru,rc⟩:=vals2 r;cases rc
 cases k with
 |aA =>
  cases x with
  |aA =>
   cases ru;exact IsiPair.NoneType_int ⟨.bl false,H,I.tok _,rfl,q⟩
  |_=>exact hk.elim
 |bl =>
  cases x with
  |bl b =>
   cases ru;exact IsiPair.bool_int ⟨.bl true,H,I,rfl,q⟩
  |_=>exact hk.elim
 |int =>
  cases x with
  |int i =>
   obtain⟨t,rfl⟩:=ru;exact IsiPair.int_int ⟨.bl true,H,I,rfl,q⟩
  |_=>exact hk.elim
 |str =>
  cases x with
  |str y =>
   obtain⟨t,rfl⟩:=ru;exact IsiPair.str_int ⟨.bl false,H,I.tok _,rfl,q⟩
  |_=>exact hk.elim
 |tup =>
  cases x with
  |ref a =>
   cases ru;obtain⟨z,hz⟩:=hk;obtain⟨o,ho,hc⟩:=I.pX hz;exact IsiPair.tuple_int ho hc ⟨.bl false,H,I.tok _,rfl,q⟩
  |_=>exact hk.elim
 |lst =>
  cases x with
  |ref a =>
   cases ru;obtain⟨z,hz⟩:=hk;obtain⟨o,ho,hc⟩:=I.pY hz;exact IsiPair.list_int ho hc ⟨.bl false,H,I.tok _,rfl,q⟩
  |_=>exact hk.elim
 |aW =>
  cases x with
  |ref a =>
   cases ru;obtain⟨z,hz⟩:=hk;obtain⟨o,ho,hc⟩:=I.pZ hz;exact IsiPair.dict_int ho hc ⟨.bl false,H,I.tok _,rfl,q⟩
  |_=>exact hk.elim
theorem KR:cf X (.builtin "isinstance") (λxs H Q=>∃x k,xs=[x,.ty "bool"]/\m8 X.K H x k/\Q (.bl (qt k "bool")) H):=by
 intro pins s σ H xs us Q I r h;obtain⟨x,k,rfl,hk,q⟩:=h;obtain⟨u,c,rfl,ru,rc⟩:=vals2 r;cases rc
 cases k with
 |aA =>
  cases x with
  |aA =>
   cases ru;exact IsiPair.NoneType_bool ⟨.bl false,H,I.tok _,rfl,q⟩
  |_=>exact hk.elim
 |bl =>
  cases x with
  |bl b =>
   cases ru;exact IsiPair.bool_bool ⟨.bl true,H,I,rfl,q⟩
  |_=>exact hk.elim
 |int =>
  cases x with
  |int i =>
   obtain⟨t,rfl⟩:=ru;exact IsiPair.int_bool ⟨.bl false,H,I.tok _,rfl,q⟩
  |_=>exact hk.elim
 |str =>
  cases x with
  |str y =>
   obtain⟨t,rfl⟩:=ru;exact IsiPair.str_bool ⟨.bl false,H,I.tok _,rfl,q⟩
  |_=>exact hk.elim
 |tup =>
  cases x with
  |ref a =>
   cases ru;obtain⟨z,hz⟩:=hk;obtain⟨o,ho,hc⟩:=I.pX hz;exact IsiPair.tuple_bool ho hc ⟨.bl false,H,I.tok _,rfl,q⟩
  |_=>exact hk.elim
 |lst =>
  cases x with
  |ref a =>
   cases ru;obtain⟨z,hz⟩:=hk;obtain⟨o,ho,hc⟩:=I.pY hz;exact IsiPair.list_bool ho hc ⟨.bl false,H,I.tok _,rfl,q⟩
  |_=>exact hk.elim
 |aW =>
  cases x with
  |ref a =>
   cases ru;obtain⟨z,hz⟩:=hk;obtain⟨o,ho,hc⟩:=I.pZ hz;exact IsiPair.dict_bool ho hc ⟨.bl false,H,I.tok _,rfl,q⟩
  |_=>exact hk.elim
theorem K8:cf X (.builtin "isinstance") (λxs H Q=>∃x k,xs=[x,.ty "str"]/\m8 X.K H x k/\Q (.bl (qt k "str")) H):=by
 intro pins s σ H xs us Q I r h;obtain⟨x,k,rfl,hk,q⟩:=h;obtain⟨u,c,rfl,ru,rc⟩:=vals2 r;cases rc
 cases k with
 |aA =>
  cases x with
  |aA =>
   cases ru;exact IsiPair.NoneType_str ⟨.bl false,H,I.tok _,rfl,q⟩
  |_=>exact hk.elim
 |bl =>
  cases x with
  |bl b =>
   cases ru;exact IsiPair.bool_str ⟨.bl false,H,I.tok _,rfl,q⟩
  |_=>exact hk.elim
 |int =>
  cases x with
  |int i =>
   obtain⟨t,rfl⟩:=ru;exact IsiPair.int_str ⟨.bl false,H,I.tok _,rfl,q⟩
  |_=>exact hk.elim
 |str =>
  cases x with
  |str y =>
   obtain⟨t,rfl⟩:=ru;exact IsiPair.str_str ⟨.bl true,H,I,rfl,q⟩
  |_=>exact hk.elim
 |tup =>
  cases x with
  |ref a =>
   cases ru;obtain⟨z,hz⟩:=hk;obtain⟨o,ho,hc⟩:=I.pX hz;exact IsiPair.tuple_str ho hc ⟨.bl false,H,I.tok _,rfl,q⟩
  |_=>exact hk.elim
 |lst =>
  cases x with
  |ref a =>
   cases ru;obtain⟨z,hz⟩:=hk;obtain⟨o,ho,hc⟩:=I.pY hz;exact IsiPair.list_str ho hc ⟨.bl false,H,I.tok _,rfl,q⟩
  |_=>exact hk.elim
 |aW =>
  cases x with
  |ref a =>
   cases ru;obtain⟨z,hz⟩:=hk;obtain⟨o,ho,hc⟩:=I.pZ hz;exact IsiPair.dict_str ho hc ⟨.bl false,H,I.tok _,rfl,q⟩
  |_=>exact hk.elim
theorem KH:cf X (.builtin "isinstance") (λxs H Q=>∃x k,xs=[x,.ty "tuple"]/\m8 X.K H x k/\Q (.bl (qt k "tuple")) H):=by
 intro pins s σ H xs us Q I r h;obtain⟨x,k,rfl,hk,q⟩:=h;obtain⟨u,c,rfl,ru,rc⟩:=vals2 r;cases rc
 cases k with
 |aA =>
  cases x with
  |aA =>
   cases ru;exact IsiPair.NoneType_tuple ⟨.bl false,H,I.tok _,rfl,q⟩
  |_=>exact hk.elim
 |bl =>
  cases x with
  |bl b =>
   cases ru;exact IsiPair.bool_tuple ⟨.bl false,H,I.tok _,rfl,q⟩
  |_=>exact hk.elim
 |int =>
  cases x with
  |int i =>
   obtain⟨t,rfl⟩:=ru;exact IsiPair.int_tuple ⟨.bl false,H,I.tok _,rfl,q⟩
  |_=>exact hk.elim
 |str =>
  cases x with
  |str y =>
   obtain⟨t,rfl⟩:=ru;exact IsiPair.str_tuple ⟨.bl false,H,I.tok _,rfl,q⟩
  |_=>exact hk.elim
 |tup =>
  cases x with
  |ref a =>
   cases ru;obtain⟨z,hz⟩:=hk;obtain⟨o,ho,hc⟩:=I.pX hz;exact IsiPair.tuple_tuple ho hc ⟨.bl true,H,I,rfl,q⟩
  |_=>exact hk.elim
 |lst =>
  cases x with
  |ref a =>
   cases ru;obtain⟨z,hz⟩:=hk;obtain⟨o,ho,hc⟩:=I.pY hz;exact IsiPair.list_tuple ho hc ⟨.bl false,H,I.tok _,rfl,q⟩
  |_=>exact hk.elim
 |aW =>
  cases x with
  |ref a =>
   cases ru;obtain⟨z,hz⟩:=hk;obtain⟨o,ho,hc⟩:=I.pZ hz;exact IsiPair.dict_tuple ho hc ⟨.bl false,H,I.tok _,rfl,q⟩
  |_=>exact hk.elim
theorem KS:cf X (.builtin "isinstance") (λxs H Q=>∃x k,xs=[x,.ty "list"]/\m8 X.K H x k/\Q (.bl (qt k "list")) H):=by
 intro pins s σ H xs us Q I r h;obtain⟨x,k,rfl,hk,q⟩:=h;obtain⟨u,c,rfl,ru,rc⟩:=vals2 r;cases rc
 cases k with
 |aA =>
  cases x with
  |aA =>
   cases ru;exact IsiPair.NoneType_list ⟨.bl false,H,I.tok _,rfl,q⟩
  |_=>exact hk.elim
 |bl =>
  cases x with
  |bl b =>
   cases ru;exact IsiPair.bool_list ⟨.bl false,H,I.tok _,rfl,q⟩
  |_=>exact hk.elim
 |int =>
  cases x with
  |int i =>
   obtain⟨t,rfl⟩:=ru;exact IsiPair.int_list ⟨.bl false,H,I.tok _,rfl,q⟩
  |_=>exact hk.elim
 |str =>
  cases x with
  |str y =>
   obtain⟨t,rfl⟩:=ru;exact IsiPair.str_list ⟨.bl false,H,I.tok _,rfl,q⟩
  |_=>exact hk.elim
 |tup =>
  cases x with
  |ref a =>
   cases ru;obtain⟨z,hz⟩:=hk;obtain⟨o,ho,hc⟩:=I.pX hz;exact IsiPair.tuple_list ho hc ⟨.bl false,H,I.tok _,rfl,q⟩
  |_=>exact hk.elim
 |lst =>
  cases x with
  |ref a =>
   cases ru;obtain⟨z,hz⟩:=hk;obtain⟨o,ho,hc⟩:=I.pY hz;exact IsiPair.list_list ho hc ⟨.bl true,H,I,rfl,q⟩
  |_=>exact hk.elim
 |aW =>
  cases x with
  |ref a =>
   cases ru;obtain⟨z,hz⟩:=hk;obtain⟨o,ho,hc⟩:=I.pZ hz;exact IsiPair.dict_list ho hc ⟨.bl false,H,I.tok _,rfl,q⟩
  |_=>exact hk.elim
end
end L2
namespace L2
open PySem PySem.Spec PyProof.Rows
noncomputable def qh (p:Addr) (Ts:List String):Heap->Prop:=λh=>h.get? p=some { cls:=.type "tuple",data:=.seq (Ts.map aaV).toArray }
theorem Gf:∀{Ts:List String} {us:List Value},Vals (Ts.map V.ty) us->us=Ts.map aaV
 | [],_,.nil=>rfl
 |_::r,_,.cons h t=>by
  cases h;rw[Gf t];rfl
noncomputable def Sd (t:TA):TE:=fun σ H Q=>t σ H λxs H1=>∃Ts:List String,xs=Ts.map V.ty/\xs.length<=Zf/\∀p,H1 p=none->Q (.ref p) (upd H1 p (.ext (qh p Ts)))
section
variable {X:Cx} {es:List Expr} {t:TA} {pos:Pos}
theorem Ox {x1} (h:PA X es t):PE X (.Tuple es x1 pos) (Sd t):=by
 intro pins s σ H Q I hq;refine wpAny_Tuple_spliced (aF (h pos pins s σ H _ I hq) λus s1 ⟨xs,H1,I1,r,Ts,e,z,q⟩=>⟨by rw[<- r.length];exact z,?_⟩);subst e;have eu:=Gf r;subst eu;have hf:H1 s1.heap.objs.size=none:=I1.aG.fresh (Nat.le_refl _);refine⟨.ref s1.heap.objs.size,upd H1 s1.heap.objs.size (.ext (qh s1.heap.objs.size Ts)),I1.laid (t':=s1.toks) (λb u e=>YY _ e) (Nat.le_refl _) ?_,rfl,q _ hf⟩;refine⟨Y6 _ rfl,⟨_,Y6 _ rfl⟩,λh1 h2 e k=>k _ e⟩
theorem Se {K:Frag} {pins:List (Addr×Obj)} {σ:St} {H:Hp} {s:Y4} {x:V} {u:Value} {k:Kn} (I:Inv X pins σ H s) (hk:m8 X.K H x k) (r:RelV x u) :
  ∃Tx vs,AnswersAll (λs=>s.TypeIs u Tx) u [.type "tuple",.type "list"] vs/\s.TypeIs u Tx/\vs.any id=(decide (k=.tup)||decide (k=.lst)):=by
 cases k with
 |aA =>
  cases x with
  |aA=>cases r;exact⟨"NoneType",[false,false],.cons (.of_false_none (by decide +kernel) abh F.sub_NoneType_tuple) (.cons (.of_false_none (by decide +kernel) abv F.sub_NoneType_list) .nil),rfl,rfl⟩
  |_=>exact hk.elim
 |bl =>
  cases x with
  |bl b=>cases r;exact⟨"bool",[false,false],.cons (.of_false_bool (by decide +kernel) abh F.sub_bool_tuple) (.cons (.of_false_bool (by decide +kernel) abv F.sub_bool_list) .nil),rfl,rfl⟩
  |_=>exact hk.elim
 |int =>
  cases x with
  |int b=>obtain⟨t,rfl⟩:=r;exact⟨"int",[false,false],.cons (.of_false_int (by decide +kernel) abh F.sub_int_tuple) (.cons (.of_false_int (by decide +kernel) abv F.sub_int_list) .nil),rfl,rfl⟩
  |_=>exact hk.elim
 |str =>
  cases x with
  |str b=>obtain⟨t,rfl⟩:=r;exact⟨"str",[false,false],.cons (.of_false_str (by decide +kernel) abh F.sub_str_tuple) (.cons (.of_false_str (by decide +kernel) abv F.sub_str_list) .nil),rfl,rfl⟩
  |_=>exact hk.elim
 |tup =>
  cases x with
  |ref a =>
   cases r;obtain⟨z,hz⟩:=hk;exact⟨"tuple",[true,false],.cons (.of_true abh F.sub_tuple_tuple) (.cons (.of_false_tuple (by decide +kernel) abv F.sub_tuple_list) .nil),I.pX hz,rfl⟩
  |_=>exact hk.elim
 |lst =>
  cases x with
  |ref a =>
   cases r;obtain⟨z,hz⟩:=hk;exact⟨"list",[false,true],.cons (.of_false_list (by decide +kernel) abh F.sub_list_tuple) (.cons (.of_true abv F.sub_list_list) .nil),I.pY hz,rfl⟩
  |_=>exact hk.elim
 |aW =>
  cases x with
  |ref a =>
   cases r;obtain⟨z,hz⟩:=hk;exact⟨"dict",[false,false],.cons (.of_false_dict (by decide +kernel) abh F.sub_dict_tuple) (.cons (.of_false_dict (by decide +kernel) abv F.sub_dict_list) .nil),I.pZ hz,rfl⟩
  |_=>exact hk.elim
theorem LC:cf X (.builtin "isinstance") (λxs H Q=>∃x k p,xs=[x,.ref p]/\m8 X.K H x k/\H p=some (.ext (qh p ["tuple","list"]))/\Q (.bl (decide (k=.tup)||decide (k=.lst))) H):=by
 intro pins s σ H xs us Q I r h;obtain⟨x,k,p,rfl,hk,hp,q⟩:=h;obtain⟨u,c,rfl,ru,rc⟩:=vals2 r;cases rc;obtain⟨Tx,vs,ha,ht,hv⟩:=Se (K:=X.K) I hk ru;have ho:cL X.prog X.w H s.heap p (.ext (qh p ["tuple","list"])):=I.aG p _ hp;exact IsiPair.tupleOfB ha ht ho.1 hv λtk=>⟨.bl _,H,I.tok _,rfl,q⟩
theorem Fn {bs:List Bool} (r:Vals (bs.map V.bl) its):TruthOf X.prog X.w A (λi v=>its.toArray[i]?=some v) (λi=>bs.getD i false):=by
 intro i v s Q E hv hQ;have JL:its[i]?=some v:=by simpa using hv
 have hi:i<its.length:=(Y0.mp JL).1;have hb:i<bs.length:=by
  have e:=r.length;rw[Y1] at e;omega
 have hx:(bs.map V.bl)[i]?=some (.bl (bs[i])):=by rw[Zj,Y8 hb];rfl
 obtain⟨u,hu,ru⟩:=Vals.get r hx;rw[JL] at hu;cases hu;cases ru;have e:bs.getD i false=bs[i]:=by simp[abw,Y8 hb]
 have m9:Q (bs.getD i false) s:=hQ;rw[e] at m9;exact aaE m9
theorem range_all (bs:List Bool):(Zk bs.length).all (λi=>bs.getD i false)=bs.all id:=by
 rw[aaI,Zu,Zu];constructor
 ·intro h b hb
  obtain⟨i,hi,e⟩:=aco hb;have:=h i (ZO.mpr hi);simpa [abw,Y8 hi,e] using this
 ·intro h i hi
  have hi:=ZO.mp hi;have:=h _ (acg hi);simpa [abw,Y8 hi] using this
theorem range_any (bs:List Bool):(Zk bs.length).any (λi=>bs.getD i false)=bs.any id:=by
 rw[aaI,aaX,aaX];constructor
 ·rintro ⟨i,hi,h⟩
  have hi:=ZO.mp hi;exact⟨bs[i],acg hi,by simpa [abw,Y8 hi] using h⟩
 ·rintro ⟨b,hb,h⟩
  obtain⟨i,hi,e⟩:=aco hb;exact⟨i,ZO.mpr hi,by simpa [abw,Y8 hi,e] using h⟩
theorem Oy (hc:X.calm=true):cf X (.builtin "all") (λxs H Q=>∃(p:Addr) (bs:List Bool),xs=[.ref p]/\bQ X.K H p (bs.map V.bl)/\Q (.bl (bs.all id)) H):=by
 intro pins s σ H xs us Q I r h;obtain⟨p,bs,rfl,hp,q⟩:=h;obtain⟨u,rfl,ru⟩:=vals1 r;cases ru;obtain⟨its,rv,pl,hz⟩:=I.list hp;have hn:its.toArray.size=bs.length:=by
  have e:=rv.length;rw[Y1] at e;simpa using e.symm
 have hh:X.A.in1.handled=none:=I.ok.hd hc;refine call_all_walk (acM pl.isList ?_);have old:p≠s.heap.objs.size:=Zn (by obtain⟨o,n,e,_⟩:=pl;exact Y9 e);refine⟨s.heap.objs.size,[s.heap.objs.size,p],[s.heap.objs.size],its.toArray.size,_,_,λi=>bs.getD i false,rfl,Walks.list hh s.heap.objs.size p old its.toArray,⟨⟨_,Y6 _ rfl,rfl,rfl⟩,pl.isList.at λo e=>YY _ e⟩,Fn rv,λh' tk hk=>?_⟩;rw[hn,range_all];exact⟨.bl _,H,I.kept (t':=tk) λb o e=>hk b o (by simpa using Zn (Y9 e)) (YY _ e),rfl,q⟩
theorem Oz (hc:X.calm=true):cf X (.builtin "any") (λxs H Q=>∃(p:Addr) (bs:List Bool),xs=[.ref p]/\bQ X.K H p (bs.map V.bl)/\Q (.bl (bs.any id)) H):=by
 intro pins s σ H xs us Q I r h;obtain⟨p,bs,rfl,hp,q⟩:=h;obtain⟨u,rfl,ru⟩:=vals1 r;cases ru;obtain⟨its,rv,pl,hz⟩:=I.list hp;have hn:its.toArray.size=bs.length:=by
  have e:=rv.length;rw[Y1] at e;simpa using e.symm
 have hh:X.A.in1.handled=none:=I.ok.hd hc;refine call_any_walk (acM pl.isList ?_);have old:p≠s.heap.objs.size:=Zn (by obtain⟨o,n,e,_⟩:=pl;exact Y9 e);refine⟨s.heap.objs.size,[s.heap.objs.size,p],[s.heap.objs.size],its.toArray.size,_,_,λi=>bs.getD i false,rfl,Walks.list hh s.heap.objs.size p old its.toArray,⟨⟨_,Y6 _ rfl,rfl,rfl⟩,pl.isList.at λo e=>YY _ e⟩,Fn rv,λh' tk hk=>?_⟩;rw[hn,range_any];exact⟨.bl _,H,I.kept (t':=tk) λb o e=>hk b o (by simpa using Zn (Y9 e)) (YY _ e),rfl,q⟩
end
end L2
namespace L2
open PySem PySem.Spec PyProof.Rows
noncomputable def qu:Key->ab8
 | .inl i=>.int i
 | .inr x=>.str x
mutual
noncomputable def DV (K:Frag) (Z:Addr->Prop) (H:Hp):ab8->V->Prop
 | .none,v=>v=.aA
 | .bool b,v=>v=.bl b
 | .int i,v=>v=.int i
 | .str x,v=>v=.str x
 | .tuple ds,v=>∃a xs,v=.ref a/\aS K H a xs/\aw K Z H ds xs
 | .list ds,v=>∃a xs,v=.ref a/\¬ Z a/\H a=some (.lst xs)/\aw K Z H ds xs
 | .dict ao,v=>∃a es,v=.ref a/\¬ Z a/\H a=some (.dK es)/\∃l:List (Key×Int),es=l.map (λp=>(p.1,V.int p.2))/\ao=l.map λp=>(qu p.1,PyData.int p.2)
noncomputable def aw (K:Frag) (Z:Addr->Prop) (H:Hp):List ab8->List V->Prop
 | [],vs=>vs=[]
 |d::ds,vs=>∃v r,vs=v::r/\DV K Z H d v/\aw K Z H ds r
end
structure Jf (K:Frag) (Z:Addr->Prop) (H H':Hp):Prop where
 tup:∀b xs,aS K H b xs->aS K H' b xs
 lst:∀b xs,¬ Z b->H b=some (.lst xs)->H' b=some (.lst xs)
 aW:∀b es,¬ Z b->H b=some (.dK es)->H' b=some (.dK es)
mutual
theorem DV.gG {K:Frag} {Z:Addr->Prop} {H H':Hp} (S:Jf K Z H H'):∀{d:ab8} {v:V},DV K Z H d v->DV K Z H' d v
 | .none,_,h=>h
 | .bool _,_,h=>h
 | .int _,_,h=>h
 | .str _,_,h=>h
 | .tuple ds,v,h=>by
  simp only[DV] at h |-;obtain⟨a,xs,e,hq,r⟩:=h;exact⟨a,xs,e,S.tup a xs hq,aw.gG S r⟩
 | .list ds,v,h=>by
  simp only[DV] at h |-;obtain⟨a,xs,e,hz,hq,r⟩:=h;exact⟨a,xs,e,hz,S.lst a xs hz hq,aw.gG S r⟩
 | .dict ao,v,h=>by
  simp only[DV] at h |-;obtain⟨a,es,e,hz,hq,r⟩:=h;exact⟨a,es,e,hz,S.aW a es hz hq,r⟩
theorem aw.gG {K:Frag} {Z:Addr->Prop} {H H':Hp} (S:Jf K Z H H'):∀{ds:List ab8} {vs:List V},aw K Z H ds vs->aw K Z H' ds vs
 | [],_,h=>h
 |d::ds,vs,h=>by
  simp only[aw] at h |-;obtain⟨v,r,e,h1,h2⟩:=h;exact⟨v,r,e,DV.gG S h1,aw.gG S h2⟩
end
mutual
theorem DV.more {K:Frag} {Z:Addr->Prop} {H:Hp} {p:Addr} (hp:H p=none):∀{d:ab8} {v:V},DV K Z H d v->DV K (λa=>Z a\/a=p) H d v
 | .none,_,h=>h
 | .bool _,_,h=>h
 | .int _,_,h=>h
 | .str _,_,h=>h
 | .tuple ds,v,h=>by
  simp only[DV] at h |-;obtain⟨a,xs,e,hq,r⟩:=h;exact⟨a,xs,e,hq,aw.more hp r⟩
 | .list ds,v,h=>by
  simp only[DV] at h |-;obtain⟨a,xs,e,hz,hq,r⟩:=h;exact⟨a,xs,e,(λz=>z.elim hz λe=>by subst e;rw[hp] at hq;cases hq),hq,aw.more hp r⟩
 | .dict ao,v,h=>by
  simp only[DV] at h |-;obtain⟨a,es,e,hz,hq,r⟩:=h;exact⟨a,es,e,(λz=>z.elim hz λe=>by subst e;rw[hp] at hq;cases hq),hq,r⟩
theorem aw.more {K:Frag} {Z:Addr->Prop} {H:Hp} {p:Addr} (hp:H p=none):∀{ds:List ab8} {vs:List V},aw K Z H ds vs->aw K (λa=>Z a\/a=p) H ds vs
 | [],_,h=>h
 |d::ds,vs,h=>by
  simp only[aw] at h |-;obtain⟨v,r,e,h1,h2⟩:=h;exact⟨v,r,e,DV.more hp h1,aw.more hp h2⟩
end
mutual
theorem DV.less {K:Frag} {Z Z':Addr->Prop} {H:Hp} (kK:∀a,Z' a->Z a):∀{d:ab8} {v:V},DV K Z H d v->DV K Z' H d v
 | .none,_,h=>h
 | .bool _,_,h=>h
 | .int _,_,h=>h
 | .str _,_,h=>h
 | .tuple ds,v,h=>by
  simp only[DV] at h |-;obtain⟨a,xs,e,hq,r⟩:=h;exact⟨a,xs,e,hq,aw.less kK r⟩
 | .list ds,v,h=>by
  simp only[DV] at h |-;obtain⟨a,xs,e,hz,hq,r⟩:=h;exact⟨a,xs,e,λz=>hz (kK _ z),hq,aw.less kK r⟩
 | .dict ao,v,h=>by
  simp only[DV] at h |-;obtain⟨a,es,e,hz,hq,r⟩:=h;exact⟨a,es,e,λz=>hz (kK _ z),hq,r⟩
theorem aw.less {K:Frag} {Z Z':Addr->Prop} {H:Hp} (kK:∀a,Z' a->Z a):∀{ds:List ab8} {vs:List V},aw K Z H ds vs->aw K Z' H ds vs
 | [],_,h=>h
 |d::ds,vs,h=>by
  simp only[aw] at h |-;obtain⟨v,r,e,h1,h2⟩:=h;exact⟨v,r,e,DV.less kK h1,aw.less kK h2⟩
end
noncomputable def Wc:ab8->Kn
 | .none=>.aA
 | .bool _=>.bl
 | .int _=>.int
 | .str _=>.str
 | .tuple _=>.tup
 | .list _=>.lst
 | .dict _=>.aW
section
variable {X:Cx} {pins:List (Addr×Obj)} {σ:St} {H:Hp} {s:Y4} {Z:Addr->Prop}
theorem uF:∀{l:List (Key×Int)} {vs:List (Key×Value)} {es:List ady},KV (l.map λp=>(p.1,V.int p.2)) vs->Pairs (jd P w) es vs ->
  ReadsAll h (es.map (·.key)) ((l.map λp=>(qu p.1,PyData.int p.2)).map (·.1)) []/\ReadsAll h (es.map (·.val)) ((l.map λp=>(qu p.1,PyData.int p.2)).map (·.2)) []
 | [],_,_,.nil,.nil=>⟨.nil,.nil⟩
 |(k,i)::l,_,_,.cons (b:=q) r t,.cons (e:=e) h1 h2 h3=>by
  obtain⟨a1,a2⟩:=uF (h:=h) t h3;obtain⟨r1,t',r2⟩:=r;have r1:k=q.1:=r1;have r2:q.2=adj i t':=r2;refine⟨?_,?_⟩
  ·have hk:n9 q.1 e.key=true:=h1
   rw[<- r1] at hk;have:Reads h e.key (qu k) []:=by
    rcases kj hk with ⟨j,u,e1,e2⟩ | ⟨x,u,e1,e2⟩
    ·rw[e1,e2];exact .int j u
    ·rw[e1,e2];exact .str x u
   exact ReadsAll.cons (as:=[]) (bs:=[]) this a1
  ·have:Reads h e.val (.int i) []:=by rw[h2,r2];exact .int i t'
   exact ReadsAll.cons (as:=[]) (bs:=[]) this a2
mutual
theorem DV.reads (I:Inv X pins σ H s):∀{d:ab8} {v:V} {u:Value},DV X.K Z H d v->RelV v u->∃as,Reads s.heap u d as
 | .none,v,u,h,r=>by
  have e:v=.aA:=h;subst e;cases r;exact⟨[],.none⟩
 | .bool b,v,u,h,r=>by
  have e:v=.bl b:=h;subst e;cases r;exact⟨[],.bool b⟩
 | .int i,v,u,h,r=>by
  have e:v=.int i:=h;subst e;obtain⟨t,rfl⟩:=r;exact⟨[],.int i t⟩
 | .str x,v,u,h,r=>by
  have e:v=.str x:=h;subst e;obtain⟨t,rfl⟩:=r;exact⟨[],.str x t⟩
 | .tuple ds,v,u,h,r=>by
  simp only[DV] at h;obtain⟨a,xs,e,hq,hr⟩:=h;subst e;cases r;obtain⟨its,rv,⟨o,e,c,n,hd⟩,_⟩:=I.tuple hq;obtain⟨as,rs⟩:=aw.reads I hr rv;exact⟨as,.tuple e c hd (by simpa using rs)⟩
 | .list ds,v,u,h,r=>by
  simp only[DV] at h;obtain⟨a,xs,e,_,hq,hr⟩:=h;subst e;cases r;obtain⟨its,rv,⟨o,n,e,c,_,hd⟩,_⟩:=I.list (bQ.of hq);obtain⟨as,rs⟩:=aw.reads I hr rv;exact⟨a::as,.list e c hd (by simpa using rs)⟩
 | .dict ao,v,u,h,r=>by
  simp only[DV] at h;obtain⟨a,es,e,_,hq,l,e1,e2⟩:=h;subst e e1 e2;cases r;obtain⟨_,_,vs,kv,o,fT,ep,g1,g2,g3,_,g5,_⟩:=(show cL X.prog X.w H s.heap a (.dK _) from I.aG a _ hq);obtain⟨r1,r2⟩:=uF (h:=s.heap) kv g5;exact⟨a::[]++[],.dict g1 g2.1 g3 r1 r2⟩
theorem aw.reads (I:Inv X pins σ H s):∀{ds:List ab8} {vs:List V} {us:List Value},aw X.K Z H ds vs->Vals vs us->∃as,ReadsAll s.heap us ds as
 | [],vs,us,h,r=>by
  have e:vs=[]:=h;subst e;cases r;exact⟨[],.nil⟩
 |d::ds,vs,us,h,r=>by
  obtain⟨v,rr,e,h1,h2⟩:=h;subst e
  cases r with
  |cons ru rt =>
   obtain⟨as,a1⟩:=DV.reads I h1 ru;obtain⟨bs,a2⟩:=aw.reads I h2 rt;exact⟨as++bs,.cons a1 a2⟩
end
theorem EM (hr:cM k X.A):cf X (.builtin "repr") (λxs H Q=>∃(x:V) (d:ab8) (Z:Addr->Prop),xs=[x]/\DV X.K Z H d x/\d.showable=true/\(d.hasDict=false\/Wc d=.aW)/\d.depth<=100/\d.shown.length<=Zf/\Q (.str d.shown) H):=by
 intro pins s σ H xs us Q I r h;obtain⟨x,d,Z,rfl,hd,hs,qH,tG,hz,q⟩:=h;obtain⟨u,rfl,ru⟩:=vals1 r;have xp:X.A.units+(d.depth+1)<cLine:=by have:=hr.un;omega
 obtain⟨as,rd⟩:=hd.reads I ru;have go:∀a,u=.ref a->(d.hasDict=true->aaJ∉as)->wpAny (model X.prog X.w) X.A (call (.builtin "repr") [u]) (EP X pins σ Q) X.xe s:=λa e Bz=>by
  subst e;exact repr_of_reads' rd hs Bz hr.gd xp (λ_ _ e=>e) (λh' t tk hk=>⟨.str d.shown,H,I.kept (t':=tk) hk,⟨t,rfl⟩,q⟩) hz
 cases d with
 |none =>
  cases rd;exact P.repr_of_none ⟨.str _,H,I.tok _,⟨_,rfl⟩,q⟩
 |bool b =>
  cases rd;exact P.repr_of_bool ⟨.str _,H,I.tok _,⟨_,rfl⟩,q⟩
 |int i =>
  cases rd;exact P.repr_of_int (by simpa [PyData.showable] using hs) ⟨.str _,H,I.tok _,⟨_,rfl⟩,q⟩
 |str y =>
  cases rd;exact P.repr_of_str ⟨.str _,H,I.tok _,⟨_,rfl⟩,q⟩ hz
 |list ds =>
  cases rd with
  |list h1 h2 h3 h4 =>
   refine go _ rfl λz=>?_
   rcases qH with e|e
   ·rw[e] at z;cases z
   ·cases e
 |tuple ds =>
  cases rd with
  |tuple h1 h2 h3 h4 =>
   refine go _ rfl λz=>?_
   rcases qH with e|e
   ·rw[e] at z;cases z
   ·cases e
 |dict ao =>
  simp only[DV] at hd;obtain⟨a,es,e,_,hq,l,e1,e2⟩:=hd;subst e e1 e2;cases ru;obtain⟨_,AZ,vs,kv,o,fT,ep,g1,g2,g3,_,g5,_⟩:=(show cL X.prog X.w H s.heap a (.dK _) from I.aG a _ hq);obtain⟨r1,r2⟩:=uF (h:=s.heap) kv g5;have We:Reads s.heap (.ref a) (.dict (l.map λp=>(qu p.1,PyData.int p.2))) (a::[]++[]):=.dict g1 g2.1 g3 r1 r2;refine repr_of_reads' We hs (λ_ hm=>?_) hr.gd xp (λ_ _ e=>e) (λh' t tk hk=>⟨.str _,H,I.kept (t':=tk) hk,⟨t,rfl⟩,q⟩) hz;have e:aaJ=a:=by simpa using hm
  subst e;simp at AZ
noncomputable def Jg (K:Frag) (neg:Bool):R2:=λx y H Q=>∃(d e:ab8) (Z:Addr->Prop),DV K Z H d x/\DV K Z H e y/\d.canLay0=true/\e.canLay0=true/\min d.depth e.depth<=100/\Q (.bl (if neg then !PyData.eqv d e else aar d e)) H
theorem Sf (hr:cM k X.A):bj X (aag .Eq) (Jg X.K false):=by
 intro pins s σ H x y v u Q I rx ry h;obtain⟨d,e,Z,h1,h2,l1,l2,hd,q⟩:=h;obtain⟨as,r1⟩:=h1.reads I rx;obtain⟨bs,r2⟩:=h2.reads I ry;exact SeqAt.eqOverData _ _ _ _ _ _ _ _ _ _ _ _ r1 r2 l1 l2 (by have:=hr.un;omega) ⟨.bl _,H,I,rfl,q⟩
theorem Sg (hr:cM k X.A):bj X (aag .NotEq) (Jg X.K true):=by
 intro pins s σ H x y v u Q I rx ry h;obtain⟨d,e,Z,h1,h2,l1,l2,hd,q⟩:=h;obtain⟨as,r1⟩:=h1.reads I rx;obtain⟨bs,r2⟩:=h2.reads I ry;exact SeqAt.neOverData _ _ _ _ _ _ _ _ _ _ _ _ r1 r2 l1 l2 (by have:=hr.un;omega) ⟨.bl _,H,I,rfl,q⟩
end
end L2
namespace HT
open PySem PySem.Spec PyProof.Rows
section
variable {prog:ZE} {w:World} {A:ZX} {E:Value->Y4->Prop} {s:Y4}
theorem EN (ht:IsTup s.heap t items) (h:Q true s):wpAny (model prog w) A (ab2 (.ref t)) Q E s:=by
 unfold ab2;exact YX (acu ht.typeIs (YZ h))
theorem KI {lo hi:Option Int} {Q:Value->Y4->Prop} (ht:IsTup s.heap t items) (hs:s.heap.IsSliceOf sl vl vu .none) (pl:IsPart vl lo) (pu:IsPart vu hi)
 (hw:aR items.size 0 lo=0/\aR items.size items.size hi=items.size) (h:Q (.ref t) s):wpAny (model prog w) A (getItem (.ref t) (.ref sl)) Q E s:=by
 obtain⟨os,ju,ia,jv⟩:=id hs;have tm:s.TypeIs (.ref sl) "slice":=⟨os,ju,ia⟩;unfold getItem
 try with_reducible refine aat ?_
 first|refine YX (YZ ?_)|skip
 refine YX (wpAny_sequenceKey ht.typeIs (by decide) ?_);refine YX (ZC (name:=ZJ "__getitem__") ht.typeIs ZS
  (ZI ZS ht.typeIs entry_tuple_getitem ?_ (args_tuple_getitem _ _)))
 show wpAny _ _ (aaP (.ref t) >>= _) _ _ s;refine YX (tupleItemsOf_ ht ?_);refine YX (acu tm ?_);rw[if_pos (by decide)];refine YX (Dw hs pl pu ?_);obtain⟨w1,w2⟩:=hw
 show wpAny _ _ (if (((aR items.size 0 lo:Nat):Int)==0&&(1:Int)==1&&(aR items.size items.size hi-aR items.size 0 lo)==items.size)=true then _ else _) _ _ s
 rw[w1,w2,if_pos (by simp)]
 first
  |exact YX (EN ht (by simp only[if_true];exact YX (aa5 (YZ ⟨_,rfl,YZ h⟩))))
  |exact YX (EN ht (by simp only[if_true];exact YX (aa5 (YX (YZ (YZ ⟨_,rfl,YZ h⟩))))))
theorem LD (n:Nat):aaA none none (-1) (n:Int)=((n:Int)-1,-1):=by
 unfold aaA;simp
theorem LF (n:Nat):aai ((n:Int)-1) (-1) (-1)=n:=by
 unfold aai;have h1:¬ ((-1:Int) > 0):=by omega
 simp only[h1,if_false];split
 ·simp
 ·simp;omega
theorem Hd {α β:Type} {f:α->Option β} {g:α->β}:∀{l:List α},(∀x∈l,f x=some (g x))->l.filterMap f=l.map g
 | [],_=>rfl
 |x::r,h=>by
  rw[acm,h x Zb,Zl];exact congrArg _ (Hd λy hy=>h y (Zd _ hy))
theorem Ni (xs:Array Value):((Zk xs.size).filterMap λ(m:Nat)=>xs[(((xs.size:Int)-1)+(m:Int)*(-1)).toNat]?).toArray=xs.toList.reverse.toArray:=by
 congr 1;apply aa7;intro i;have e:((Zk xs.size).filterMap λ(m:Nat)=>xs[(((xs.size:Int)-1)+(m:Int)*(-1)).toNat]?)=(Zk xs.size).map λ(m:Nat)=>xs.getD (xs.size-1-m) .none:=by
  apply Hd;intro m hm;have hm:=ZO.mp hm;have:(((xs.size:Int)-1)+(m:Int)*(-1)).toNat=xs.size-1-m:=by omega
  rw[this,Array.getElem?_eq_getElem (by omega)];simp[acO,show xs.size-1-m<xs.size by omega]
 rw[e,Zj];by_cases hi:i<xs.size
 ·rw[Z0 hi,List.getElem?_reverse (by simpa using hi)]
  simp[acO,show xs.size-1-i<xs.size by omega]
 ·rw[ZM (by simpa using hi),ZM (by simpa using hi)]
  rfl
theorem KC (ht:IsTup s.heap t items) (hs:s.heap.IsSliceOf sl .none .none (.int (-1) tk))
 (h:Q (.ref s.heap.objs.size) { s with heap:=s.heap.push { cls:=.type "tuple",data:=.seq items.toList.reverse.toArray } })
 (hsz:items.size<=Zf):wpAny (model prog w) A (getItem (.ref t) (.ref sl)) Q E s:=by
 have hz:sizeOk (.seq items.toList.reverse.toArray):=by
  show items.toList.reverse.toArray.size<=Zf;rw[Zg,adm,ZH];exact hsz
 obtain⟨os,ju,ia,jv⟩:=id hs;have tm:s.TypeIs (.ref sl) "slice":=⟨os,ju,ia⟩;unfold getItem
 try with_reducible refine aat ?_
 first|refine YX (YZ ?_)|skip
 refine YX (wpAny_sequenceKey ht.typeIs (by decide) ?_);refine YX (ZC (name:=ZJ "__getitem__") ht.typeIs ZS
  (ZI ZS ht.typeIs entry_tuple_getitem ?_ (args_tuple_getitem _ _)))
 show wpAny _ _ (aaP (.ref t) >>= _) _ _ s;refine YX (tupleItemsOf_ ht ?_);refine YX (acu tm ?_);rw[if_pos (by decide)];refine YX ?_;unfold ab1 adu;refine YX (YX (Z2 ju jv (x:=.none) rfl (YX (Z2 ju jv (x:=.none) rfl (YX (Z2 ju jv (x:=.int (-1) tk) rfl (YZ ?_)))))));refine YX (slicePart_int ?_)
 show wpAny _ _ (if ((-1:Int)==0)=true then _ else _) _ _ s
 rw[if_neg (by decide)];refine YX (slicePart_none (YX (slicePart_none (YX (YZ ?_)))))
 show wpAny _ _ (match aaA none none (-1) (items.size:Int) with | (lo,hi)=>pure (lo,(-1:Int),aai lo hi (-1))) _ _ s
 rw[LD];show wpAny _ _ (pure (((items.size:Int)-1),(-1:Int),aai ((items.size:Int)-1) (-1) (-1))) _ _ s;rw[LF];refine YZ ?_
 show wpAny _ _ (if (((items.size:Int)-1)==0&&(-1:Int)==1&&items.size==items.size)=true then _ else _) _ _ s
 rw[if_neg (by simp),Ni]
 first
  |exact YX (m:=aal _) (Zt (YZ ⟨_,rfl,YZ h⟩) hz)
  |exact YX (m:=aal _) (Zt (YX (YZ (YZ ⟨_,rfl,YZ h⟩))) hz)
  |exact YX (YX (m:=aal _) (Zt (YZ (YZ ⟨_,rfl,YZ h⟩)) hz))
end
end HT
namespace L2
open PySem PySem.Spec PyProof.Rows
theorem jO.Wf {K:Frag} {H H':Hp} {a:Addr} {xs:List V} (e:jO H H') (h:aS K H a xs):aS K H' a xs:=by
 rcases h with (h | ⟨o,h⟩)|h
 ·exact .inl (.inl (e _ _ h))
 ·exact .inl (.inr ⟨o,e _ _ h⟩)
 ·exact .inr h
theorem jO.upd (hn:H p=none):jO H (upd H p o):=λb u e=>by rw[bq (eO e hn)];exact e
def lR (K:Frag) (H:Hp) (ys:List V) (Q:VK):Prop:=∀a H',jO H H'->aS K H' a ys->Q (.ref a) H'
theorem lR.here {K:Frag} {H:Hp} {ys:List V} {Q:VK} {a:Addr} (h:lR K H ys Q) (hs:aS K H a ys):Q (.ref a) H:=h a H (jO.refl H) hs
theorem lR.new {K:Frag} {H:Hp} {ys:List V} {Q:VK} {p:Addr} (h:lR K H ys Q) (hn:H p=none):Q (.ref p) (L2.upd H p (.tup ys)):=h p _ (jO.upd hn) (aS.of cF)
section
variable {X:Cx} {e:Expr} {te:TE} {pos p2 p3 p4:Pos}
theorem OA {lo hi:Option Int} (h:HT.aR xs.length 0 lo=0/\HT.aR xs.length xs.length hi=xs.length):jN xs lo hi=xs:=by
 unfold jN;rw[h.1,h.2];simp
noncomputable def Vx (K:Frag):V->Option Int->Option Int->Hp->VK->Prop:=λx lo hi H Q=>∃a xs,x=.ref a/\aS K H a xs/\lR K H (jN xs lo hi) Q
theorem Qk:tu X (Vx X.K):=by
 intro pins s σ H x v vl vu lo hi sl Q I rx hs pl pu h;obtain⟨a,xs,rfl,hx,q⟩:=h;by_cases hw:HT.aR xs.length 0 lo=0/\HT.aR xs.length xs.length hi=xs.length
 ·cases rx
  obtain⟨its,r,ht,hz⟩:=I.tuple hx;have hlen:its.toArray.size=xs.length:=by rw[Zg];exact r.length.symm
  rw[OA hw] at q;exact⟨"tuple",_,ZS.lookup,ht.typeIs,HT.KI ht hs pl pu (by rw[hlen];exact hw) ⟨.ref a,H,I,rfl,q.here hx⟩⟩
 ·exact zC pins s σ H _ v vl vu lo hi sl Q I rx hs pl pu ⟨a,xs,rfl,hx,hw,λp hp=>q.new hp⟩
noncomputable def Vy (K:Frag) (te:TE):TE:=fun σ H Q=>te σ H λx H1=>∃a xs,x=.ref a/\aS K H1 a xs/\lR K H1 xs.reverse Q
theorem Sh (he:PE X e te):PE X (.Subscript e (.Slice none none (some (.UnaryOp .USub (.Constant (.int 1) 0 p4) p3)) p2) pos) (Vy X.K te):=by
 intro pins s σ H Q I h;refine Subscript_ (aF (he pins s σ H _ I h) λv s1 ⟨x,H1,I1,r1,q1⟩=>?_);obtain⟨a,xs,rfl,hx,q⟩:=q1;cases r1;refine wpAny_Slice ?_;rw[evalPart_none];refine YZ (YZ ?_);have step:PE X (.UnaryOp .USub (.Constant (.int 1) 0 p4) p3) (JC (rU λi=>.int (-i)) (tC (.int 1))):=Ie G4 zA;rw[evalPart_some];refine aF (step pins s1 σ H1 (λy H2=>y=.int (-1)/\H2=H1) I1 ⟨1,rfl,rfl,rfl⟩) λu s2 ⟨y,H2,I2,r2,e1,e2⟩=>?_;subst e1 e2;obtain⟨tk,rfl⟩:=r2
 have I4:Inv X pins σ H2 { s2 with heap:=s2.heap.push { cls:=.type "slice",data:=.fields #[.none,.none,.int (-1) tk] } }:=I2.kept (t':=s2.toks) λb ob q=>YY _ q
 obtain⟨its,r,ht,hz⟩:=I4.tuple hx;have hlen:its.toArray.size=xs.length:=by rw[Zg];exact r.length.symm
 have ng:Heap.IsSliceOf (s2.heap.push { cls:=.type "slice",data:=.fields #[.none,.none,.int (-1) tk] }) s2.heap.objs.size .none .none (.int (-1) tk):=Heap.IsSliceOf.new ..;refine tail_any (ops:=[.ref a,.ref s2.heap.objs.size]) ht.typeIs ZS.lookup (HT.KC ht ng ?_ (by rw[hlen];exact hz)) (by with_unfolding_all rfl);refine⟨.ref _,_,I4.laid (t':=s2.toks) (o:=.tup xs.reverse) (λb ob q=>YY _ q) (Nat.le_refl _) ?_,rfl,q.new (I4.aG.fresh (Nat.le_refl _))⟩;refine⟨by rw[adm];exact hz,its.reverse,?_,IsTup.new _ _⟩;clear q ht hlen hx ng hz
 induction r with
 |nil=>exact .nil
 |cons h t ih =>
  rw[acP,acP];exact Vals.append ih (.cons h .nil)
noncomputable def Ue (K:Frag):R2:=λx y H Q=>∃a b xs ys,x=.ref a/\y=.ref b/\aS K H a xs/\aS K H b ys/\xs.length+ys.length<=Zf/\lR K H (xs++ys) Q
theorem Ql:bj X (aaO .Add) (Ue X.K):=by
 intro pins s σ H x y v u Q I rx ry h;obtain⟨a,b,xs,ys,rfl,rfl,ha,hb,hz,q⟩:=h;by_cases hx:xs=[]
 ·subst hx
  cases rx;cases ry;obtain⟨its,r1,p1,_⟩:=I.tuple ha;obtain⟨oB,r2,p2,_⟩:=I.tuple hb;cases r1;obtain⟨⟨cls,dd,data,sl⟩,ho,hc,n,hd⟩:=id p1;obtain⟨⟨Jd,mZ,data2,dF⟩,jt,m7,n2,hd2⟩:=id p2;simp only at hc hd m7 hd2;subst hc hd m7 hd2;exact concat_meets ⟨_,ho,rfl⟩ ⟨_,jt,rfl⟩ noFill_tuple_add seq_tuple_add acJ acy (acs _ _)
   (tuple_addW0 a b _ oB.toArray n n2 dd mZ sl dF (by simp)) ⟨ho,jt,⟨.ref b,H,I,rfl,q.here hb⟩⟩
 ·refine Qg pins s σ H _ _ v u Q I rx ry ⟨a,b,xs,ys,rfl,rfl,ha,hb,hx,hz,λe=>?_,λ_ p hp=>q.new hp⟩
  subst e;rw[aa8] at q;exact q.here ha
end
end L2
namespace HZ
open PySem PySem.Spec PyProof.Rows
structure jw (P:ZE) (w:World) (A:ZX) (i l:Addr) (tn:Nat->Heap->Prop) (val:Nat->Option Value):Prop where
 keep:∀k h h',tn k h->(∀o,h.get? i=some o->h'.get? i=some o)->(∀o,h.get? l=some o->h'.get? l=some o)->tn k h'
 item:∀k (s:Y4) (Q:Value->Y4->Prop) (E:Value->Y4->Prop) x,tn k s.heap->val k=some x->(∀h',tn (k+1) h'->aaz i s.heap h'->Q x { s with heap:=h' })->wpAny (model P w) A (Z1 (.ref i)) Q E s
 stop:∀k (s:Y4) (Q:Value->Y4->Prop) (E:Value->Y4->Prop),tn k s.heap->val k=none->(∀h' e,acp i s.heap h'->(∃o,h'.get? e=some o/\o.cls=.type "StopIteration")->E (.ref e) { s with heap:=h' })->wpAny (model P w) A (Z1 (.ref i)) Q E s
 obj:∀k h,tn k h->∃o,h.get? i=some o/\∀v,o.data≠.cell v
section
variable {P:ZE} {w:World} {A:ZX} {E:Value->Y4->Prop} {s:Y4}
theorem Mi (g:s.heap.IsTupleIter it t k) (gt:s.heap.IsTuple t its) (gx:its[k]?=some x)
 (q:∀h',h'.IsTupleIter it t (k+1)->aaz it s.heap h'->Q x { s with heap:=h' }):wpAny (model P w) A (Z1 (.ref it)) Q E s:=by
 obtain⟨o,go,gc,gd⟩:=id g;obtain⟨ol,BA,_,nl,BB⟩:=gt;unfold Z1;refine YX (ZC (name:=ZJ "__next__") g.typeIs abf
  (ZI abf g.typeIs F.entry_tuple_iterator_next ?_ (F.args_tuple_iterator_next_1 _)))
 show wpAny _ _ (field (.ref it) 0 >>= _) _ _ _;refine YX (Z2 go gd (x:=.ref t) rfl ?_)
 show wpAny _ _ (if (abG t==Value.none)=true then _ else _) _ _ _
 rw[if_neg (λz:(abG t==Value.none)=true=>Y7 z)];show wpAny _ _ (field (.ref it) 1 >>= _) _ _ _;refine YX (Z2 go gd (x:=.int k 0) rfl ?_);show wpAny _ _ (seqItems? (.ref t) >>= _) _ _ _;refine YX (aaC BA BB ?_);simp only[ZD,gx];refine YX (aa4 go gd (by simp) (YZ ⟨x,rfl,YZ (q _ ?_ (aaa ..))⟩));exact⟨_,aah _ go (aaF (ZZ gd _)),(abW ..).trans gc,by rw[ZZ gd];simp[aaH]⟩
theorem KJ (gh:A.handled=none) (g:s.heap.IsTupleIter it t k) (gt:s.heap.IsTuple t its) (gx:its[k]?=none)
 (q:∀h' e,acp it s.heap h'->(∃o,h'.get? e=some o/\o.cls=.type "StopIteration")->E (.ref e) { s with heap:=h' }):wpAny (model P w) A (Z1 (.ref it)) Q E s:=by
 obtain⟨o,go,gc,gd⟩:=id g;obtain⟨ol,BA,_,nl,BB⟩:=gt;unfold Z1;refine YX (ZC (name:=ZJ "__next__") g.typeIs abf
  (ZI abf g.typeIs F.entry_tuple_iterator_next ?_ (F.args_tuple_iterator_next_1 _)))
 show wpAny _ _ (field (.ref it) 0 >>= _) _ _ _;refine YX (Z2 go gd (x:=.ref t) rfl ?_)
 show wpAny _ _ (if (abG t==Value.none)=true then _ else _) _ _ _
 rw[if_neg (λz:(abG t==Value.none)=true=>Y7 z)];show wpAny _ _ (field (.ref it) 1 >>= _) _ _ _;refine YX (Z2 go gd (x:=.int k 0) rfl ?_);show wpAny _ _ (seqItems? (.ref t) >>= _) _ _ _;refine YX (aaC BA BB ?_);simp only[ZD,gx];refine YX (aa5 (YX (aa4 go gd (by simp) ?_)));show wpAny _ _ (newExc (.type "StopIteration") [] >>= _) _ _ (_:Y4);refine YX ?_;simp only[newExc,newTuple];refine YX (Zt ?_ (by size_fits))
 refine YX (m:=ab9 _ _) (abD (a:=Value.none) (by first|rfl | (unfold ab9;rfl)) ?_)
 refine Zt ?_ (by size_fits);simp only[raiseNew];refine YX (wpAny_handled ?_)
 first|rw[gh]|rw[show A.in1.handled=none from gh]
 refine YX (YZ (wpAny_throw ?_));exact q _ _ (((aaa ..).extBut.push _).push _) ⟨_,Y6 _ rfl,rfl⟩
theorem pT (gh:A.handled=none) (i l:Addr) (its:Array Value):jw P w A i l (λk h=>h.IsTupleIter i l k/\h.IsTuple l its) (λk=>its[k]?) where
 keep:=λk h h' st k1 k2=>⟨st.1.at k1,by obtain⟨o,e,r⟩:=st.2;exact⟨o,k2 o e,r⟩⟩
 item:=λk s Q E x st e q=>Mi st.1 st.2 e λh' g sb=>by
  by_cases hl:l=i
  ·exfalso
   subst hl;obtain⟨o,e1,c1,_⟩:=st.1;obtain⟨o',e2,c2,_⟩:=st.2;rw[e1] at e2;cases e2;rw[c1] at c2;simp at c2
  ·obtain⟨o,e2,r⟩:=st.2
   exact q h' ⟨g,o,(sb.2 l hl).trans e2,r⟩ sb
 stop:=λk s Q E st e q=>KJ gh st.1 st.2 e q
 obj:=λk h st=>by
  obtain⟨o,e,_,d⟩:=st.1;exact⟨o,e,λv z=>by rw[d] at z;cases z⟩
structure Apart (z ti to j1 j2 m1 m2:Addr):Prop where
 a1:ti≠z
 a2:to≠z
 a3:j1≠z
 a4:j2≠z
 a5:ti≠to
 a6:ti≠j1
 a7:ti≠j2
 a8:to≠j1
 a9:to≠j2
 b0:j1≠j2
 b1:m1≠z
 b2:m1≠to
 b3:m1≠j1
 b4:m1≠j2
 b5:m2≠z
 b6:m2≠to
 b7:m2≠j1
 b8:m2≠j2
theorem OB {t1 t2:Nat->Heap->Prop} {v1 v2:Nat->Option Value} {k:Nat} {Q:Value->Y4->Prop} (D:Apart z ti to j1 j2 m1 m2) (S1:jw P w A j1 m1 t1 v1) (S2:jw P w A j2 m2 t2 v2)
 (gz:IsZip s.heap z ti to .none) (gi:aca s.heap ti (.ref j1) (.ref j2)) (go:aca s.heap to a b) (h1:t1 k s.heap) (h2:t2 k s.heap) (hx:v1 k=some x) (hy:v2 k=some y)
 (q:∀h',IsZip h' z ti to (aaH s.heap.objs.size)->aca h' to x y->t1 (k+1) h'->t2 (k+1) h'->aca h' s.heap.objs.size x y->h'.objs.size=s.heap.objs.size+1 ->
 (∀c o,c≠z->c≠to->c≠j1->c≠j2->s.heap.get? c=some o->h'.get? c=some o)->Q (.ref s.heap.objs.size) { s with heap:=h' }) :
  wpAny (model P w) A (aaY.«zip.__next__» ⟨[.ref z],[]⟩) (λfin s'=>∃v,fin=.done (.ret v)/\Q v s') E s:=by
 show wpAny _ _ (field (.ref z) 2 >>= _) _ _ (_:Y4);refine YX (Z2 gz rfl (x:=.bool false) rfl ?_);show wpAny _ _ (field (.ref z) 3 >>= _) _ _ (_:Y4);refine YX (Z2 gz rfl (x:=.ref ti) rfl ?_);refine YX (aaC gi rfl ?_);show wpAny _ _ (aab (.ref z) >>= _) _ _ (_:Y4);refine YX ?_;unfold aab;refine YX (Z2 gz rfl (x:=.none) rfl (YZ ?_));simp only[if_true];refine YX (aa5 ?_);refine YX (Z2 gz rfl (x:=.ref to) rfl ?_);refine YX (aam gz (by simp) λp1 z1 s1=>?_)
 replace z1:IsZip p1 z ti to .ellipsis:=z1
 refine YX ?_;simp only[List.zipIdx_cons,List.zipIdx_nil,List.forIn_cons,List.forIn_nil];refine YX (YX (wpAny_onRaise ?_));show wpAny _ _ (Z1 (.ref j1) >>= _) _ _ (_:Y4);refine YX (S1.item k _ _ _ x (S1.keep k _ _ h1 (λo e=>s1.extBut _ _ D.a3 e) (λo e=>s1.extBut _ _ D.b1 e)) hx λp2 ni s2=>YZ ?_);have o2:aca p2 to a b:=s2.extBut _ _ D.a8 (s1.extBut _ _ D.a2 go);refine YX (aaC o2 rfl ?_);refine YX (wpAny_updateSeq_pair o2 λp3 o3 s3=>?_)
 replace o3:aca p3 to x b:=o3
 refine YX (wpAny_letGo (YZ ?_));refine YX (YX (wpAny_onRaise ?_));show wpAny _ _ (Z1 (.ref j2) >>= _) _ _ (_:Y4);refine YX (S2.item k _ _ _ y (S2.keep k _ _ h2 (λo e=>s3.extBut _ _ D.a9.symm (s2.extBut _ _ D.b0.symm (s1.extBut _ _ D.a4 e))) (λo e=>s3.extBut _ _ D.b6 (s2.extBut _ _ D.b7 (s1.extBut _ _ D.b5 e)))) hy λp4 Wg s4=>YZ ?_);have o4:aca p4 to x b:=s4.extBut _ _ D.a9 o3;refine YX (aaC o4 rfl ?_);refine YX (wpAny_updateSeq_pair o4 λp5 o5 s5=>?_)
 replace o5:aca p5 to x y:=o5
 refine YX (wpAny_letGo (YZ (YZ ?_)));refine YX (aaC o5 rfl ?_);refine YX (wpAny_newTuple ?_);have gs:p5.objs.size=s.heap.objs.size:=by rw[s5.1,s4.1,s3.1,s2.1,s1.1]
 have z5:IsZip p5 z ti to .ellipsis:=s5.extBut _ _ D.a2.symm (s4.extBut _ _ D.a4.symm (s3.extBut _ _ D.a2.symm (s2.extBut _ _ D.a3.symm z1)));have k5:∀c o,c≠z->c≠to->c≠j1->c≠j2->s.heap.get? c=some o->p5.get? c=some o:=λc o c1 c2 c3 c4 e=>s5.extBut _ _ c2 (s4.extBut _ _ c4 (s3.extBut _ _ c2 (s2.extBut _ _ c3 (s1.extBut _ _ c1 e))));have tH:t1 (k+1) p5:=S1.keep _ _ _ ni (λo e=>s5.extBut _ _ D.a8.symm (s4.extBut _ _ D.b0 (s3.extBut _ _ D.a8.symm e))) (λo e=>s5.extBut _ _ D.b2 (s4.extBut _ _ D.b4 (s3.extBut _ _ D.b2 e)));have Wh:t2 (k+1) p5:=S2.keep _ _ _ Wg (λo e=>s5.extBut _ _ D.a9.symm e) (λo e=>s5.extBut _ _ D.b6 e);have lz:z<p5.objs.size:=Y9 z5;show wpAny _ _ (aaD (.ref z) (.ref p5.objs.size) >>= _) _ _ (_:Y4);refine YX ?_;unfold aaD;have z6:IsZip (p5.push { cls:=.type "tuple",data:=.seq #[x,y] }) z ti to .ellipsis:=YY _ z5;refine YX (aam z6 (by simp) λp7 z7 s7=>?_)
 replace z7:IsZip p7 z ti to (aaH p5.objs.size):=z7
 refine aam z7 (by simp) λp8 z8 s8=>?_
 replace z8:IsZip p8 z ti to (aaH p5.objs.size):=z8
 have up:∀c o,c≠z->p5.get? c=some o->p8.get? c=some o:=λc o c1 e=>s8.extBut _ _ c1 (s7.extBut _ _ c1 (YY _ e));have w8:aca p8 p5.objs.size x y:=s8.extBut _ _ (aan lz) (s7.extBut _ _ (aan lz) (Y6 _ rfl));have n8:p8.objs.size=p5.objs.size+1:=by rw[s8.1,s7.1,ZP]
 rw[gs] at z8 w8 n8;refine YZ ⟨_,rfl,?_⟩;show Q (.ref p5.objs.size) _;rw[gs];exact q p8 z8 (up _ _ D.a2 o5) (S1.keep _ _ _ tH (λo e=>up _ o D.a3 e) (λo e=>up _ o D.b1 e)) (S2.keep _ _ _ Wh (λo e=>up _ o D.a4 e) (λo e=>up _ o D.b5 e)) w8 n8 λc o c1 c2 c3 c4 e=>up c o c1 (k5 c o c1 c2 c3 c4 e)
theorem Qm (D:Apart z ti to j1 j2 m1 m2) (S1:jw P w A j1 m1 t1 v1) (S2:jw P w A j2 m2 t2 v2)
 (gz:IsZip s.heap z ti to .none) (gi:aca s.heap ti (.ref j1) (.ref j2)) (go:aca s.heap to a b) (h1:t1 k s.heap) (h2:t2 k s.heap) (A0:v1 k=none\/v2 k=none)
 (q:∀h' e,(∀c o,c≠z->c≠to->c≠j1->c≠j2->s.heap.get? c=some o->h'.get? c=some o)->(∃o,h'.get? e=some o/\o.cls=.type "StopIteration")->E (.ref e) { s with heap:=h' }) :
  wpAny (model P w) A (aaY.«zip.__next__» ⟨[.ref z],[]⟩) Q E s:=by
 show wpAny _ _ (field (.ref z) 2 >>= _) _ _ (_:Y4);refine YX (Z2 gz rfl (x:=.bool false) rfl ?_);show wpAny _ _ (field (.ref z) 3 >>= _) _ _ (_:Y4);refine YX (Z2 gz rfl (x:=.ref ti) rfl ?_);refine YX (aaC gi rfl ?_);show wpAny _ _ (aab (.ref z) >>= _) _ _ (_:Y4);refine YX ?_;unfold aab;refine YX (Z2 gz rfl (x:=.none) rfl (YZ ?_));simp only[if_true];refine YX (aa5 ?_);refine YX (Z2 gz rfl (x:=.ref to) rfl ?_);refine YX (aam gz (by simp) λp1 z1 s1=>?_)
 replace z1:IsZip p1 z ti to .ellipsis:=z1
 refine YX ?_;simp only[List.zipIdx_cons,List.zipIdx_nil,List.forIn_cons,List.forIn_nil];refine YX (YX (wpAny_onRaise ?_));show wpAny _ _ (Z1 (.ref j1) >>= _) _ _ (_:Y4);have nj:t1 k p1:=S1.keep k _ _ h1 (λo e=>s1.extBut _ _ D.a3 e) (λo e=>s1.extBut _ _ D.b1 e)
 cases hx:v1 k with
 |none =>
  refine YX (S1.stop k _ _ _ nj hx λp2 e s2 he=>?_);obtain⟨oe,g1,g2⟩:=he;have z2:IsZip p2 z ti to .ellipsis:=s2 _ _ D.a3.symm z1;have ne:e≠z:=λu=>by subst u;rw[z2] at g1;cases g1;simp at g2
  refine aam z2 (by simp) λp3 _ s3=>q p3 e (λc o c1 _ c3 _ u=>s3.extBut _ _ c1 (s2 _ _ c3 (s1.extBut _ _ c1 u))) ⟨oe,s3.extBut _ _ ne g1,g2⟩
 |some x =>
  have hy:v2 k=none:=by
   rcases A0 with h|h
   ·rw[hx] at h;cases h
   ·exact h
  refine YX (S1.item k _ _ _ x nj hx λp2 ni s2=>YZ ?_);have o2:aca p2 to a b:=s2.extBut _ _ D.a8 (s1.extBut _ _ D.a2 go);refine YX (aaC o2 rfl ?_);refine YX (wpAny_updateSeq_pair o2 λp3 o3 s3=>?_);refine YX (wpAny_letGo (YZ ?_));refine YX (YX (wpAny_onRaise ?_));show wpAny _ _ (Z1 (.ref j2) >>= _) _ _ (_:Y4);refine YX (S2.stop k _ _ _ (S2.keep k _ _ h2 (λo e=>s3.extBut _ _ D.a9.symm (s2.extBut _ _ D.b0.symm (s1.extBut _ _ D.a4 e))) (λo e=>s3.extBut _ _ D.b6 (s2.extBut _ _ D.b7 (s1.extBut _ _ D.b5 e)))) hy λp4 e s4 he=>?_);obtain⟨oe,g1,g2⟩:=he;have z4:IsZip p4 z ti to .ellipsis:=s4 _ _ D.a4.symm (s3.extBut _ _ D.a2.symm (s2.extBut _ _ D.a3.symm z1));have ne:e≠z:=λu=>by subst u;rw[z4] at g1;cases g1;simp at g2
  refine aam z4 (by simp) λp5 _ s5=>q p5 e (λc o c1 c2 c3 c4 u=>s5.extBut _ _ c1 (s4 _ _ c4 (s3.extBut _ _ c2 (s2.extBut _ _ c3 (s1.extBut _ _ c1 u))))) ⟨oe,s5.extBut _ _ ne g1,g2⟩
theorem next_item (D:Apart z ti to j1 j2 m1 m2) (S1:jw P w A.in1 j1 m1 t1 v1) (S2:jw P w A.in1 j2 m2 t2 v2)
 (gz:IsZip s.heap z ti to .none) (gi:aca s.heap ti (.ref j1) (.ref j2)) (go:aca s.heap to a b) (h1:t1 k s.heap) (h2:t2 k s.heap) (hx:v1 k=some x) (hy:v2 k=some y)
 (q:∀h',IsZip h' z ti to (aaH s.heap.objs.size)->aca h' to x y->t1 (k+1) h'->t2 (k+1) h'->aca h' s.heap.objs.size x y->h'.objs.size=s.heap.objs.size+1 ->
 (∀c o,c≠z->c≠to->c≠j1->c≠j2->s.heap.get? c=some o->h'.get? c=some o)->Q (some (.ref s.heap.objs.size)) { s with heap:=h' }):wpAny (model P w) A (abr (.ref z)) Q E s:=by
 have hT:s.TypeIs (.ref z) "zip":=⟨_,gz,rfl⟩;unfold abr;exact YX (aa2 (ZC (name:=ZJ "__next__") hT adn
  (ZI adn hT F.entry_zip_next (OB D S1 S2 gz gi go h1 h2 hx hy λh' a1 a2 a3 a4 a5 a6 a7=>YZ (q h' a1 a2 a3 a4 a5 a6 a7)) (F.args_zip_next_1 _))))
theorem next_end (D:Apart z ti to j1 j2 m1 m2) (S1:jw P w A.in1 j1 m1 t1 v1) (S2:jw P w A.in1 j2 m2 t2 v2)
 (gz:IsZip s.heap z ti to .none) (gi:aca s.heap ti (.ref j1) (.ref j2)) (go:aca s.heap to a b) (h1:t1 k s.heap) (h2:t2 k s.heap) (A0:v1 k=none\/v2 k=none)
 (q:∀h',(∀c o,c≠z->c≠to->c≠j1->c≠j2->s.heap.get? c=some o->h'.get? c=some o)->Q none { s with heap:=h' }):wpAny (model P w) A (abr (.ref z)) Q E s:=by
 have hT:s.TypeIs (.ref z) "zip":=⟨_,gz,rfl⟩;unfold abr;refine YX (aa2 (ZC (name:=ZJ "__next__") hT adn
  (ZI adn hT F.entry_zip_next (Qm D S1 S2 gz gi go h1 h2 A0 λh' e hk he=>?_) (F.args_zip_next_1 _))))
 obtain⟨o,ho,hc⟩:=he;exact YX (abI (T:="StopIteration") (b:=true) ⟨o,ho,hc⟩ isSubtype_stop (YZ (q _ hk)))
end
end HZ
namespace L2
open PySem PySem.Spec PyProof.Rows
theorem rE {X:Cx} {pins:List (Addr×Obj)} {σ:St} {H:Hp} {s:Y4} {a b:Addr} {xs:List V} (I:Inv X pins σ H s) (h:aS X.K H a xs) (f:gb X pins H b):a≠b:=by
 rintro rfl;obtain⟨f0,_,_,f3,_⟩:=f
 rcases h with (h | ⟨o,h⟩) | ⟨o,its,n,hk,_⟩
 ·rw[f0] at h;cases h
 ·rw[f0] at h;cases h
 ·have hb:=I.mod.xh a o hk
  rcases f3 with z|z
  ·exact I.ok.ou a o hb z
  ·exact absurd (Y5 (Y9 hb) (Zo I.ok.jY z)) (ZF _)
theorem Inv.yo {X:Cx} {pins:List (Addr×Obj)} {σ:St} {H:Hp} {s:Y4} {h':Heap} {t':Nat} {ch:List Addr} (I:Inv X pins σ H s) (k:∀b o,b∉ch->s.heap.get? b=some o->h'.get? b=some o) (hf:∀b∈ch,gb X pins H b) :
  Inv X pins σ H { s with heap:=h',toks:=t' }:=by
 have JM:∀b u,H b=some u->b∉ch:=λb u e z=>by rw[(hf b z).1] at e;cases e
 refine I.step (g':=s.gens) (d':=s.drawn) (ch:=ch) (λb hb=>?_) (λb o _ _ hc e _=>k b o hc e) (λb o _ _ hc e _=>⟨o.slots,k b o hc e⟩) (λ_ _ _ _ n=>n) (λb o hc e=>⟨o,k b o hc e⟩) (λ_ _ e=>e) (λ_ _ _ e=>e)
  (λb ps e=>⟨#[],by rw[e];simp⟩) (λm hm=>?_) (λb u e=>?_) I.bare
 ·obtain⟨_,f1,_,f3,f4,f5⟩:=hf b hb
  exact⟨f3,f1,f4,f5⟩
 ·obtain⟨o,es,ep,ho,r⟩:=hm
  exact⟨o,es,ep,k _ o (λz=>(hf _ z).2.1 rfl) ho,r⟩
 ·refine(I.aG b u e).gG (λc v hc q=>k c v ?_ q) (λ_ q=>q) λ_ _ q=>q
  rcases hc with z|z
  ·rw[z];exact JM b u e
  ·exact JM c _ z
theorem Inv.EO {X:Cx} {pins:List (Addr×Obj)} {σ:St} {H:Hp} {s:Y4} {h':Heap} {t':Nat} {ch:List Addr} {p:Addr} {u:HO} (I:Inv X pins σ H s) (k:∀b o,b∉ch->s.heap.get? b=some o->h'.get? b=some o) (hf:∀b∈ch,gb X pins H b)
  (hp:s.heap.objs.size<=p) (new:cL X.prog X.w (upd H p u) h' p u):Inv X pins σ (upd H p u) { s with heap:=h',toks:=t' }:=by
 have hn:H p=none:=I.aG.fresh hp;have aG:cm X.prog X.w (upd H p u) h':=(I.yo (t':=t') k hf).aG.adopt hn new;refine I.step (g':=s.gens) (d':=s.drawn) (ch:=ch) (λb hb=>?_) (λb o _ _ hc e _=>k b o hc e) (λb o _ _ hc e _=>⟨o.slots,k b o hc e⟩) (λb o _ e n=>?_) (λb o hc e=>⟨o,k b o hc e⟩) (λc xs e=>by rw[bq (eO e hn)];exact e) (λc o v e=>by rw[bq (eO e hn)];exact e)
  (λc ps e=>⟨#[],by rw[bq (eO e hn),e];simp⟩) (λm hm=>?_) aG I.bare
 ·obtain⟨_,f1,_,f3,f4,f5⟩:=hf b hb
  exact⟨f3,f1,f4,f5⟩
 ·rw[bq (Zn (Y5 (Y9 e) hp))]
  exact n
 ·obtain⟨o,es,ep,ho,r⟩:=hm
  exact⟨o,es,ep,k _ o (λz=>(hf _ z).2.1 rfl) ho,r⟩
noncomputable def A1 (K:Frag) (a b:Addr):It :=
 ⟨λi H=>∃xs ys x y,aS K H a xs/\aS K H b ys/\xs[i]?=some x/\ys[i]?=some y,λi H v H'=>∃p x y,H p=none/\v=.ref p/\H'=upd H p (.tup [x,y])/\∀xs ys,aS K H a xs->aS K H b ys->xs[i]?=some x/\ys[i]?=some y,
  λi H=>∃xs ys,aS K H a xs/\aS K H b ys/\(xs.length<=i\/ys.length<=i)⟩
structure Ug (it:Nat->Heap->Prop) (i4:Nat->Heap->Prop) (z ti to j1 j2:Addr) (i:Nat) (h:Heap):Prop where
 z:IsZip h z ti to .none
 ti:aca h ti (.ref j1) (.ref j2)
 to:∃u v,aca h to u v
 h1:it i h
 h2:i4 i h
structure Jh (z ti to j1 j2:Addr):Prop where
 a1:ti≠z
 a2:to≠z
 a3:j1≠z
 a4:j2≠z
 a5:ti≠to
 a6:ti≠j1
 a7:ti≠j2
 a8:to≠j1
 a9:to≠j2
 b0:j1≠j2
theorem Nj {P:ZE} {w:World} {K:Frag} {elts:List Expr} {kk:Nat} {pos:Pos} (a b z ti to j1 j2:Addr) (F:Jh z ti to j1 j2) :
  Turn P w K (.Tuple elts kk pos) (A1 K a b) [z,ti,to,j1,j2] z (Ug (λi h=>h.IsTupleIter j1 a i) (λi h=>h.IsTupleIter j2 b i) z ti to j1 j2) where
 mem:=by simp
 obj:=λi h st c hc=>by
  have iD:c=z\/c=ti\/c=to\/c=j1\/c=j2:=by simpa using hc
  rcases iD with rfl|rfl|rfl|rfl|rfl
  ·exact⟨_,st.z,λv q=>nomatch q⟩
  ·exact⟨_,st.ti,λv q=>nomatch q⟩
  ·obtain⟨u,v,q⟩:=st.to;exact⟨_,q,λv q=>nomatch q⟩
  ·obtain⟨o,e,_,d⟩:=st.h1;exact⟨o,e,λv q=>by rw[d] at q;cases q⟩
  ·obtain⟨o,e,_,d⟩:=st.h2;exact⟨o,e,λv q=>by rw[d] at q;cases q⟩
 keep:=λi h h' st k=>⟨k z (by simp) _ st.z,k ti (by simp) _ st.ti,by obtain⟨u,v,q⟩:=st.to;exact⟨u,v,k to (by simp) _ q⟩,st.h1.at λo e=>k j1 (by simp) o e,st.h2.at λo e=>k j2 (by simp) o e⟩
 item:=by
  intro X hP hw hK hc i pins s σ H E I hf st hg;subst hP hw hK;obtain⟨xs,ys,x,y,hx,hy,ex,ey⟩:=hg;obtain⟨i1,r1,p1,z1⟩:=I.tuple hx;obtain⟨i2,r2,p2,z2⟩:=I.tuple hy;obtain⟨u,eu,ru⟩:=r1.get ex;obtain⟨v,ev,rv⟩:=r2.get ey;have ne:∀c∈[z,ti,to,j1,j2],a≠c/\b≠c:=λc j6=>⟨rE I hx (hf c j6),rE I hy (hf c j6)⟩;have D:HZ.Apart z ti to j1 j2 a b:=⟨F.a1,F.a2,F.a3,F.a4,F.a5,F.a6,F.a7,F.a8,F.a9,F.b0,(ne z (by simp)).1,(ne to (by simp)).1,(ne j1 (by simp)).1,(ne j2 (by simp)).1,(ne z (by simp)).2,(ne to (by simp)).2,(ne j1 (by simp)).2,(ne j2 (by simp)).2⟩;obtain⟨w1,w2,xq⟩:=st.to;have hh:X.A.in1.handled=none:=I.ok.hd hc;refine HZ.next_item D (HZ.pT hh j1 a i1.toArray) (HZ.pT hh j2 b i2.toArray) st.z st.ti xq ⟨st.h1,p1⟩ ⟨st.h2,p2⟩ (by simpa using eu) (by simpa using ev) λh' c1 c2 c3 c4 c5 c6 c7=>⟨_,rfl,?_⟩;refine wpAny_letOwnedTupleGo_zip c1 λh2 d1 d2=>?_;have hn:H s.heap.objs.size=none:=I.aG.fresh (Nat.le_refl _);have xr:z<s.heap.objs.size:=Y9 st.z;have mQ:IsTup h2 s.heap.objs.size #[u,v]:=⟨_,d2.extBut _ _ (aan xr) c5,rfl,_,rfl⟩
  have I2:Inv X pins σ (upd H s.heap.objs.size (.tup [x,y])) { s with heap:=h2,toks:=s.toks }:=I.EO (ch:=[z,ti,to,j1,j2]) (λc o oU e=>by
   have q:c≠z/\c≠ti/\c≠to/\c≠j1/\c≠j2:=by simpa using oU
   exact d2.extBut c o q.1 (c7 c o q.1 q.2.2.1 q.2.2.2.1 q.2.2.2.2 e)) hf (Nat.le_refl _) ⟨by show 2<=Zf;decide,[u,v],.cons ru (.cons rv .nil),mQ⟩
  refine⟨.ref s.heap.objs.size,_,I2,rfl,⟨_,x,y,hn,rfl,rfl,λWi YH q1 q2=>?_⟩,?_,λc j6=>?_⟩
  ·rw[I.uZ q1 hx,I.uZ q2 hy];exact⟨ex,ey⟩
  ·refine⟨d1,d2.extBut _ _ F.a1 (c7 _ _ F.a1 F.a5 F.a6 F.a7 st.ti),⟨_,_,d2.extBut _ _ F.a2 c2⟩,c3.1.extBut d2.extBut F.a3,c4.1.extBut d2.extBut F.a4⟩
  ·rw[bq]
   ·exact(hf c j6).1
   ·intro e
    obtain⟨o,eo⟩:∃o,s.heap.get? c=some o:=by
     have iD:c=z\/c=ti\/c=to\/c=j1\/c=j2:=by simpa using j6
     rcases iD with q|q|q|q|q
     ·rw[q];exact⟨_,st.z⟩
     ·rw[q];exact⟨_,st.ti⟩
     ·rw[q];exact⟨_,xq⟩
     ·rw[q];obtain⟨o,e,_⟩:=st.h1;exact⟨o,e⟩
     ·rw[q];obtain⟨o,e,_⟩:=st.h2;exact⟨o,e⟩
    exact absurd (Y9 eo) (by rw[e];exact ZF _)
 done:=by
  intro X hP hw hK hc i pins s σ H E I hf st hg;subst hP hw hK;obtain⟨xs,ys,hx,hy,hle⟩:=hg;obtain⟨i1,r1,p1,z1⟩:=I.tuple hx;obtain⟨i2,r2,p2,z2⟩:=I.tuple hy;have ne:∀c∈[z,ti,to,j1,j2],a≠c/\b≠c:=λc j6=>⟨rE I hx (hf c j6),rE I hy (hf c j6)⟩;have D:HZ.Apart z ti to j1 j2 a b:=⟨F.a1,F.a2,F.a3,F.a4,F.a5,F.a6,F.a7,F.a8,F.a9,F.b0,(ne z (by simp)).1,(ne to (by simp)).1,(ne j1 (by simp)).1,(ne j2 (by simp)).1,(ne z (by simp)).2,(ne to (by simp)).2,(ne j1 (by simp)).2,(ne j2 (by simp)).2⟩;obtain⟨w1,w2,xq⟩:=st.to;have hh:X.A.in1.handled=none:=I.ok.hd hc;have l1:=r1.length;have l2:=r2.length;refine HZ.next_end D (HZ.pT hh j1 a i1.toArray) (HZ.pT hh j2 b i2.toArray) st.z st.ti xq ⟨st.h1,p1⟩ ⟨st.h2,p2⟩ ?_ λh' c7=>⟨rfl,I.yo (t':=s.toks) (ch:=[z,ti,to,j1,j2]) (λc o oU e=>by
   have q:c≠z/\c≠ti/\c≠to/\c≠j1/\c≠j2:=by simpa using oU
   exact c7 c o q.1 q.2.2.1 q.2.2.2.1 q.2.2.2.2 e) hf⟩
  rcases hle with q|q
  ·left;simp;omega
  ·right;simp;omega
 self:=λA i s Q E st h=>wpAny_pyIter_zip st.z h
end L2
namespace HZ
open PySem PySem.Spec PyProof.Rows
noncomputable abbrev y1 (h:Heap) (m1:Addr):Heap:=h.push { cls:=.type "tuple_iterator",data:=.fields #[.ref m1,.int 0 0] }
noncomputable abbrev y2 (h:Heap) (m1 m2:Addr):Heap:=(y1 h m1).push { cls:=.type "tuple_iterator",data:=.fields #[.ref m2,.int 0 0] }
noncomputable abbrev y3 (h:Heap) (m1 m2:Addr):Heap:=(y2 h m1 m2).push { cls:=.type "tuple",data:=.seq #[.ref h.objs.size,.ref (y1 h m1).objs.size] }
noncomputable abbrev y4 (h:Heap) (m1 m2:Addr):Heap:=(y3 h m1 m2).push { cls:=.type "tuple",data:=.seq #[.none,.none] }
noncomputable abbrev y5 (h:Heap) (m1 m2:Addr):Heap:=(y4 h m1 m2).push { cls:=.type "zip",data:=.fields #[.none,.bool false,.bool false,.ref (y2 h m1 m2).objs.size,.ref (y3 h m1 m2).objs.size] }
theorem Mj (m1 m2:Addr) (xs ys:Array Value) :
  Meets (aaY.«zip.__new__» ⟨[.type "zip",.ref m1,.ref m2],[]⟩) (λ_ R s=>s.heap.IsTuple m1 xs/\s.heap.IsTuple m2 ys/\R (.ok (.ret (.ref (y4 s.heap m1 m2).objs.size))) { s with heap:=y5 s.heap m1 m2 }) :=
 .of_wp λprog w A R s h=>by
  obtain⟨hp,g,d,tk,os⟩:=s;obtain⟨h1,h2,h⟩:=h;have Yx:=sub_zip;have L1:Heap.IsTuple (Shared.heap ⟨hp,g,d,tk,os⟩) m1 xs:=h1;have L2:Heap.IsTuple (Shared.heap ⟨hp.push { cls:=.type "tuple_iterator",data:=.fields #[.ref m1,.int 0 0] },g,d,tk,os⟩) m2 ys:=Heap.IsTuple.push h2 _
  wp_walk using aaW L1,aaW L2
  exact⟨_,rfl,h⟩
section
variable {P:ZE} {w:World} {A:ZX} {E:Value->Y4->Prop} {s:Y4}
theorem KU (h1:s.heap.IsTuple m1 xs) (h2:s.heap.IsTuple m2 ys)
 (h:∀h',IsZip h' (s.heap.objs.size+4) (s.heap.objs.size+2) (s.heap.objs.size+3) .none->aca h' (s.heap.objs.size+2) (.ref s.heap.objs.size) (.ref (s.heap.objs.size+1)) ->
   aca h' (s.heap.objs.size+3) .none .none->h'.IsTupleIter s.heap.objs.size m1 0->h'.IsTupleIter (s.heap.objs.size+1) m2 0->h'.objs.size=s.heap.objs.size+5 ->
 (∀c o,s.heap.get? c=some o->h'.get? c=some o)->Q (.ref (s.heap.objs.size+4)) { s with heap:=h' }):wpAny (model P w) A (call (.type "zip") [.ref m1,.ref m2]) Q E s:=by
 refine callType_new F.called_zip (by decide) (F.typeCall_zip_2 _ _) (F.newCall_zip_2 _ _) (λobj=>F.args_object_init_3 obj _ _) F.entry_zip_new (Mj m1 m2 xs ys) ⟨h1,h2,?_⟩;have e1:(y1 s.heap m1).objs.size=s.heap.objs.size+1:=ZP ..;have e2:(y2 s.heap m1 m2).objs.size=s.heap.objs.size+2:=by rw[ZP,e1]
 have e3:(y3 s.heap m1 m2).objs.size=s.heap.objs.size+3:=by rw[ZP,e2]
 have e4:(y4 s.heap m1 m2).objs.size=s.heap.objs.size+4:=by rw[ZP,e3]
 have e5:(y5 s.heap m1 m2).objs.size=s.heap.objs.size+5:=by rw[ZP,e4]
 have g5:(y5 s.heap m1 m2).get? (y4 s.heap m1 m2).objs.size=some _:=Y6 _ rfl;have g4:(y5 s.heap m1 m2).get? (y3 s.heap m1 m2).objs.size=some _:=YY _ (Y6 _ rfl);have g3:(y5 s.heap m1 m2).get? (y2 s.heap m1 m2).objs.size=some _:=YY _ (YY _ (Y6 _ rfl));have g2:(y5 s.heap m1 m2).get? (y1 s.heap m1).objs.size=some _:=YY _ (YY _ (YY _ (Y6 _ rfl)));have g1:(y5 s.heap m1 m2).get? s.heap.objs.size=some _:=YY _ (YY _ (YY _ (YY _ (Y6 _ rfl))));show _/\_;rw[e2,e3,e4] at g5;rw[e1,e2] at g3;rw[e3] at g4;rw[e1] at g2;rw[e4];exact⟨⟨_,g5,rfl⟩,h _ g5 g3 g4 ⟨_,g1,rfl,rfl⟩ ⟨_,g2,rfl,rfl⟩ e5 λc o q=>YY _ (YY _ (YY _ (YY _ (YY _ q))))⟩
end
end HZ
namespace L2
open PySem PySem.Spec PyProof.Rows
theorem OC (n:Nat):Jh (n+4) (n+2) (n+3) n (n+1):=by constructor<;>(show (_:Nat)≠_)<;>omega
section
variable {X:Cx} {elts:List Expr} {kk:Nat} {tp:Pos}
noncomputable def Uh (K:Frag) (ta:TA):TI:=fun σ H R=>ta σ H λvs H1=>∃a b xs ys,vs=[.ref a,.ref b]/\aS K H1 a xs/\aS K H1 b ys/\R (A1 K a b) H1
theorem Nk:ZL "zip"=some (.type "zip"):=by decide +kernel
theorem Si {pins:List (Addr×Obj)} {σ:St} {H:Hp} {s:Y4} (I:Inv X pins σ H s):∀b∈[s.heap.objs.size+4,s.heap.objs.size+2,s.heap.objs.size+3,s.heap.objs.size,s.heap.objs.size+1],gb X pins H b:=λb hb=>by
 have fu:s.heap.objs.size<=b:=by
  have q:b=s.heap.objs.size+4\/b=s.heap.objs.size+2\/b=s.heap.objs.size+3\/b=s.heap.objs.size\/b=s.heap.objs.size+1:=by simpa using hb
  omega
 exact I.ow fu (I.aG.fresh fu)
theorem Qn {a b:Expr} {ta:TA} {p pos:Pos} (hg:Gl X "zip") (hm:X.mg "zip"=none) (ha:PA X [a,b] ta) (hs:Zp [a,b] X.env=[(false,eval a X.env),(false,eval b X.env)]:=by rfl) (eG:Zp [b] X.env=[(false,eval b X.env)]:=by rfl) :
  PI X (.Tuple elts kk tp) (.Call (.Name "zip" p) [a,b] [] pos) (Uh X.K ta):=by
 intro pins s σ H R I h;refine Call_ (lq I hg hm Nk (aak (aF (ha pos pins s σ H _ I h) λus s1 ⟨vs,H1,I1,r1,q1⟩=>?_) (by rw[hs,eG]) (by rw[eG];rfl)));obtain⟨a,b,xs,ys,e,hx,hy,q⟩:=q1;subst e;obtain⟨u,v,rfl,ru,rv⟩:=vals2 r1;cases ru;cases rv;obtain⟨i1,_,p1,_⟩:=I1.tuple hx;obtain⟨i2,_,p2,_⟩:=I1.tuple hy;refine HZ.KU (xs:=i1.toArray) (ys:=i2.toArray) p1 p2 λh' c1 c2 c3 c4 c5 c6 c7=>?_
 refine wpAny_pyIter_zip (s:={ s1 with heap:=h' }) c1 ?_
 exact⟨_,[s1.heap.objs.size+4,s1.heap.objs.size+2,s1.heap.objs.size+3,s1.heap.objs.size,s1.heap.objs.size+1],_,_,H1,rfl,I1.kept (t':=s1.toks) c7,Nj a b _ _ _ _ _ (OC _),⟨c1,c2,⟨_,_,c3⟩,c4,c5⟩,Si I1,q⟩
end
end L2
namespace PySem
section
variable {P:ZE} {w:World} {A:ZX} {E:Value->Y4->Prop} {s:Y4}
end
end PySem
namespace L2
open PySem PySem.Spec PyProof.Rows
theorem map_getD (ns:List Int):(Zk ns.length).map (λi=>ns.getD i 0)=ns:=by
 apply aa7;intro i;rw[Zj];by_cases h:i<ns.length
 ·rw[Z0 h,Y8 h]
  simp[abw,Y8 h]
 ·rw[ZM (by simpa using h),ZM (by omega)]
  rfl
section
variable {X:Cx}
end
end L2
namespace L2
open PySem PySem.Spec PyProof.Rows
section
variable {κ:Type} [DecidableEq κ]
noncomputable def putK (ao:List (κ×V)) (k:κ) (v:V):List (κ×V) :=
 if (ao.any λkv=>decide (kv.1=k))=true then ao.map (λkv=>if kv.1=k then (kv.1,v) else kv) else ao++[(k,v)]
theorem LG (ao:List (κ×V)) (k:κ) (v:V):(putK ao k v).length<=ao.length+1:=by
 unfold putK;split
 ·rw[Y1];omega
 ·rw[Zx,Zz,ZY];omega
theorem KV.any (r:KV ao vs) (k:κ):(ao.any λkv=>decide (kv.1=k))=vs.any λkv=>decide (kv.1=k):=by
 unfold KV at r
 induction r with
 |nil=>rfl
 |cons h t ih=>rw[adf,adf,ih,h.1]
theorem KV.Vz (r:KV ao vs) (k:κ) (ry:RelV y u) :
  KV (ao.map λkv=>if kv.1=k then (kv.1,y) else kv) (vs.map λkv=>if kv.1=k then (kv.1,u) else kv):=by
 unfold KV at r |-
 induction r with
 |nil=>exact .nil
 | @cons p q ps qs h t ih =>
  rw[Zl,Zl];refine .cons ?_ ih;obtain⟨h1,h2⟩:=h;by_cases e:p.1=k
  ·rw[if_pos e,if_pos (h1.symm.trans e)];exact⟨h1,ry⟩
  ·rw[if_neg e,if_neg (λz=>e (h1.trans z))];exact⟨h1,h2⟩
theorem KV.put (r:KV ao vs) (k:κ) (ry:RelV y u):KV (putK ao k y) (stored vs k u):=by
 unfold putK stored;rw[r.any k];by_cases e:(vs.any λkv=>decide (kv.1=k))=true
 ·rw[if_pos e,if_pos e];exact r.Vz k ry
 ·rw[if_neg e,if_neg e];exact Paired.snoc r ⟨rfl,ry⟩
end
theorem Ui (r:RelV (kV k) u):(jd P w).is k u=true:=by
 cases k with
 |inl i=>obtain⟨t,e⟩:=(show ∃t,u=adj i t from r);subst e;exact Lz P w i t
 |inr x=>obtain⟨t,e⟩:=(show ∃t,u=Value.str x t from r);subst e;exact LA P w x t
section
variable {P:ZE} {w:World} {H:Hp} {h:Heap} {a:Addr}
theorem Uj (ok:cm P w H h) (e:Rd H a u):cL P w H h a u:=e.ok ok
theorem Uk (ok:cm P w H h) (e:Rd H a (.dK ao)):ao.length<=Zf/\(a==aaJ)=false/\∃vs,KV ao vs/\h.DictOf (jd P w) a vs :=
 show cL P w H h a (.dK ao) from Uj ok e
theorem Ul (ok:cm P w H h) (e:H a=some (.dK ao)):ao.length<=Zf/\(a==aaJ)=false/\∃vs,KV ao vs/\h.DictOf (jd P w) a vs:=Uk ok (.inl e)
end
section
variable {X:Cx} {pins:List (Addr×Obj)} {σ:St} {H:Hp} {s:Y4} {a:Addr} {y v:V} {u r:Value} {o:Option V} {A:ZX} {E:Value->Y4->Prop}
theorem Inv.big (I:Inv X pins σ H s):aaJ<s.heap.objs.size:=by
 have h:Zy<s.heap.objs.size:=(I.mod.glob.keeps I.bk).lt;exact Nat.lt_trans (by decide) h
theorem Gg (I:Inv X pins σ H s) (mu:sH (H a)) (hs:aaz a s.heap h') (he:∃q,h'.get? a=some q) (new:cL X.prog X.w (upd H a ob) h' a ob) :
  Inv X pins σ (upd H a ob) { s with heap:=h',toks:=t' } :=
 I.write (x:=a) (e:=a) mu (.inl rfl) (λb q hb z=>(hs.2 b hb).trans z) he new
theorem Sj (z:ao.length<=Zf) (hd:(a==aaJ)=false) (rel:KV ao vs) (dd:h'.DictOf (jd P w) a vs) :
  cL P w H' h' a (.dK ao):=⟨z,hd,vs,rel,dd⟩
end
section
variable {X:Cx} {pins:List (Addr×Obj)} {σ:St} {H:Hp} {s:Y4} {a:Addr} {ao:List (Key×V)} {k:Key} {u:Value} {A:ZX} {E:Value->Y4->Prop}
end
section
variable {X:Cx} {o i e value:Expr} {pos pos' wI:Pos} {td ty tv:TE}
end
theorem Fo (h:Heap) (hb:aaJ<h.objs.size):cL P w H (h.push { cls:=.type "dict",data:=.dict #[] }) h.objs.size (.dK []) :=
 ⟨aad _,beq_eq_false_iff_ne.mpr (abe (Zn hb)),[],.nil,Heap.DictOf.new h⟩
noncomputable def Sn:TE:=λ_ H Q=>∀p,H p=none->Q (.ref p) (upd H p (.dK []))
section
variable {X:Cx} {pos:Pos}
theorem OD:PE X (.Dict [] [] pos) Sn:=λpins s σ H Q I h =>
 wpAny_Dict_empty ⟨.ref s.heap.objs.size,_,I.laid (a:=s.heap.objs.size) (o:=.dK []) (t':=s.toks) (λ_ _ q=>YY _ q) (Nat.le_refl _) (Fo s.heap I.big),rfl,h _ (I.aG.fresh (Nat.le_refl _))⟩
end
noncomputable def zE:List (TE×TE)->St->Hp->(List (V×V)->Hp->Prop)->Prop
 | [],_,H,Q=>Q [] H
 |(tk,tv)::r,σ,H,Q=>tk σ H λx H1=>tv σ H1 λy H2=>zE r σ H2 λps H3=>Q ((x,y)::ps) H3
noncomputable abbrev VV:List (V×V)->List (Value×Value)->Prop:=Paired λp q=>RelV p.1 q.1/\RelV p.2 q.2
def xt (X:Cx) (pos:Pos) (keys:List (Option Expr)) (values:List Expr) (oV:List (TE×TE)):Prop :=
 ∀(pins:List (Addr×Obj)) (s:Y4) (σ:St) (H:Hp) (Q:List (V×V)->Hp->Prop),Inv X pins σ H s->zE oV σ H Q ->
  wpAny (model X.prog X.w) X.A (evalPairs (pairTrees keys values X.env pos)) (λvs s'=>∃ps H',Inv X pins σ H' s'/\VV ps vs/\Q ps H') X.xe s
theorem Qo:xt X pos [] [] []:=λpins s σ H Q I h=>pairTrees_nil_walk ⟨[],H,I,.nil,h⟩
theorem OE (hk:PE X k tk) (hv:PE X v tv) (hr:xt X pos ks vs oV) :
  xt X pos (some k::ks) (v::vs) ((tk,tv)::oV):=λpins s σ H Q I h =>
 pairTrees_cons_walk (aF (hk pins s σ H _ I h) λu s1 ⟨x,H1,I1,rx,q1⟩=>aF (hv pins s1 σ H1 _ I1 q1) λw2 s2 ⟨y,H2,I2,ry,q2⟩ =>
  aF (hr pins s2 σ H2 _ I2 q2) λws s3 ⟨ps,H3,I3,rel,q3⟩=>⟨(x,y)::ps,H3,I3,.cons ⟨rx,ry⟩ rel,q3⟩)
noncomputable def p9 (ao more:List (Key×V)):List (Key×V):=more.foldl (λacc kv=>putK acc kv.1 kv.2) ao
theorem KV.merge:∀{more:List (Key×V)} {rs:List (Key×Value)} {ao:List (Key×V)} {vs:List (Key×Value)},KV more rs->KV ao vs->KV (p9 ao more) (merged vs rs):=by
 intro more rs ao vs r;unfold KV at r
 induction r generalizing ao vs with
 |nil=>intro q;exact q
 | @cons p q ps qs h t ih =>
  intro r0;have e:KV (putK ao p.1 p.2) (stored vs q.1 q.2):=by
   have:=r0.put p.1 h.2;rw[<- h.1];exact this
  exact ih e
theorem DF:∀(more ao:List (Key×V)),(p9 ao more).length<=ao.length+more.length
 | [],ao=>by show ao.length<=ao.length+0;omega
 |p::r,ao=>by
  have h1:=DF r (putK ao p.1 p.2);have h2:=LG ao p.1 p.2;show (p9 (putK ao p.1 p.2) r).length<=_;rw[Zz];omega
theorem El:∀{ao:List (Key×V)} {ws:List (Value×Value)},VV (ao.map λkv=>(kV kv.1,kv.2)) ws->∃rs,Carries (jd P w) ws rs/\KV ao rs
 | [],_,r=>by rw[aaL] at r;cases r;exact⟨[],True.intro,.nil⟩
 |p::ao,_,r=>by
  rw[Zl] at r
  cases r with
  | @cons a b as bs h t =>
   obtain⟨rs,c,q⟩:=El (P:=P) (w:=w) t;obtain⟨b1,b2⟩:=b;exact⟨(p.1,b2)::rs,⟨Ui h.1,rfl,c⟩,.cons ⟨rfl,h.2⟩ q⟩
noncomputable def Um (oV:List (TE×TE)):TE:=fun σ H Q=>∀p,H p=none->zE oV σ (upd H p (.dK [])) λps H2=>H2 p=some (.dK [])/\∃ao:List (Key×V),ps=ao.map (λkv=>(kV kv.1,kv.2))/\ao.length<=15/\Q (.ref p) (upd H2 p (.dK (p9 [] ao)))
theorem Qp (h:xt X pos keys values oV) (cw:keys.all (·.isSome)=true) (hl:keys.length=values.length) (h0:keys≠[])
 (tH:keys.length<=15):PE X (.Dict keys values pos) (Um oV):=by
 intro pins s σ H Q I q;have hn:=I.aG.fresh (Nat.le_refl s.heap.objs.size);have I1:=I.laid (a:=s.heap.objs.size) (o:=.dK []) (h':=s.heap.push { cls:=.type "dict",data:=.dict #[] }) (t':=s.toks) (λ_ _ q=>YY _ q) (Nat.le_refl _) (Fo s.heap I.big);refine wpAny_Dict_walk (knd:=jd X.prog X.w) cw hl h0 tH (aF (h pins _ σ _ _ I1 (q _ hn)) λws s2 ⟨ps,H2,I2,rel,e,ao,ep,lk,q2⟩=>?_);subst ep;obtain⟨rs,c,rk⟩:=El (P:=X.prog) (w:=X.w) rel;obtain⟨z,hd,YI,r0,dd⟩:=Ul I2.aG e;cases r0;refine⟨rs,c,dd,λh' JN hs=>⟨.ref s.heap.objs.size,_,?_,rfl,q2⟩⟩;have hz:(p9 [] ao).length<=Zf:=by
  have h1:=DF ao [];rw[ZY] at h1;rw[abB];omega
 have he:∃q,h'.get? s.heap.objs.size=some q:=let ⟨q,_,_,hq,_⟩:=JN;⟨q,hq⟩
 exact Gg I2 (by rw[e];exact True.intro) hs he (Sj hz hd (rk.merge .nil) JN)
structure M1 (X:Cx) (o:Expr) (m:Str) (apos:Pos) (e:Expr) (dQ:Pos):Prop where
 base:attributeBase o m X.env (eval o X.env)=eval o X.env
 kL:((ab5 dQ (Zp [e] X.env)).all (λx=>!x.1)&&(backToKw dQ (keywordEach [] X.env)).all (λx=>x.1.isSome)
  && decide (([e]:List Expr).length+([]:List Keyword).length+(if ([]:List Keyword).isEmpty then 0 else 1)<30))=true
 line:(apos.endLine==dQ.line)=true
 trees:ab5 dQ (Zp [e] X.env)=[(false,eval e X.env)]
structure M2 (X:Cx) (o:Expr) (m:Str) (apos:Pos) (e f:Expr) (dQ:Pos):Prop where
 base:attributeBase o m X.env (eval o X.env)=eval o X.env
 kL:((ab5 dQ (Zp [e,f] X.env)).all (λx=>!x.1)&&(backToKw dQ (keywordEach [] X.env)).all (λx=>x.1.isSome)
  && decide (([e,f]:List Expr).length+([]:List Keyword).length+(if ([]:List Keyword).isEmpty then 0 else 1)<30))=true
 line:(apos.endLine==dQ.line)=true
 trees:ab5 dQ (Zp [e,f] X.env)=[(false,eval e X.env),(false,eval f X.env)]
section
variable {X:Cx} {pins:List (Addr×Obj)} {σ:St} {H:Hp} {s:Y4} {a:Addr} {y d:V} {u r:Value} {o:Option V} {A:ZX} {E:Value->Y4->Prop}
end
section
variable {X:Cx} {o e f:Expr} {apos dQ:Pos} {td ty tx:TE}
end
section
variable {X:Cx} {pins:List (Addr×Obj)} {σ:St} {H:Hp} {s:Y4} {a:Addr} {ao:List (Key×V)} {A:ZX} {E:Value->Y4->Prop}
end
section
variable {X:Cx} {pins:List (Addr×Obj)} {σ:St} {H:Hp} {s:Y4} {a:Addr} {y:V} {u:Value} {A:ZX} {E:Value->Y4->Prop}
end
end L2
namespace L2
open PySem PySem.Spec PyProof.Rows
section
variable {K:Frag} {caps:St} {H:Hp} {tf:TT} {te:TE} {Q:VK}
end
noncomputable def He (sc:Scope) (on:List (Str×abV)) (oN N:List Str) (nt:Nat) (cap:List Nat):Bool :=
 decide (sc.kind=.function)&&sc.names.all (λx=>decide (x.2≠.cell))&&sc.names.all (λx=>decide (x.2=.local->sc.names.lookup x.1=some .local)) &&
 sc.names.all (λx=>decide (x.2=.free->sc.names.lookup x.1=some .free/\(on.lookup x.1=some .cell\/on.lookup x.1=some .free)))&&decide (N.length=nt+cap.length) &&
 (Zk cap.length).all (λk=>match cap[k]? with
  |some j=>match oN[j]? with
   |some x=>decide (N[nt+k]?=some x)&&decide ((x,ZQ)∈sc.names)
   |none=>false
  |none=>true)
theorem Ih (h:He sc X.env.scope.names X.N N nt cap=true):rD X sc N nt cap:=by
 unfold He at h;simp only[Y3,Zu,decide_eq_true_eq] at h;obtain⟨⟨⟨⟨⟨h1,h2⟩,h3⟩,h4⟩,h5⟩,h6⟩:=h;refine⟨h1,h2,h3,λx hx e=>h4 x hx e,h5,λk j e=>?_⟩;have hk:k<cap.length:=(Y0.mp e).1;have:=h6 k (ZO.mpr hk);rw[e] at this;dsimp only at this
 cases ex:X.N[j]? with
 |none=>rw[ex] at this;cases this
 |some x =>
  rw[ex] at this;simp only[Y3,decide_eq_true_eq] at this;exact⟨x,rfl,this.1,this.2⟩
end L2
namespace TS
open PySem
abbrev jP (l:List Nat):Prop:=l.Pairwise (· < ·)
theorem OF (xs:Array Nat) (k d:Nat):xs.getD k d=xs.toList.getD k d:=by
 cases xs with
 |mk l =>
  by_cases h:k<l.length
  ·simp[acO,abw,h]
  ·simp[acO,abw,h]
theorem vz (h:jP l) (tI:a<b) (hb:b<l.length):l.getD a 0<l.getD b 0:=by
 have:=List.pairwise_iff_getElem.mp h a b (by omega) hb tI;simpa [abw,Y8 hb,Y8 (show a<l.length by omega)] using this
theorem OG (l:List Nat) (hk:k<l.length) (d e:Nat):l.getD k d=l.getD k e:=by
 simp[abw,Y8 hk]
theorem za (xs:Array Nat) (j:Nat) (hr:jP xs.toList):∀(fuel lo hi:Nat),hi-lo<=fuel->lo<=hi->hi<=xs.toList.length->(∀k,k<lo->xs.toList.getD k 0<j)->(∀k,hi<=k->k<xs.toList.length->j<=xs.toList.getD k 0) ->
  acQ xs j fuel lo hi<=xs.toList.length/\(∀k,k<acQ xs j fuel lo hi->xs.toList.getD k 0<j)/\(∀k,acQ xs j fuel lo hi<=k->k<xs.toList.length->j<=xs.toList.getD k 0)
 |0,lo,hi,hf,hl,hh,h1,h2=>by
  have e:lo=hi:=by omega
  subst e;exact⟨hh,h1,h2⟩
 |fuel+1,lo,hi,hf,hl,hh,h1,h2=>by
  unfold acQ;by_cases bC:lo<hi
  ·rw[if_pos bC]
   dsimp only;have hm:(lo+hi) / 2<xs.toList.length:=by omega
   rw[OF,OG _ hm j 0];by_cases hc:xs.toList.getD ((lo+hi) / 2) 0<j
   ·rw[if_pos hc]
    refine za xs j hr fuel _ _ (by omega) (by omega) hh (λk hk=>?_) h2;by_cases nk:k=(lo+hi) / 2
    ·rw[nk];exact hc
    ·exact Nat.lt_trans (vz hr (by omega) hm) hc
   ·rw[if_neg hc]
    refine za xs j hr fuel _ _ (by omega) (by omega) (by omega) h1 (λk hk nk=>?_);by_cases nq:k=(lo+hi) / 2
    ·rw[nq];omega
    ·have:=vz hr (show (lo+hi) / 2<k by omega) nk
     omega
  ·rw[if_neg bC]
   have e:lo=hi:=by omega
   subst e;exact⟨hh,h1,h2⟩
theorem Em (xs:Array Nat) (j:Nat) (hr:jP xs.toList):Z6 xs j<=xs.toList.length/\(∀k,k<Z6 xs j->xs.toList.getD k 0<j)/\(∀k,Z6 xs j<=k->k<xs.toList.length->j<=xs.toList.getD k 0):=by
 unfold Z6;exact za xs j hr xs.size 0 xs.size (by omega) (aad _) (by simp) (λk hk=>by omega) (λk hk nk=>by simp at nk;omega)
theorem LH {l:List Nat} {p j:Nat} (h:∀k,k<p->l.getD k 0<j):∀x∈l.take p,x<j:=by
 intro x hx;obtain⟨k,hk,e⟩:=aco hx;have tJ:k<p/\k<l.length:=by rw[acf] at hk;omega
 have:=h k tJ.1;rw[List.getElem_take] at e;rw[<- e];simpa [abw,Y8 tJ.2] using this
theorem LI {l:List Nat} {p j:Nat} (h:∀k,p<=k->k<l.length->j<=l.getD k 0):∀x∈l.drop p,j<=x:=by
 intro x hx;obtain⟨k,hk,e⟩:=aco hx;have tJ:p+k<l.length:=by rw[ac7] at hk;omega
 have:=h (p+k) (by omega) tJ;rw[List.getElem_drop] at e;rw[<- e];simpa [abw,Y8 tJ] using this
theorem OH {xs:Array Nat} {j:Nat} (hr:jP xs.toList) (hn:xs[Z6 xs j]?≠some j):jP (SetTable.insertAt xs (Z6 xs j) j).toList:=by
 obtain⟨h0,h1,h2⟩:=Em xs j hr;rw[SetTable.toList_insertAt];have a1:=LH h1;have a2:∀x∈xs.toList.drop (Z6 xs j),j<x:=by
  intro x hx;have xu:=LI h2;have hd:jP (xs.toList.drop (Z6 xs j)):=ac1 (List.drop_sublist _ _) hr
  cases hc:xs.toList.drop (Z6 xs j) with
  |nil=>rw[hc] at hx;cases hx
  |cons y r =>
   rw[hc] at hd hx xu;have hy:j≠y:=by
    intro e;apply hn;have:(xs.toList.drop (Z6 xs j))[0]?=some y:=by rw[hc];rfl
    rw[List.getElem?_drop] at this;have e2:xs.toList[Z6 xs j]?=some y:=by simpa using this
    rw[<- aao,e2,e]
   have JO:j<y:=Nat.lt_of_le_of_ne (xu y Zb) hy
   rcases Zh.mp hx with e|hx
   ·rw[e];exact JO
   ·exact Nat.lt_trans JO ((ZN.mp hd).1 x hx)
 first
  |(refine ac9.mpr ⟨ac1 (List.take_sublist _ _) hr,ZN.mpr ⟨a2,ac1 (List.drop_sublist _ _) hr⟩,λx hx y hy=>?_⟩
    rcases Zh.mp hy with e|hy
    ·rw[e];exact a1 x hx
    ·exact Nat.lt_trans (a1 x hx) (a2 y hy))
  |trace_state
theorem zb (t:SetTable) (h:Int):∀(fuel:Nat) (p:SetTable.Probe) (j:Nat) (dm:Option Nat),(∀d,p.dummy=some d->t.slot d=.dummy)->adz t (λ_=>h+1) h fuel p=some (.empty j dm)->t.slot j=.empty/\∀d,dm=some d->t.slot d=.dummy
 |0,p,j,dm,hp,e=>by simp[adz] at e
 |fuel+1,p,j,dm,hp,e=>by
  unfold adz at e
  cases hs:t.slot p.j with
  |empty =>
   rw[hs] at e;simp at e;rw[<- e.1,<- e.2];exact⟨hs,hp⟩
  |dummy =>
   rw[hs] at e;refine zb t h fuel _ j dm (λd hd=>?_) e;unfold SetTable.advance at hd;split at hd
   ·simp at hd;rw[<- hd];exact hs
   ·simp at hd;rw[<- hd];exact hs
  |live i =>
   rw[hs] at e;have dN:(h+1==h)=false:=by simp;omega
   simp only[dN,Y2,if_false] at e;refine zb t h fuel _ j dm (λd hd=>?_) e;unfold SetTable.advance at hd;split at hd
   ·exact hp d hd
   ·exact hp d hd
theorem ER {t:SetTable} {j:Nat} (h:t.slot j=.empty\/t.slot j=.dummy):t.place[Z6 t.place j]?≠some j:=by
 intro e;have:t.slot j=.live (Z6 t.place j):=by
  unfold SetTable.slot;simp[e]
 rw[this] at h
 rcases h with h|h<;>cases h
theorem Nl {t:SetTable} {h:Int} {j:Nat} {b:Bool} (e:t.freeSlot h=some (j,b)):t.place[Z6 t.place j]?≠some j:=by
 unfold SetTable.freeSlot SetTable.probe at e;split at e
 ·rename_i j' dm hg
  have k:=zb t h _ _ j' dm (λd hd=>by simp[SetTable.probeStart] at hd) hg;simp at e;rw[<- e.1]
  cases dm with
  |none=>exact ER (.inl k.1)
  |some d=>exact ER (.inr (k.2 d rfl))
 ·cases e
structure iA (led:Bool) (t:SetTable):Prop where
 led:t.led=led
 rise:t.plain=true->jP t.place.toList
theorem uG (h:iA led t) (n:Nat):iA led (t.standIn n):=⟨h.led,λz=>by simp[SetTable.standIn] at z⟩
theorem Ml {led:Bool} {t:SetTable} (h:iA led t) (es:Array (Int×Value)) (hs:Int) (x:Value):iA led (layNew t es hs x).2.1:=by
 unfold layNew;split
 ·rename_i slot wd e
  dsimp only;unfold SetTable.orStandIn;have hp:iA led (t.put slot).1:=⟨h.led,λz=>OH (h.rise z) (Nl e)⟩;split
  ·exact hp
  ·exact uG hp _
 ·exact uG h _
theorem OI {mask finger moves:Nat} {led plain:Bool} {hs:Array Int} {o:Array Nat} (e:SetTable.laid mask finger moves led plain hs=some (t,o)):iA led t/\t.plain=plain:=by
 unfold SetTable.laid at e
 cases hl:SetTable.layClean mask hs with
 |none=>rw[hl] at e;simp at e
 |some owner =>
  rw[hl] at e;simp at e;obtain⟨e1,e2⟩:=e;subst e1;refine⟨⟨rfl,λ_=>?_⟩,rfl⟩;show jP (ac2 _).toList;simp only[List.map_filterMap];refine List.pairwise_filterMap.mpr ?_;refine List.Pairwise.imp (R:=(· < ·)) ?_ (List.pairwise_lt_range);intro a b tI x hx y hy
  cases ha:(owner[a]?.getD none) with
  |none=>rw[ha] at hx;simp at hx
  |some q =>
   cases hb:(owner[b]?.getD none) with
   |none=>rw[hb] at hy;simp at hy
   |some r =>
    rw[ha] at hx;rw[hb] at hy;simp at hx hy;omega
theorem Nm (h:iA led t) (es:Array (Int×Value)) (n:Nat):iA led (relayAll t es n).2.1:=by
 unfold relayAll;split
 ·rename_i t' o e
  dsimp only;split
  ·unfold SetTable.relaid at e
   have k:=OI e;exact⟨k.1.led.trans h.led,k.1.rise⟩
  ·exact uG h _
 ·exact uG h _
theorem ES (led:Bool):iA led (.fresh 0 0 led):=⟨rfl,λ_=>List.Pairwise.nil⟩
end TS
namespace TS
open PySem PySem.Spec PyProof.Rows
section
variable {P:ZE} {w:World} {A:ZX} {E:Value->Y4->Prop} {s:Y4} {led:Bool}
def fH (P:ZE) (w:World) (led:Bool) (h:Heap) (a:Addr) (S:Int->Bool) (n:Nat):Prop :=
 ∃o es ep t,h.get? a=some o/\o.ExactSet/\o.data=.set es ep t/\ElemsOf (abd P w) es.toList/\(∀k,S k=true↔∃e∈es.toList,(abd P w).is k e.2=true)/\es.size<abJ/\t.fits es.size=true/\es.size=n/\iA led t
theorem fH.at (x:fH P w led h a S n) (k:∀o,h.get? a=some o->h'.get? a=some o):fH P w led h' a S n:=by
 obtain⟨o,es,ep,t,ho,r⟩:=x;exact⟨o,es,ep,t,k o ho,r⟩
theorem fH.congr (x:fH P w led h a S n) (e:∀k,S k=S' k) (en:n=n'):fH P w led h a S' n':=by
 obtain rfl:S=S':=funext e;subst en;exact x
theorem zc {a:Addr} {u:Obj} {es fT:Array (Int×Value)} {ep:Nat} {t t':SetTable} {h:Heap} (hu:h.get? a=some u) (hx:u.ExactSet) (hd:u.data=.set es ep t) {S:Int->Bool}
  (c1:ElemsOf (abd P w) fT.toList) (c2:∀k,S k=true↔∃e∈fT.toList,(abd P w).is k e.2=true) (c3:fT.size<abJ) (c4:t'.fits fT.size=true) (c5:iA led t') :
  (h.update a (Obj.putSet fT t')).get? a=some { u with data:=.set fT (ep+1) t' }/\fH P w led (h.update a (Obj.putSet fT t')) a S fT.size:=by
 have g:=(SetOf_store (knd:=abd P w) hu hx hd c1 c2 c3 c4).1;exact⟨g,_,fT,ep+1,t',g,hx,rfl,c1,c2,c3,c4,rfl,c5⟩
theorem Qq {a:Addr} {S:Int->Bool} {n:Nat} {k:Int} {tk:Tok} {Q:Bool->Y4->Prop} (hS:fH P w led s.heap a S n) (Uo:n+1<abJ)
  (h:∀h',aaz a s.heap h'->fH P w led h' a (λj=>S j||decide (j=k)) (if S k then n else n+1)->Q (!S k) { s with heap:=h' }) :
  wpAny (model P w) A (setAddHashed a (.int k tk) ((abd P w).hash k)) Q E s:=by
 obtain⟨u,es,ep,t,hu,hx,hd,c1,c2,c3,c4,hn,c5⟩:=hS;have ky:(abd P w).is k (.int k tk)=true:=intKind_is _ _ _ _;have sc:(adj k tk).scannable=true:=rfl;have BC:es.size+1<abJ:=by rw[hn];exact Uo
 unfold setAddHashed setAddHashedIn;refine aat ?_;refine YX (abx hu hd c4 ?_);dsimp only;rw[byScan_of sc c3 c1,if_pos rfl];unfold setAddByScan;refine YX (YX (aa5 ?_));refine YX (wpAny_setScan_of ky hu hd c4 c1 ?_)
 cases JP:es.toList.findIdx? (λe=>(abd P w).is k e.2) with
 |some j =>
  dsimp only;obtain⟨hj,pj,_⟩:=List.findIdx?_eq_some_iff_getElem.mp JP;have Sk:S k=true:=(c2 k).mpr ⟨es.toList[j],acg hj,pj⟩;have q:=h s.heap (Heap.SameBut.refl a s.heap) ⟨u,es,ep,t,hu,hx,hd,c1,λj'=>by
   rw[aa9,decide_eq_true_eq,<- c2 j'];exact⟨λz=>z.elim id λe=>by rw[e];exact Sk,aap⟩,c3,c4,by rw[Sk];exact hn,c5⟩
  rw[Sk] at q;exact YZ (YZ q)
 |none =>
  dsimp only;have Sk:S k=false:=by
   rw[<- ach,c2 k];rintro ⟨e,he,pe⟩;have z:=List.findIdx?_eq_none_iff.mp JP e he;rw[pe] at z;cases z
  have way:∀(b:Bool) {s1:Y4} {Q1:Unit->Y4->Prop},Q1 () s1->wpAny (model P w) A (match b with|true=>rule "set.scan.the-table-gave-way"|false=>pure ()) Q1 E s1 :=
   λb s1 Q1 q=>by cases b<;>first|exact YZ q|exact aa5 q
  have pm:=layNew_perm t es ((abd P w).hash k) (.int k tk);have ft:=layNew_fits t es ((abd P w).hash k) (.int k tk);have tb:=Ml c5 es ((abd P w).hash k) (.int k tk);generalize layNew t es ((abd P w).hash k) (.int k tk)=L at pm ft tb |-;obtain⟨fV,t1,Yt,Yy⟩:=L;dsimp only at pm ft tb |-;rw[acR] at pm;have d1:ElemsOf (abd P w) fV.toList:=(c1.push ky sc).perm pm;have d2:∀j,(S j||decide (j=k))=true↔∃e∈fV.toList,(abd P w).is j e.2=true:=mem_push_iff ky c2 pm;have z1:fV.size=n+1:=by
   have l:=pm.length_eq;rw[Zx,ZH,ZH,hn] at l;exact l
  have d3:fV.size<abJ:=by omega
  refine YX (way _ ?_);obtain⟨g1,T1⟩:=zc (S:=λj=>S j||decide (j=k)) hu hx hd d1 d2 d3 ft tb;have xw:=aaa s.heap a (Obj.putSet fV t1)
  have fin:∀h',aaz a s.heap h'->fH P w led h' a (λj=>S j||decide (j=k)) fV.size->Q true { s with heap:=h' }:=λh' sb T=>by
   have q:=h h' sb;rw[Sk] at q;rw[z1] at T;exact q T
  have jx:=relayAll_perm t1 fV (acY fV.size);have j7:=relayAll_fits t1 fV (acY fV.size);have qI:=Nm tb fV (acY fV.size);have hv:hashByValue 8 (adj k tk)=pure true:=rfl;split
  ·refine YX ?_
   rw[hv];refine YZ ?_;simp only[if_true];refine YX (acS hu hd ?_ (abX d3));split
   ·generalize relayAll t1 fV (acY fV.size)=L2 at jx j7 qI |-
    obtain⟨tK,t2,Uq⟩:=L2;dsimp only at jx j7 qI |-;have z2:tK.size=fV.size:=by
     have l:=jx.length_eq;rwa [ZH,ZH] at l
    have f2:∀j,(S j||decide (j=k))=true↔∃e∈tK.toList,(abd P w).is j e.2=true:=λj=>(d2 j).trans ⟨λ⟨e,he,q⟩=>⟨e,jx.mem_iff.mpr he,q⟩,λ⟨e,he,q⟩=>⟨e,jx.mem_iff.mp he,q⟩⟩;refine YX (way _ ?_);refine YX (acS g1 rfl ?_ (abX (by rw[z2];exact d3)));obtain⟨g2,T2⟩:=zc (S:=λj=>S j||decide (j=k)) (led:=led) g1 hx rfl (d1.perm jx) f2 (by rw[z2];exact d3) j7 qI;rw[z2] at T2;exact YZ (YZ (fin _ (xw.trans (aaa _ a _)) T2))
   ·exact YZ (YZ (fin _ xw T1))
  ·refine YX (YZ ?_)
   simp only[if_true];refine YX (acS hu hd ?_ (abX d3));split
   ·generalize relayAll t1 fV (acY fV.size)=L2 at jx j7 qI |-
    obtain⟨tK,t2,Uq⟩:=L2;dsimp only at jx j7 qI |-;have z2:tK.size=fV.size:=by
     have l:=jx.length_eq;rwa [ZH,ZH] at l
    have f2:∀j,(S j||decide (j=k))=true↔∃e∈tK.toList,(abd P w).is j e.2=true:=λj=>(d2 j).trans ⟨λ⟨e,he,q⟩=>⟨e,jx.mem_iff.mpr he,q⟩,λ⟨e,he,q⟩=>⟨e,jx.mem_iff.mp he,q⟩⟩;refine YX (way _ ?_);refine YX (acS g1 rfl ?_ (abX (by rw[z2];exact d3)));obtain⟨g2,T2⟩:=zc (S:=λj=>S j||decide (j=k)) (led:=led) g1 hx rfl (d1.perm jx) f2 (by rw[z2];exact d3) j7 qI;rw[z2] at T2;exact YZ (YZ (fin _ (xw.trans (aaa _ a _)) T2))
   ·exact YZ (YZ (fin _ xw T1))
end
end TS
namespace TS
open PySem PySem.Spec PyProof.Rows
theorem KL:entryFor table "set.__iter__"=some aaY.«frozenset.__iter__»:=entryFor_alias (id':="frozenset.__iter__") (by kernel_rfl) rfl (by decide +kernel) (by kernel_rfl)
theorem jB:Slot "set_iterator" "__next__" "set_iterator.__next__" :=
 .of (owner:="set_iterator") (n:="__next__") (by rw[typeLookup_type,ac3];kernel_rfl) (by decide +kernel) (by decide +kernel) (by decide +kernel)
  (by first|exact .inl (by decide +kernel)|exact .inr (by decide +kernel)) (by rw[isSubtype_type];kernel_rfl)
theorem uw:entryFor table "set_iterator.__next__"=some aaY.«set_iterator.__next__»:=entryFor_of_tree (by kernel_rfl)
theorem uA (a:Value):argsOk "set_iterator.__next__" ⟨[a],[]⟩:=by unfold argsOk;kernel_rfl
theorem DJ:Slot "set_iterator" "__iter__" "set_iterator.__iter__" :=
 .of (owner:="set_iterator") (n:="__iter__") (by rw[typeLookup_type,ac3];kernel_rfl) (by decide +kernel) (by decide +kernel) (by decide +kernel)
  (by first|exact .inl (by decide +kernel)|exact .inr (by decide +kernel)) (by rw[isSubtype_type];kernel_rfl)
def iQ (h:Heap) (I a:Addr) (first:Value) (i n ep:Nat):Prop:=∃o,h.get? I=some o/\o.cls=.type "set_iterator"/\o.data=.fields #[first,.int i 0,.ref a,.int n 0,.int ep 0]
section
variable {P:ZE} {w:World} {A:ZX} {E:Value->Y4->Prop} {s:Y4}
theorem Gh {slot i n ep nx:Nat} {es:Array (Int×Value)} {Q:Option Value->Y4->Prop} (hit:iQ s.heap I a (.int slot 0) i n ep)
 (hu:s.heap.get? a=some u) (hd:u.data=.set es ep t) (hf:t.fits es.size=true) (hn:es.size=n)
 (hs:∀(A':ZX) (Q':Option (Value×Nat)->Y4->Prop) (E':Value->Y4->Prop),Q' (some (x,nx)) s->wpAny (model P w) A' (setNext a slot i ep) Q' E' s)
 (hQ:∀h',iQ h' I a (.int nx 0) (i+1) n ep->aaz I s.heap h'->Q (some x) { s with heap:=h' }):wpAny (model P w) A (abr (.ref I)) Q E s:=by
 obtain⟨o,ho,hc,eJ⟩:=id hit;have hT:s.TypeIs (.ref I) "set_iterator":=⟨o,ho,hc⟩;unfold abr;refine YX (aa2 (ZC (name:=ZJ "__next__") hT jB
  (ZI jB hT uw ?_ (uA _))))
 unfold aaY.«set_iterator.__next__» slotArgs;simp only[aci,Zr,Y2,↓reduceIte,bind_assoc,ZY,bne_self_eq_false];refine YX (YZ ?_);refine YX (acb ho eJ ?_);dsimp only;refine YX (abE hu hd hf ?_);rw[hn];simp only[bne_self_eq_false,Y2,↓reduceIte,ZD];refine YX (hs _ _ _ ?_);dsimp only;refine YX (aa4 ho eJ (by simp) ?_);refine YX (aa4 (aah _ ho (aaF (ZZ eJ _))) (ZZ eJ _) (by simp) ?_);refine YZ ⟨x,rfl,YZ (hQ _ ⟨_,aah _ (aah _ ho (aaF (ZZ eJ _))) (aaF (ZZ (ZZ eJ _) _)),(abW ..).trans ((abW ..).trans hc),?_⟩ ((aaa ..).trans (aaa ..)))⟩;rw[ZZ (ZZ eJ _)];simp[aaH]
theorem Mm (hm:m≠0) (h:Q (w.draws src (s.drawn.get src) % m) { s with drawn:=s.drawn.bump src }):wpAny (model P w) A (choose src m) Q E s:=fun Γ p YJ=>by
 unfold choose;rw[Sem.wp_choose];exact⟨hm,h⟩
theorem ET (hh:A.handled=none) (ho:s.heap.get? I=some o) (eJ:o.data=.fields vs) (h2:2<vs.size)
 (hQ:∀h',acp I s.heap h'->Q none { s with heap:=h' }) :
  wpAny (model P w) A.in1 (setField (.ref I) 2 .none >>= λ_=>newExc (.type "StopIteration") [] >>= λe=>(raiseNew e:Sem Fin)) (λfin s'=>∃v,fin=Fin.done (Flow.ret v)/\wpAny (model P w) A (pure (some v)) Q E s')
   (λe s'=>wpAny (model P w) A (isInstance e (aaV "StopIteration") >>= λb=>if b=true then pure none else throw e) Q E s') s:=by
 refine YX (aa4 ho eJ h2 ?_);refine YX ?_;simp only[newExc,newTuple];refine YX (Zt ?_ (by size_fits))
 refine YX (m:=ab9 _ _) (abD (a:=Value.none) (by first|rfl | (simp only[ab9];rfl)) ?_)
 refine Zt ?_ (by size_fits);simp only[raiseNew];refine YX (wpAny_handled ?_)
 first|rw[show A.in1.handled=none from hh]|rw[hh]
 refine YX (YZ (wpAny_throw ?_));refine YX (abI (T:="StopIteration") (b:=true) ⟨_,Y6 _ rfl,rfl⟩ isSubtype_stop ?_);exact YZ (hQ _ (((aaa ..).extBut.push _).push _))
theorem Hf {slot i n ep:Nat} {es:Array (Int×Value)} {Q:Option Value->Y4->Prop} (hh:A.handled=none) (hit:iQ s.heap I a (.int slot 0) i n ep)
 (hu:s.heap.get? a=some u) (hd:u.data=.set es ep t) (hf:t.fits es.size=true) (hn:es.size=n)
 (hs:∀(A':ZX) (Q':Option (Value×Nat)->Y4->Prop) (E':Value->Y4->Prop),Q' none s->wpAny (model P w) A' (setNext a slot i ep) Q' E' s)
 (hQ:∀h',acp I s.heap h'->Q none { s with heap:=h' }):wpAny (model P w) A (abr (.ref I)) Q E s:=by
 obtain⟨o,ho,hc,eJ⟩:=id hit;have hT:s.TypeIs (.ref I) "set_iterator":=⟨o,ho,hc⟩;unfold abr;refine YX (aa2 (ZC (name:=ZJ "__next__") hT jB
  (ZI jB hT uw ?_ (uA _))))
 unfold aaY.«set_iterator.__next__» slotArgs;simp only[aci,Zr,Y2,↓reduceIte,bind_assoc,ZY,bne_self_eq_false];refine YX (YZ ?_);refine YX (acb ho eJ ?_);dsimp only;refine YX (abE hu hd hf ?_);rw[hn];simp only[bne_self_eq_false,Y2,↓reduceIte,ZD];refine YX (hs _ _ _ ?_);dsimp only;exact ET hh ho eJ (by simp) hQ
theorem OJ {i n ep pl:Nat} {es:Array (Int×Value)} {x:Int×Value} {Q:Option Value->Y4->Prop} (hit:iQ s.heap I a (.ref tp) i n ep)
 (hu:s.heap.get? a=some u) (hd:u.data=.set es ep t) (hf:t.fits es.size=true) (hn:es.size=n) (BD:s.heap.IsTuple tp places) (cZ:places[i]?=some (.int pl tk)) (hx:es[pl]?=some x)
 (hQ:∀h',iQ h' I a (.ref tp) (i+1) n ep->aaz I s.heap h'->Q (some x.2) { s with heap:=h' }):wpAny (model P w) A (abr (.ref I)) Q E s:=by
 obtain⟨o,ho,hc,eJ⟩:=id hit;obtain⟨op,BE,Wj,np,tG⟩:=BD;have hT:s.TypeIs (.ref I) "set_iterator":=⟨o,ho,hc⟩;unfold abr;refine YX (aa2 (ZC (name:=ZJ "__next__") hT jB
  (ZI jB hT uw ?_ (uA _))))
 unfold aaY.«set_iterator.__next__» slotArgs;simp only[aci,Zr,Y2,↓reduceIte,bind_assoc,ZY,bne_self_eq_false];refine YX (YZ ?_);refine YX (acb ho eJ ?_);dsimp only;refine YX (abE hu hd hf ?_);rw[hn];simp only[bne_self_eq_false,Y2,↓reduceIte,ZD];refine YX (aaC BE tG ?_);dsimp only;rw[cZ];dsimp only;unfold setNextDrawn;refine YX (YX (abx hu hd hf ?_));dsimp only;simp only[bne_self_eq_false,Y2,↓reduceIte,ZD];rw[hx];dsimp only;refine YZ ?_;refine YX (aa4 ho eJ (by simp) ?_);refine YZ ⟨x.2,rfl,YZ (hQ _ ⟨_,aah _ ho (aaF (ZZ eJ _)),(abW ..).trans hc,?_⟩ (aaa ..))⟩;rw[ZZ eJ];simp[aaH]
theorem Qr (hh:A.handled=none) (hit:iQ s.heap I a (.ref tp) i n ep)
 (hu:s.heap.get? a=some u) (hd:u.data=.set es ep t) (hf:t.fits es.size=true) (hn:es.size=n) (BD:s.heap.IsTuple tp places) (cZ:places[i]?=none)
 (hQ:∀h',acp I s.heap h'->Q none { s with heap:=h' }):wpAny (model P w) A (abr (.ref I)) Q E s:=by
 obtain⟨o,ho,hc,eJ⟩:=id hit;obtain⟨op,BE,Wj,np,tG⟩:=BD;have hT:s.TypeIs (.ref I) "set_iterator":=⟨o,ho,hc⟩;unfold abr;refine YX (aa2 (ZC (name:=ZJ "__next__") hT jB
  (ZI jB hT uw ?_ (uA _))))
 unfold aaY.«set_iterator.__next__» slotArgs;simp only[aci,Zr,Y2,↓reduceIte,bind_assoc,ZY,bne_self_eq_false];refine YX (YZ ?_);refine YX (acb ho eJ ?_);dsimp only;refine YX (abE hu hd hf ?_);rw[hn];simp only[bne_self_eq_false,Y2,↓reduceIte,ZD];refine YX (aaC BE tG ?_);dsimp only;rw[cZ];dsimp only;refine YX (aa4 ho eJ (by simp) ?_)
 exact ET (s:={ s with heap:=_ }) hh (aah _ ho (aaF (ZZ eJ _))) (ZZ eJ _) (by simp) λh' e=>hQ h' (Heap.ExtBut.trans (aaa ..).extBut e)
end
end TS
namespace TS
open PySem PySem.Spec PyProof.Rows
theorem KW:entryFor table "set_iterator.__iter__"=some aaY.«dict_keyiterator.__iter__»:=entryFor_alias (id':="dict_keyiterator.__iter__") (by kernel_rfl) rfl (by decide +kernel) (by kernel_rfl)
theorem K9 (a:Value):argsOk "set_iterator.__iter__" ⟨[a],[]⟩:=by unfold argsOk;kernel_rfl
section
variable {P:ZE} {w:World} {A:ZX} {E:Value->Y4->Prop} {s:Y4}
theorem zd (hit:iQ s.heap I a f i n ep) (h:Q (.ref I) s):wpAny (model P w) A (pyIter (.ref I)) Q E s:=by
 obtain⟨o,ho,hc,eJ⟩:=id hit;have hT:s.TypeIs (.ref I) "set_iterator":=⟨o,ho,hc⟩;refine wpAny_pyIter_slot hT DJ (ZI DJ hT KW ?_ (K9 _));show wpAny _ _ (ret (.ref I)) _ _ s;exact YZ ⟨_,rfl,"set_iterator",_,hT,jB.lookup,h⟩
theorem iQ.at (x:iQ h I a f i n ep) (k:∀o,h.get? I=some o->h'.get? I=some o):iQ h' I a f i n ep:=by
 obtain⟨o,ho,r⟩:=x;exact⟨o,k o ho,r⟩
theorem EU (ib:w.params.followText "set-order"=true) (hu:s.heap.get? a=some u) (hd:u.data=.set es ep t) (hf:t.fits es.size=true)
 (h:Q' (((abK (w.params.setOrder a ep) es)[i]?).map λe=>(e.2,slot)) s):wpAny (model P w) A (setNext a slot i ep) Q' E s:=by
 unfold setNext;refine YX (abx hu hd hf ?_);dsimp only;unfold setsByText;refine YX (YX (abi (YZ ?_)))
 show wpAny _ _ (if w.params.followText "set-order"=true then _ else _) _ _ _
 rw[if_pos ib];simp only[bne_self_eq_false,Y2,↓reduceIte];unfold setWalk;refine YX (YX (abx hu hd hf ?_));dsimp only;unfold setsByText;refine YX (YX (abi (YZ ?_)))
 show wpAny _ _ (if w.params.followText "set-order"=true then _ else _) _ _ _
 rw[if_pos ib];refine YX (abi (YZ ?_));exact YZ h
theorem pN (hr:jP xs.toList) (hi:i<=xs.toList.length) (h1:∀k,k<i->xs.toList.getD k 0<slot) (h2:∀k,i<=k->k<xs.toList.length->slot<=xs.toList.getD k 0):Z6 xs slot=i:=by
 obtain⟨a0,a1,a2⟩:=Em xs slot hr;by_cases bC:Z6 xs slot<i
 ·have b1:=a2 _ (Nat.le_refl _) (by omega)
  have b2:=h1 _ bC;omega
 ·by_cases Wk:i<Z6 xs slot
  ·have b1:=a1 i Wk
   have b2:=h2 i (Nat.le_refl _) (by omega);omega
  ·omega
theorem En (ib:w.params.followText "set-order"=false) (hu:s.heap.get? a=some u) (hd:u.data=.set es ep t) (hf:t.fits es.size=true)
 (hl:t.led=true) (hp:t.plain=true\/es.size<=1) (hb:Z6 t.place slot=i)
 (h:Q' (match es[i]?,t.place[i]? with|some (_,x),some j=>some (x,j+1) | _,_=>none) s):wpAny (model P w) A (setNext a slot i ep) Q' E s:=by
 unfold setNext;refine YX (abx hu hd hf ?_);dsimp only;unfold setsByText;refine YX (YX (abi (YZ ?_)))
 show wpAny _ _ (if w.params.followText "set-order"=true then _ else _) _ _ _
 rw[if_neg (by rw[ib];decide)];split
 ·rename_i Wl
  have A2:(!t.plain&&decide (es.size > 1))=true:=Wl
  rcases hp with hp|hp
  ·rw[hp] at A2;cases A2
  ·simp at A2;omega
 ·refine YX ?_
  show wpAny _ _ (if (!t.led&&!es.isEmpty)=true then _ else _) _ _ _
  rw[hl];simp only[Zr,ab6,Y2,↓reduceIte];refine YZ ?_;rw[hb];exact YZ h
theorem yi (sb:aaz I s.heap h'):Moved [I] (λa b=>b=a) s { s with heap:=h' }:=⟨λb o hb e=>by rw[sb.2 b (λz=>hb (by simp[z]))];exact e,rfl,rfl,rfl,Nat.le_refl _⟩
theorem yp (sb:acp I s.heap h'):Moved [I] (λa b=>b=a) s { s with heap:=h' }:=⟨λb o hb e=>sb b o (λz=>hb (by simp[z])) e,rfl,rfl,rfl,Nat.le_refl _⟩
end
theorem Mn (hh:A.handled=none) (dN:a≠I) (ib:w.params.followText "set-order"=true) (hd:u.data=.set es ep t) (hf:t.fits es.size=true) (hsz:(abK (w.params.setOrder a ep) es).size=es.size) :
  WalksS P w A I [I,a] [I] (λa b=>b=a) es.size (λi v=>((abK (w.params.setOrder a ep) es).map (·.2))[i]?=some v) (λi s=>iQ s.heap I a (.int 0 0) i es.size ep/\s.heap.get? a=some u) where
 sub:=λb hb=>by simp at hb;simp[hb]
 grefl:=λ_=>rfl
 gtrans:=λ_ _ _ h1 h2=>h2.trans h1
 frame:=λi s h' tk st _ hk=>⟨st.1.at λo e=>hk I (by simp) o e,hk a (by simp) _ st.2⟩
 item:=λi s Q E hi st hQ=>by
  have hx:i<(abK (w.params.setOrder a ep) es).size:=by rw[hsz];exact hi
  have ex:(abK (w.params.setOrder a ep) es)[i]?=some (abK (w.params.setOrder a ep) es)[i]:=by simp[hx]
  refine Gh (nx:=0) (x:=(abK (w.params.setOrder a ep) es)[i].2) (slot:=0) st.1 st.2 hd hf rfl (λA' Q' E' q=>EU ib st.2 hd hf (by rw[ex];exact q)) λh' it sb=>?_;exact hQ _ _ (by simp[ex]) ⟨it,by rw[sb.2 a dN];exact st.2⟩ (yi sb)
 done:=λs Q E st hQ=>by
  refine Hf (slot:=0) hh st.1 st.2 hd hf rfl (λA' Q' E' q=>EU ib st.2 hd hf (by
   rw[show (abK (w.params.setOrder a ep) es)[es.size]?=none by simp[hsz]];exact q)) λh' sb=>hQ _ (yp sb)
 self:=λi s Q E st hQ=>zd st.1 hQ
theorem LJ (hh:A.handled=none) (dN:a≠I) (ib:w.params.followText "set-order"=false) (hd:u.data=.set es ep t) (hf:t.fits es.size=true) (hl:t.led=true) (hp:t.plain=true\/es.size<=1) (hr:jP t.place.toList) :
  WalksS P w A I [I,a] [I] (λa b=>b=a) es.size (λi v=>(es.map (·.2))[i]?=some v) (λi s=>∃slot:Nat,iQ s.heap I a (.int slot 0) i es.size ep/\s.heap.get? a=some u/\i<=es.size/\(∀k,k<i->t.place.toList.getD k 0<slot)/\∀k,i<=k->k<t.place.toList.length->slot<=t.place.toList.getD k 0) where
 sub:=λb hb=>by simp at hb;simp[hb]
 grefl:=λ_=>rfl
 gtrans:=λ_ _ _ h1 h2=>h2.trans h1
 frame:=λi s h' tk st _ hk=>by
  obtain⟨slot,x1,x2,x3⟩:=st;exact⟨slot,x1.at λo e=>hk I (by simp) o e,hk a (by simp) _ x2,x3⟩
 item:=λi s Q E hi st hQ=>by
  obtain⟨slot,x1,x2,x3,x4,x5⟩:=st;have cZ:t.place.toList.length=es.size:=by
   simp only[SetTable.fits,Y3,beq_iff_eq,decide_eq_true_eq] at hf;simpa using hf.1
  have qJ:i<t.place.toList.length:=by omega
  have e1:es[i]?=some es[i]:=by simp[hi]
  have e2:t.place[i]?=some (t.place.toList.getD i 0):=by
   rw[<- aao,Y8 qJ];simp[abw,Y8 qJ]
  refine Gh (nx:=t.place.toList.getD i 0+1) (x:=es[i].2) (slot:=slot) x1 x2 hd hf rfl (λA' Q' E' q=>En ib x2 hd hf hl hp (pN hr (by omega) x4 x5) (by rw[e1,e2];exact q)) λh' it sb=>?_;refine hQ _ _ (by simp[e1]) ⟨_,it,by rw[sb.2 a dN];exact x2,hi,λk hk=>?_,λk hk nk=>?_⟩ (yi sb)
  ·by_cases Wm:k=i
   ·rw[Wm];omega
   ·have:=vz hr (show k<i by omega) qJ
    omega
  ·have:=vz hr (show i<k by omega) nk
   omega
 done:=λs Q E st hQ=>by
  obtain⟨slot,x1,x2,x3,x4,x5⟩:=st;have cZ:t.place.toList.length=es.size:=by
   simp only[SetTable.fits,Y3,beq_iff_eq,decide_eq_true_eq] at hf;simpa using hf.1
  refine Hf (slot:=slot) hh x1 x2 hd hf rfl (λA' Q' E' q=>En ib x2 hd hf hl hp (pN hr (by omega) x4 x5) (by
   rw[show es[es.size]?=none by simp];exact q)) λh' sb=>hQ _ (yp sb)
 self:=λi s Q E st hQ=>by
  obtain⟨slot,x1,_⟩:=st;exact zd x1 hQ
theorem LK (hh:A.handled=none) (dN:a≠I) (Wn:tp≠I) (hd:u.data=.set es ep t) (hf:t.fits es.size=true) (pl:List Nat) (cZ:pl.length=es.size) (i5:∀x∈pl,x<es.size) :
  WalksS P w A I [I,a,tp] [I] (λa b=>b=a) es.size (λi v=>(pl.map λk=>(es.getD k (0,Value.none)).2)[i]?=some v) (λi s=>iQ s.heap I a (.ref tp) i es.size ep/\s.heap.get? a=some u/\s.heap.IsTuple tp (pl.map λ(k:Nat)=>aaH k).toArray) where
 sub:=λb hb=>by simp at hb;simp[hb]
 grefl:=λ_=>rfl
 gtrans:=λ_ _ _ h1 h2=>h2.trans h1
 frame:=λi s h' tk st _ hk=>⟨st.1.at λo e=>hk I (by simp) o e,hk a (by simp) _ st.2.1,let ⟨o,ho,r⟩:=st.2.2;⟨o,hk tp (by simp) o ho,r⟩⟩
 item:=λi s Q E hi st hQ=>by
  have qJ:i<pl.length:=by omega
  have e1:pl[i]?=some pl[i]:=Y8 qJ;have hk:=i5 _ (acg qJ);refine OJ (pl:=pl[i]) (x:=es.getD pl[i] (0,Value.none)) (tk:=0) st.1 st.2.1 hd hf rfl st.2.2 (by simp[e1,aaH]) (by simp[hk,acO]) λh' it sb=>?_
  refine hQ _ _ (by simp[e1]) ⟨it,by rw[sb.2 a dN];exact st.2.1,let ⟨o,ho,r⟩:=st.2.2;⟨o,by rw[sb.2 tp Wn];exact ho,r⟩⟩ (yi sb)
 done:=λs Q E st hQ=>Qr hh st.1 st.2.1 hd hf rfl st.2.2 (by simp[cZ]) λh' sb=>hQ _ (yp sb)
 self:=λi s Q E st hQ=>zd st.1 hQ
end TS
namespace TS
open PySem PySem.Spec PyProof.Rows
noncomputable def ck (w:World):Bool:=!(w.params.followText "set-order")
section
variable {P:ZE} {w:World} {A:ZX} {E:Value->Y4->Prop} {s:Y4}
theorem Fp (a:Value)
 (hq:Q₁ (.ref s.heap.objs.size) { s with heap:=s.heap.push { cls:=.type "set",dict:=none,data:=.set #[] 0 (.fresh 0 0 (ck w)) } }) :
  adk (model P w) A (.call (.builtin "set.__new__") ⟨[.type "set",a],[]⟩) (wants Q₁ E) s:=by
 refine acA ?_;show wpAny _ A.in1 (checkBuiltinCall "set.__new__" ⟨[.type "set",a],[]⟩ >>= λ_=>again (.builtin "set.__new__" ⟨[.type "set",a],[]⟩)) _ _ s;refine YX ?_;refine abD (F.newCall_set_1 a) ?_;refine YZ ⟨plainId_quiet F.plain_set_new _,aba F.entry_set_new ?_⟩;rw[abq F.plain_set_new _];unfold aaY.«set.__new__» Builtin.Frozenset.newClass;have ss:=sub_set_self;obtain⟨h1,h2,h3,h4,h5⟩:=s;dsimp only
 wp_walk
 refine abi (YZ ?_);dsimp only;simp only[newObj];refine YX (wpAny_alloc ?_);exact YZ (YZ hq)
end
section
variable {P:ZE} {w:World} {A:ZX} {R:Result->Y4->Prop} {I:Addr} {fp wr:List Addr} {G:Array GenState->Array GenState->Prop} {n:Nat} {Pv:Nat->Value->Prop} {St:Nat->Y4->Prop} {led:Bool}
theorem Fq (W:WalksS P w A.in1 I fp wr G n Pv St) (S:Addr) (tL:S∉fp)
  (val:Nat->Int) (VA:∀i v,Pv i v->∃t,v=.int (val i) t) (hb:n+1<abJ) :
  ∀(k i:Nat) (s:Y4),n-i=k->i<=n->St i s ->
   fH P w led s.heap S (λj=>(abb val i).any (·==j)) (abb val i).length ->
   (∀s',Moved (S::wr) G s s'->fH P w led s'.heap S (λj=>(abb val n).any (·==j)) (abb val n).length->R (.ok (.ret .none)) s') ->
   adk (model P w) A (.builtin "set.update.loop" ⟨[.ref S,.ref I],[]⟩) R s:=by
 have nw:S∉wr:=λz=>tL (W.sub _ z);have sw:∀b∈wr,b∈S::wr:=λb z=>Zd _ z;intro k
 induction k with
 |zero =>
  intro i s hk hi st T hR;obtain rfl:i=n:=by omega
  refine aba F.entry_set_update_loop ?_;rw[abq acB _];show wpAny _ A.in1 (abr (.ref I) >>= _) _ _ s;refine YX (W.done s _ _ st λs' m=>?_);show wpAny _ A.in1 (ret Value.none) _ _ s';exact YZ (hR s' (m.mono sw) (T.at λo e=>m.heap S o nw e))
 |succ k ih =>
  intro i s hk hi st T hR;have lt:i<n:=by omega
  refine aba F.entry_set_update_loop ?_;rw[abq acB _];show wpAny _ A.in1 (abr (.ref I) >>= _) _ _ s;refine YX (W.item i s _ _ lt st λv s' pv dq m=>?_);obtain⟨t,rfl⟩:=VA i v pv;have T':=T.at (h':=s'.heap) λo e=>m.heap S o nw e;show wpAny _ A.in1 (abz [adj (val i) t] (setAdd S (.int (val i) t)) >>= _) _ _ s';refine YX (aat ?_);unfold setAdd;refine aat ?_;refine YX ((abd P w).pyHash (k:=val i) (intKind_is _ _ _ _) ?_);have room:(abb val i).length+1<abJ:=by have:=firstMet_length_le val i;omega
  refine Qq (s:={ s' with toks:=s'.toks+1 }) T' room λh' sb T2=>?_
  have T3:fH P w led h' S (λj=>(abb val (i+1)).any (·==j)) (abb val (i+1)).length:=T2.congr (λj=>by rw[firstMet_succ,step_any]) (by rw[firstMet_succ,step_length]);refine YZ ⟨plainId_quiet acB _,ih (i+1) _ (by omega) lt (W.frame _ s' _ _ dq (acq _) λb fu o e=>?_) T3 λsZ Wo Wq=>?_⟩
  ·rw[sb.2 b λz:b=S=>tL (z ▸ fu)];exact e
  ·refine hR sZ (Moved.trans W.gtrans ((m.mono sw).then_heap (acq _) λb o fu e=>?_) Wo) Wq
   rw[sb.2 b λz:b=S=>fu (by rw[z];exact Zb)];exact e
end
section
variable {P:ZE} {w:World} {A:ZX} {E:Value->Y4->Prop} {s:Y4}
theorem Mo   
 (hh:A.handled=none) (hl:s.heap.IsTuple l its) (hi:acz its.toList ns) (hb:its.size+1<abJ)
 (h:∀(h':Heap) (tk:Nat),fH P w (ck w) h' s.heap.objs.size (λk'=>(abb (λi=>ns.getD i 0) its.size).any (·==k')) (abb (λi=>ns.getD i 0) its.size).length ->
 (∀b o,b<s.heap.objs.size->s.heap.get? b=some o->h'.get? b=some o)->Q (.ref s.heap.objs.size) { s with heap:=h',toks:=tk }) :
  wpAny (model P w) A (call (.type "set") [.ref l]) Q E s:=by
 obtain⟨c,tl,ur⟩:=aav.mro;have um:=aav.made;have ub:=aav.sub;refine wpAny_call (acA ?_);show wpAny _ _ (callAny (.type "set") _) _ _ _;refine YZ ⟨Code.quiet_builtin _ (by decide +kernel),aba F.entry_type_call ?_⟩;rw[ads (ac4 "set" [.ref l] []) rfl];have h1:=aav.notType;have h2:=aav.canCreate;have Wr:=F.typeCall_set_1 (.ref l)
 repeat (any_goals (first|assumption|wp_step))
 refine aa3 (Fp (.ref l) (E:=E) (Q₁:=λobj bA=>obj=.ref s.heap.objs.size/\bA={ s with heap:=s.heap.push { cls:=.type "set",dict:=none,data:=.set #[] 0 (.fresh 0 0 (ck w)) } }) ⟨rfl,rfl⟩) λr bA hr=>?_
 cases r with
 |error e=>exact hr
 |ok fl =>
  cases fl with
  |ret obj =>
   obtain⟨rfl,rfl⟩:=hr;have v:(s.heap.push { cls:=.type "set",dict:=none,data:=.set #[] 0 (.fresh 0 0 (ck w)) }).get? s.heap.objs.size=some { cls:=.type "set",dict:=none,data:=.set #[] 0 (.fresh 0 0 (ck w)) }:=Y6 _ rfl
   have vT:adA { s with heap:=s.heap.push { cls:=.type "set",dict:=none,data:=.set #[] 0 (.fresh 0 0 (ck w)) } } (.ref s.heap.objs.size) "set":=⟨_,v,rfl⟩
   have vl:=aav.init.lookup;have vb:=aav.init.bind (.ref s.heap.objs.size)
   repeat (any_goals (first|assumption|wp_step))
   refine aa3 (ab4 (R:=wants (λr ox=>r=.none/\∃h' tk,ox={ s with heap:=h',toks:=tk } /\
     fH P w (ck w) h' s.heap.objs.size (λk'=>(abb (λi=>ns.getD i 0) its.size).any (·==k')) (abb (λi=>ns.getD i 0) its.size).length /\
     (∀b o,b<s.heap.objs.size->s.heap.get? b=some o->h'.get? b=some o)) E) aav.init.plain F.entry_set_init (check_set_init_1 vT ?_)) λA3 ox vr=>?_
   ·obtain⟨ol,uo,uc,nn,ud⟩:=hl
    obtain⟨oc,od,oa,BF⟩:=ol;simp only at uc ud;subst uc;subst ud;have BG:(s.heap.push { cls:=.type "set",dict:=none,data:=.set #[] 0 (.fresh 0 0 (ck w)) }).get? l=some { cls:=.type "tuple",dict:=od,data:=.seq its nn,slots:=BF }:=YY _ uo;have u1:=F.sub_tuple_set;have u2:=F.sub_tuple_frozenset;have dN:(aaV "tuple"==aaV "dict")=false:=by decide
    have ul:(s.heap.push { cls:=.type "set",dict:=none,data:=.set #[] 0 (.fresh 0 0 (ck w)) }).IsTuple l its:=⟨_,BG,rfl,nn,rfl⟩;unfold aaY.«set.__init__» noKeywords adg;generalize vP:pyIter=PI
    wp_walk
    subst vP;refine aaW ul ?_;refine YX (wpAny_runValue ?_);have uS:l<s.heap.objs.size:=Y9 uo;have v3:A.in1.in1.in1.handled=none:=by simp[hh]
    have uI:l≠(s.heap.push { cls:=.type "set",dict:=none,data:=.set #[] 0 (.fresh 0 0 (ck w)) }).objs.size:=by
     rw[ZP];exact Zn (aae uS)
    have uf:s.heap.objs.size∉[(s.heap.push { cls:=.type "set",dict:=none,data:=.set #[] 0 (.fresh 0 0 (ck w)) }).objs.size,l]:=by
     rw[ZP];simp only[Zh,Zs,Z5,or_false,not_or];exact⟨Zn (aaZ _),aan uS⟩
    have uv:∀(i:Nat) (v:Value),its[i]?=some v->∃t,v=.int ((λi=>ns.getD i 0) i) t:=λi v hv =>
     IntsAre.int_at hi i v (by rw[aao];exact hv)
    refine Fq (led:=ck w) ((Walks.tuple v3 _ l uI its).toS) s.heap.objs.size
     uf (λi=>ns.getD i 0) uv hb (its.size-0) 0 _ (by omega) (aad _)
     ⟨⟨_,Y6 _ rfl,rfl,rfl⟩,(ul.push _)⟩ ?v0 ?vR
    case v0 =>
     have vg:((s.heap.push { cls:=.type "set",dict:=none,data:=.set #[] 0 (.fresh 0 0 (ck w)) }).push { cls:=.type "tuple_iterator",data:=.fields #[.ref l,.int 0 0] }).get? s.heap.objs.size
       = some { cls:=.type "set",dict:=none,data:=.set #[] 0 (.fresh 0 0 (ck w)) }:=YY _ v
     exact⟨_,#[],0,_,vg,⟨rfl,rfl,rfl⟩,rfl,λe he=>by simp at he,λk=>by simp[firstMet_zero],by unfold abJ;simp,by rfl,rfl,ES _⟩
    case vR =>
     intro s' hm vS;obtain⟨h',g',d',tq,sY⟩:=s';have eg:g'=s.gens:=hm.gens;have ed:d'=s.drawn:=hm.drawn;have eo:sY=s.os:=hm.os;subst eg;subst ed;subst eo;show wpAny _ _ _ _ _ _;refine YZ ?_;show wpAny _ _ (ret Value.none) _ _ _;refine YZ ⟨rfl,h',tq,rfl,vS,λb o hb e=>?_⟩;have v1:b≠s.heap.objs.size:=Zn hb;have v2:b≠(s.heap.push { cls:=.type "set",dict:=none,data:=.set #[] 0 (.fresh 0 0 (ck w)) }).objs.size:=by
      rw[ZP];exact Zn (aae hb)
     exact hm.heap b o (by simp only[Zh,Zs,Z5,or_false,not_or];exact⟨v1,v2⟩) (YY _ (YY _ e))
   ·cases A3 with
    |error e=>exact vr
    |ok Al =>
     cases Al with
     |ret r =>
      obtain⟨rfl,h',tk,rfl,vS,vk⟩:=vr
      repeat (any_goals (first|assumption|wp_step))
      exact h _ _ vS vk
     |_=>exact vr.elim
  |_=>exact hr.elim
theorem Mp   
 (hh:A.handled=none) (hl:s.heap.IsList l its) (hi:acz its.toList ns) (hb:its.size+1<abJ)
 (h:∀(h':Heap) (tk:Nat),fH P w (ck w) h' s.heap.objs.size (λk'=>(abb (λi=>ns.getD i 0) its.size).any (·==k')) (abb (λi=>ns.getD i 0) its.size).length ->
 (∀b o,b<s.heap.objs.size->s.heap.get? b=some o->h'.get? b=some o)->Q (.ref s.heap.objs.size) { s with heap:=h',toks:=tk }) :
  wpAny (model P w) A (call (.type "set") [.ref l]) Q E s:=by
 obtain⟨c,tl,ur⟩:=aav.mro;have um:=aav.made;have ub:=aav.sub;refine wpAny_call (acA ?_);show wpAny _ _ (callAny (.type "set") _) _ _ _;refine YZ ⟨Code.quiet_builtin _ (by decide +kernel),aba F.entry_type_call ?_⟩;rw[ads (ac4 "set" [.ref l] []) rfl];have h1:=aav.notType;have h2:=aav.canCreate;have Wr:=F.typeCall_set_1 (.ref l)
 repeat (any_goals (first|assumption|wp_step))
 refine aa3 (Fp (.ref l) (E:=E) (Q₁:=λobj bA=>obj=.ref s.heap.objs.size/\bA={ s with heap:=s.heap.push { cls:=.type "set",dict:=none,data:=.set #[] 0 (.fresh 0 0 (ck w)) } }) ⟨rfl,rfl⟩) λr bA hr=>?_
 cases r with
 |error e=>exact hr
 |ok fl =>
  cases fl with
  |ret obj =>
   obtain⟨rfl,rfl⟩:=hr;have v:(s.heap.push { cls:=.type "set",dict:=none,data:=.set #[] 0 (.fresh 0 0 (ck w)) }).get? s.heap.objs.size=some { cls:=.type "set",dict:=none,data:=.set #[] 0 (.fresh 0 0 (ck w)) }:=Y6 _ rfl
   have vT:adA { s with heap:=s.heap.push { cls:=.type "set",dict:=none,data:=.set #[] 0 (.fresh 0 0 (ck w)) } } (.ref s.heap.objs.size) "set":=⟨_,v,rfl⟩
   have vl:=aav.init.lookup;have vb:=aav.init.bind (.ref s.heap.objs.size)
   repeat (any_goals (first|assumption|wp_step))
   refine aa3 (ab4 (R:=wants (λr ox=>r=.none/\∃h' tk,ox={ s with heap:=h',toks:=tk } /\
     fH P w (ck w) h' s.heap.objs.size (λk'=>(abb (λi=>ns.getD i 0) its.size).any (·==k')) (abb (λi=>ns.getD i 0) its.size).length /\
     (∀b o,b<s.heap.objs.size->s.heap.get? b=some o->h'.get? b=some o)) E) aav.init.plain F.entry_set_init (check_set_init_1 vT ?_)) λA3 ox vr=>?_
   ·obtain⟨ol,uo,uc,nn,ud⟩:=hl
    obtain⟨oc,od,oa,BF⟩:=ol;simp only at uc ud;subst uc;subst ud;have BG:(s.heap.push { cls:=.type "set",dict:=none,data:=.set #[] 0 (.fresh 0 0 (ck w)) }).get? l=some { cls:=.type "list",dict:=od,data:=.seq its nn,slots:=BF }:=YY _ uo;have u1:=F.sub_list_set;have u2:=F.sub_list_frozenset;have dN:(aaV "list"==aaV "dict")=false:=by decide
    have ul:(s.heap.push { cls:=.type "set",dict:=none,data:=.set #[] 0 (.fresh 0 0 (ck w)) }).IsList l its:=⟨_,BG,rfl,nn,rfl⟩;unfold aaY.«set.__init__» noKeywords adg;generalize vP:pyIter=PI
    wp_walk
    subst vP;refine acM ul ?_;refine YX (wpAny_runValue ?_);have uS:l<s.heap.objs.size:=Y9 uo;have v3:A.in1.in1.in1.handled=none:=by simp[hh]
    have uI:l≠(s.heap.push { cls:=.type "set",dict:=none,data:=.set #[] 0 (.fresh 0 0 (ck w)) }).objs.size:=by
     rw[ZP];exact Zn (aae uS)
    have uf:s.heap.objs.size∉[(s.heap.push { cls:=.type "set",dict:=none,data:=.set #[] 0 (.fresh 0 0 (ck w)) }).objs.size,l]:=by
     rw[ZP];simp only[Zh,Zs,Z5,or_false,not_or];exact⟨Zn (aaZ _),aan uS⟩
    have uv:∀(i:Nat) (v:Value),its[i]?=some v->∃t,v=.int ((λi=>ns.getD i 0) i) t:=λi v hv =>
     IntsAre.int_at hi i v (by rw[aao];exact hv)
    refine Fq (led:=ck w) ((Walks.list v3 _ l uI its).toS) s.heap.objs.size
     uf (λi=>ns.getD i 0) uv hb (its.size-0) 0 _ (by omega) (aad _)
     ⟨⟨_,Y6 _ rfl,rfl,rfl⟩,(ul.push _)⟩ ?v0 ?vR
    case v0 =>
     have vg:((s.heap.push { cls:=.type "set",dict:=none,data:=.set #[] 0 (.fresh 0 0 (ck w)) }).push { cls:=.type "list_iterator",data:=.fields #[.ref l,.int 0 0] }).get? s.heap.objs.size
       = some { cls:=.type "set",dict:=none,data:=.set #[] 0 (.fresh 0 0 (ck w)) }:=YY _ v
     exact⟨_,#[],0,_,vg,⟨rfl,rfl,rfl⟩,rfl,λe he=>by simp at he,λk=>by simp[firstMet_zero],by unfold abJ;simp,by rfl,rfl,ES _⟩
    case vR =>
     intro s' hm vS;obtain⟨h',g',d',tq,sY⟩:=s';have eg:g'=s.gens:=hm.gens;have ed:d'=s.drawn:=hm.drawn;have eo:sY=s.os:=hm.os;subst eg;subst ed;subst eo;show wpAny _ _ _ _ _ _;refine YZ ?_;show wpAny _ _ (ret Value.none) _ _ _;refine YZ ⟨rfl,h',tq,rfl,vS,λb o hb e=>?_⟩;have v1:b≠s.heap.objs.size:=Zn hb;have v2:b≠(s.heap.push { cls:=.type "set",dict:=none,data:=.set #[] 0 (.fresh 0 0 (ck w)) }).objs.size:=by
      rw[ZP];exact Zn (aae hb)
     exact hm.heap b o (by simp only[Zh,Zs,Z5,or_false,not_or];exact⟨v1,v2⟩) (YY _ (YY _ e))
   ·cases A3 with
    |error e=>exact vr
    |ok Al =>
     cases Al with
     |ret r =>
      obtain⟨rfl,h',tk,rfl,vS,vk⟩:=vr
      repeat (any_goals (first|assumption|wp_step))
      exact h _ _ vS vk
     |_=>exact vr.elim
  |_=>exact hr.elim
end
end TS
namespace TS
open PySem PySem.Spec PyProof.Rows
theorem yj {α:Type}:∀{l:List α} {i:Nat} {x:α},l[i]?=some x->(x::l.eraseIdx i).Perm l
 | [],i,x,h=>by simp at h
 |y::l,0,x,h=>by
  have:y=x:=by simpa using h
  subst this;exact List.Perm.refl _
 |y::l,i+1,x,h=>by
  have ih:=yj (l:=l) (i:=i) (x:=x) (by simpa using h);rw[List.eraseIdx_cons_succ];exact(List.Perm.swap y x _).trans (List.Perm.cons y ih)
theorem Gi {α:Type} (next:Nat->Nat):∀(fuel k:Nat) (left:List α) (out:Array α),left.length=fuel->(pickOrder.go next fuel k left out).toList.Perm (out.toList++left)
 |0,k,left,out,h=>by
  have:left=[]:=acC.mp h;subst this;unfold pickOrder.go;simp
 |fuel+1,k,left,out,h=>by
  unfold pickOrder.go
  have hm:next k % left.length<left.length:=Nat.mod_lt _ (by omega)
  rw[Y8 hm];dsimp only;have he:=yj (Y8 hm)
  have ih:=Gi next fuel (k+1) (left.eraseIdx (next k % left.length)) (out.push left[next k % left.length]) (by rw[List.length_eraseIdx_of_lt hm];omega)
  refine ih.trans ?_;rw[acR,aax];exact List.Perm.append_left _ he
theorem EV {α:Type} (next:Nat->Nat) (xs:Array α):(abK next xs).toList.Perm xs.toList:=by
 unfold abK
 have:=Gi next xs.size 0 xs.toList #[] (by simp)
 simpa using this
section
variable {P:ZE} {w:World} {A:ZX} {E:Value->Y4->Prop}
theorem Mq {α:Type} (n:Nat):∀(xs:List α) (s:Y4) (Q:List α->Y4->Prop),xs.length=n->(∀ys d,ys.Perm xs->Q ys { s with drawn:=d })->wpAny (model P w) A (drawOrder n xs) Q E s:=by
 induction n with
 |zero =>
  intro xs s Q h hQ;have:xs=[]:=acC.mp h;subst this;unfold drawOrder;exact YZ (hQ [] s.drawn (List.Perm.refl _))
 |succ n ih =>
  intro xs s Q h hQ
  cases xs with
  |nil=>simp at h
  |cons x xs =>
   unfold drawOrder;refine YX (Mm (by simp) ?_);have hm:w.draws .order (s.drawn.get .order) % (x::xs).length<(x::xs).length:=Nat.mod_lt _ (by simp);rw[Y8 hm];dsimp only;refine YX (ih _ _ _ (by rw[List.length_eraseIdx_of_lt hm];omega) λys d hp=>?_);refine YZ (hQ _ d ?_);exact(List.Perm.cons _ hp).trans (yj (Y8 hm))
theorem OK {s:Y4} {a:Addr} {u:Obj} {es:Array (Int×Value)} {ep:Nat} {t:SetTable} {Q:Value->Y4->Prop} (hu:s.heap.get? a=some u) (hx:u.ExactSet) (hd:u.data=.set es ep t) (hf:t.fits es.size=true) (ht:iA (ck w) t)
  (hsz:es.size<=Zf)
  (hQ:∀(h':Heap) (d':Drawn) (I:Addr) (fp:List Addr) (St:Nat->Y4->Prop) (order:List Value),(∀b o,s.heap.get? b=some o->h'.get? b=some o)->(∀b∈fp,b<h'.objs.size)->(∀b∈fp,b=a\/s.heap.objs.size<=b)->I∈fp->s.heap.objs.size<=I->order.Perm (es.toList.map (·.2)) ->
   (∀A':ZX,A'.handled=none->WalksS P w A' I fp [I] (λa b=>b=a) es.size (λi v=>order[i]?=some v) St)->St 0 { s with heap:=h',drawn:=d' }->Q (.ref I) { s with heap:=h',drawn:=d' }) :
  wpAny (model P w) A (pyIter (.ref a)) Q E s:=by
 have hT:s.TypeIs (.ref a) "set":=⟨u,hu,hx.1⟩;have bC:a<s.heap.objs.size:=Y9 hu;refine wpAny_pyIter_slot hT F.slot_set_iter (ZI F.slot_set_iter hT KL ?_ (F.args_set_iter_1 _));unfold aaY.«frozenset.__iter__» Builtin.Frozenset.slot0 slotArgs;simp only[aci,Zr,Y2,↓reduceIte,bind_assoc,ZY,bne_self_eq_false];unfold Builtin.Frozenset.addrOf Builtin.Frozenset.sizeOf;refine YX (YZ ?_)
 try dsimp only
 refine YX (YZ ?_);refine YX (YX (abE hu hd hf (YZ ?_)));unfold setDrawn;refine YX (YX (abx hu hd hf ?_));dsimp only;unfold setsByText;refine YX (YX (abi (YZ ?_)));refine YZ ?_
 show wpAny _ _ (if (!(w.params.followText "set-order")&&(!t.plain&&decide (es.size > 1)))=true then _ else _) _ _ _
 have BH:∀(o1:Obj) b o,s.heap.get? b=some o->(s.heap.push o1).get? b=some o:=λo1 b o e=>YY _ e;by_cases hc:(!w.params.followText "set-order"&&(!t.plain&&decide (es.size > 1)))=true
 ·rw[if_pos hc]
  refine YX (Mq _ _ _ _ (by simp) λys d hp=>?_);refine YX ?_;simp only[newTuple];refine Zt ?_ (by have:=hp.length_eq;rw[aaS] at this;show (ac2 _).size<=Zf;rw[Zg,Y1,this];exact hsz);have i5:∀x∈ys,x<es.size:=λx hx=>by simpa using hp.mem_iff.mp hx
  have hl:ys.length=es.size:=by simpa using hp.length_eq
  refine YX (wpAny_setEpoch_of (YY _ hu) hd hf ?_);refine YX (Zt ?_);refine YZ ⟨_,rfl,"set_iterator",_,⟨_,Y6 _ rfl,rfl⟩,jB.lookup,?_⟩;have qK:(s.heap.push { cls:=.type "tuple",data:=.seq (ys.map λ(i:Nat)=>aaH i).toArray }).objs.size=s.heap.objs.size+1:=by simp[ZP]
  refine hQ _ d _ [_,a,s.heap.objs.size] _ (ys.map λk=>(es.getD k (0,Value.none)).2) (λb o e=>YY _ (YY _ e)) ?_ ?_ (by simp) (by rw[qK];exact acq _) ?_ (λA' ha=>LK (u:=u) (t:=t) (ep:=ep) ha (I:=_) (a:=a) (tp:=s.heap.objs.size) (by rw[qK];exact Zn (aae bC)) (by rw[qK];exact Zn (aaZ _)) hd hf ys hl i5) ⟨⟨_,Y6 _ rfl,rfl,rfl⟩,YY _ (YY _ hu),⟨_,YY _ (Y6 _ rfl),rfl,_,rfl⟩⟩
  ·intro b hb
   simp only[Zh,Z5,or_false] at hb;rw[ZP]
   rcases hb with e|e|e
   ·rw[e];exact aaZ _
   ·rw[e,qK];exact aae (aae bC)
   ·rw[e,qK];exact aae (aaZ _)
  ·intro b hb
   simp only[Zh,Z5,or_false] at hb
   rcases hb with e|e|e
   ·right;rw[e,qK];exact acq _
   ·exact .inl e
   ·right;rw[e];exact Nat.le_refl _
  ·refine(List.Perm.map _ hp).trans ?_
   have:(Zk es.size).map (λk=>(es.getD k (0,Value.none)).2)=es.toList.map (·.2):=by
    apply aa7;intro i;rw[Zj,Zj];by_cases hi:i<es.size
    ·rw[Z0 hi,aao]
     simp[acO,hi]
    ·rw[ZM (by simpa using hi),ZM (by simpa using hi)]
     rfl
   rw[this]
 ·rw[if_neg hc]
  refine YX (YZ ?_);refine YX (wpAny_setEpoch_of hu hd hf ?_);refine YX (Zt ?_);refine YZ ⟨_,rfl,"set_iterator",_,⟨_,Y6 _ rfl,rfl⟩,jB.lookup,?_⟩;have au:∀(o1:Obj),∀b∈[s.heap.objs.size,a],b<(s.heap.push o1).objs.size:=λo1 b hb=>by
   simp only[Zh,Z5,or_false] at hb;rw[ZP]
   rcases hb with e|e
   ·rw[e];exact aaZ _
   ·rw[e];exact aae bC
  have Ji:∀b∈[s.heap.objs.size,a],b=a\/s.heap.objs.size<=b:=λb hb=>by
   simp only[Zh,Z5,or_false] at hb
   rcases hb with e|e
   ·right;rw[e];exact Nat.le_refl _
   ·exact .inl e
  cases ib:w.params.followText "set-order" with
  |true =>
   have Ws:(abK (w.params.setOrder a ep) es).size=es.size:=by
    have:=(EV (w.params.setOrder a ep) es).length_eq;simpa using this
   have hw:∀A':ZX,A'.handled=none->WalksS P w A' s.heap.objs.size [s.heap.objs.size,a] [s.heap.objs.size] (λa b=>b=a) es.size (λi v=>((abK (w.params.setOrder a ep) es).toList.map (·.2))[i]?=some v) _:=λA' ha=>by
    have:=Mn (P:=P) (u:=u) (t:=t) ha (I:=s.heap.objs.size) (a:=a) (Zn bC) ib hd hf Ws;simpa using this
   exact hQ _ s.drawn _ [_,a] _ ((abK (w.params.setOrder a ep) es).toList.map (·.2)) (λb o e=>YY _ e) (au _) Ji (by simp) (Nat.le_refl _) (List.Perm.map _ (EV _ _)) hw ⟨⟨_,Y6 _ rfl,rfl,rfl⟩,YY _ hu⟩
  |false =>
   have hp:t.plain=true\/es.size<=1:=by
    rw[ib] at hc;simp at hc
    cases cZ:t.plain with
    |true=>exact .inl rfl
    |false=>exact .inr (hc cZ)
   have hl:t.led=true:=by rw[ht.led];unfold ck;rw[ib];rfl
   have hr:jP t.place.toList:=by
    rcases hp with hp|hp
    ·exact ht.rise hp
    ·simp only[SetTable.fits,Y3,beq_iff_eq,decide_eq_true_eq] at hf
     have hle:t.place.toList.length<=1:=by simp[hf.1];exact hp
     match t.place.toList,hle with
     | [],_=>exact List.Pairwise.nil
     | [x],_=>exact abF _ _
   have hw:∀A':ZX,A'.handled=none->WalksS P w A' s.heap.objs.size [s.heap.objs.size,a] [s.heap.objs.size] (λa b=>b=a) es.size (λi v=>(es.toList.map (·.2))[i]?=some v) _:=λA' ha=>by
    have:=LJ (P:=P) (u:=u) (t:=t) (ep:=ep) ha (I:=s.heap.objs.size) (a:=a) (Zn bC) ib hd hf hl hp hr;simpa using this
   exact hQ _ s.drawn _ [_,a] _ (es.toList.map (·.2)) (λb o e=>YY _ e) (au _) Ji (by simp) (Nat.le_refl _) (List.Perm.refl _) hw ⟨0,⟨_,Y6 _ rfl,rfl,rfl⟩,YY _ hu,aad _,λk hk=>by omega,λk _ _=>aad _⟩
end
end TS
namespace TS
open PySem PySem.Spec PyProof.Rows
section
variable {P:ZE} {w:World} {A:ZX} {E:Value->Y4->Prop} {s:Y4}
theorem split_len:splitId "set.__len__"=some ("set","__len__"):=by decide +kernel
theorem ints_of (h:ElemsOf (abd P w) es) (hp:vs.Perm (es.map (·.2))):∃ns,acz vs ns:=by
 have hv:∀v∈vs,∃k t,v=.int k t:=λv hv=>by
  obtain⟨e,he,rfl⟩:=Zv.mp (hp.mem_iff.mp hv);obtain⟨⟨k,hk,_⟩,_⟩:=h e he
  cases hx:e.2 with
  |int i t=>exact⟨i,t,rfl⟩
  |_=>rw[hx] at hk;simp[abd,Value.isInt] at hk
 clear hp
 induction vs with
 |nil=>exact⟨[],.nil⟩
 |cons v vs ih =>
  obtain⟨k,t,rfl⟩:=hv v Zb;obtain⟨ns,h2⟩:=ih λx hx=>hv x (Zd _ hx);exact⟨k::ns,.cons k t h2⟩
theorem Hg {α:Type} {c:Bool} {x y:Sem α} {Q:α->Y4->Prop} (hc:c=true) (h:wpAny (model P w) A x Q E s):wpAny (model P w) A (if c=true then x else y) Q E s:=by
 rw[if_pos hc];exact h
theorem LM {a:Addr} {u:Obj} {es:Array (Int×Value)} {ep:Nat} {t:SetTable} {Q:List Value->Y4->Prop} (hh:A.handled=none) (hu:s.heap.get? a=some u) (hx:u.ExactSet) (hd:u.data=.set es ep t) (hf:t.fits es.size=true) (ht:iA (ck w) t) (hsz:es.size<abJ)
  (hQ:∀(h':Heap) (d':Drawn) (tk:Nat) (vs:List Value),s.heap.objs.size<=h'.objs.size->(∀b o,s.heap.get? b=some o->h'.get? b=some o)->vs.Perm (es.toList.map (·.2))->Q vs { s with heap:=h',drawn:=d',toks:=tk }):wpAny (model P w) A (collect (.ref a)) Q E s:=by
 have hz:es.size<=Zf:=abX hsz;have bC:a<s.heap.objs.size:=Y9 hu;unfold collect;refine YX (wpAny_runValue (aba F.entry_proto_collect ?_));rw[abq F.plain_proto_collect _];show wpAny _ A.in1 (newList [] >>= λl=>again (.builtin "list.__iadd__" ⟨[l,.ref a],[]⟩)) _ _ s;refine YX (Zt ?_);refine YZ ⟨plainId_quiet F.plain_list_iadd _,aba F.entry_list_iadd ?_⟩;rw[abq F.plain_list_iadd _];show wpAny _ A.in1 (ado (.ref s.heap.objs.size) (.ref a) (.ref s.heap.objs.size)) _ _ _
 generalize gw:({ s with heap:=s.heap.push { cls:=.type "list",data:=.seq ([]:List Value).toArray } }:Y4)=s1
 have tM:s1.heap.objs.size=s.heap.objs.size+1:=by rw[<- gw];simp[ZP]
 have A4:∀b o,s.heap.get? b=some o->s1.heap.get? b=some o:=λb o e=>by rw[<- gw];exact YY _ e
 have BK:s1.heap.get? a=some u:=by rw[<- gw];exact YY _ hu
 have hT:s1.TypeIs (.ref a) "set":=⟨u,BK,hx.1⟩;have xx:s1.heap.get? s.heap.objs.size=some { cls:=.type "list",data:=.seq ([]:List Value).toArray }:=by rw[<- gw];exact Y6 _ rfl
 unfold ado;refine YX (acu hT ?_);have n1:Builtin.List.listSameRef (.ref s.heap.objs.size) (.ref a)=false:=by
  simp[Builtin.List.listSameRef];exact aan bC
 have n2:(aaV "set"==aaV "list")=false:=by decide
 have n3:(aaV "set"==aaV "tuple")=false:=by decide
 simp only[n1,n2,n3,Bool.or_false,Y2,if_false];refine YX (OK BK hx hd hf ht hz λh' d' I fp St order k1 k2 k6 k3 k4 k5 W st=>?_)
 have BL:adA { s1 with heap:=h',drawn:=d' } (.ref a) "set":=⟨u,k1 _ _ BK,hx.1⟩
 have JQ:=k1 _ _ xx;refine YX (aat ?_);unfold Builtin.List.listLengthHint;refine YX (adp BL F.slot_set_len.lookup ?_);dsimp only;rw[split_len];dsimp only;refine YX (abI BL sub_set_self ?_);rw[if_neg (by decide)];refine Hg (by decide +kernel) ?_;refine YX (acu BL ?_);dsimp only;refine YZ ?_;refine Hg (by decide +kernel) ?_
 ··refine YX (aa5 ?_)
   refine YX ?_;show wpAny _ A.in1 (updateSeq s.heap.objs.size (·.push .none) >>= λ_=>updateSeq s.heap.objs.size (·.pop)) _ _ _;refine YX (wpAny_updateSeq JQ rfl ?_);have JR:=aah (aa6 (·.push Value.none)) JQ rfl;refine wpAny_updateSeq JR rfl ?_;have Wt:=aah (aa6 (·.pop)) JR rfl;have tL:s.heap.objs.size∉fp:=λhm=>by
    rcases k6 _ hm with e|e
    ·exact aan bC e
    ·rw[tM] at e;exact Nat.not_succ_le_self _ e
   have BH:∀b o,b≠s.heap.objs.size->h'.get? b=some o->((h'.update s.heap.objs.size (aa6 (·.push Value.none))).update s.heap.objs.size (aa6 (·.pop))).get? b=some o :=
    λb o hb e=>(abL _ _ (abe hb)).trans ((abL _ _ (abe hb)).trans e)
   refine YZ ⟨plainId_quiet F.plain_extend_loop _,codeAny_extend_loopS (W A.in1 (by simp[hh])) hz _ tL _ es.size 0 _ _ _ rfl (aad _) ((W A.in1 (by simp[hh])).frame 0 ({ s1 with heap:=h',drawn:=d' }:Y4) _ s1.toks st (Nat.le_refl _) λb hb o e=>BH b o (λz=>tL (z ▸ hb)) e) Wt (ItemsOf.nil _) λs' acc c m JS kG=>?_⟩
   show wpAny _ A (load s.heap.objs.size >>= _) _ _ s';refine YX (wpAny_load JS ?_);refine YZ ?_;have Wu:order.length=es.size:=by simpa using k5.length_eq
   have VB:acc.toList=order:=by
    apply aa7;intro j;by_cases hj:j<acc.size
    ·have e1:acc[j]?=some acc[j]:=by simp[hj]
     rw[aao,e1,kG.2 j _ e1]
    ·rw[ZM (by simpa using hj),ZM (by rw[Wu,<- kG.1];omega)]
   obtain⟨h2,g2,d2,t2,o2⟩:=s';have eg:g2=s1.gens:=m.gens;have ed:d2=d':=m.drawn;have eo:o2=s1.os:=m.os;subst eg ed eo;have q:=hQ h2 d2 t2 acc.toList (Nat.le_of_lt (Y9 JS)) (λb o e=>m.heap b o (λhb=>by
    simp only[Zh,Z5,or_false] at hb;have lY:=Y9 e
    rcases hb with z|z
    ·rw[z] at lY;exact ZF _ lY
    ·rw[tM] at k4;rw[z] at lY;exact ZF _ (Y5 lY (Nat.le_of_succ_le k4))) (BH b o (λz=>by
     have lY:=Y9 e;rw[z] at lY;exact ZF _ lY) (k1 b o (A4 b o e)))) (by rw[VB];exact k5)
   rw[<- gw];exact q
end
end TS
namespace TS
open PySem PySem.Spec PyProof.Rows
section
variable {P:ZE} {w:World} {A:ZX} {E:Value->Y4->Prop} {s:Y4}
theorem Mr (hh:A.handled=none) (hu:s.heap.get? a=some u) (hx:u.ExactSet) (hd:u.data=.set es ep t) (hf:t.fits es.size=true) (ht:iA (ck w) t) (BM:ElemsOf (abd P w) es.toList) (YK:es.size<64)
 (h:∀(h':Heap) (d':Drawn) (tk:Nat) (p:Addr) (vs:List Value) (ns:List Int) (out:List Value) (ms:List Int) (e:Nat),(∀b o,s.heap.get? b=some o->h'.get? b=some o)->s.heap.objs.size<=p->vs.Perm (es.toList.map (·.2))->acz vs ns->h'.get? p=some { cls:=.type "list",data:=.seq out.toArray e }->acz out ms->ms.Perm ns->ms.Pairwise (·<=·)->Q (.ref p) { s with heap:=h',drawn:=d',toks:=tk }) :
  wpAny (model P w) A (call (.builtin "sorted") [.ref a]) Q E s:=by
 refine Calls.call_function_entry kind_sorted plain_sorted entry_sorted (args_sorted1 _) ?_;unfold aaY.«sorted»;refine YX (m:=checkCount "sorted" 1 1 _) (YZ ?_);refine YX (LM (by simp[hh]) hu hx hd hf ht (by unfold abJ;omega) λh' d' tk vs k0 k1 k2=>?_);obtain⟨ns,hI⟩:=ints_of BM k2;have hl:vs.length<64:=by have:=k2.length_eq;simp at this;omega
 refine YX (wpAny_newList ?_);have sO:(h'.push (adt "list" vs.toArray 0)).get? h'.objs.size=some (adt "list" vs.toArray 0):=Y6 _ rfl;refine YX (aat (ZI slot_list_sort ⟨_,sO,rfl⟩ entry_list_sort (list_sort_tree sO hI hl λout ms a1 a2 a3=>⟨_,rfl,?_⟩) (args_list_sort _)));obtain⟨e,he⟩:=sortedHeap_at (out:=out) sO;refine YZ ⟨_,rfl,h _ d' tk h'.objs.size vs ns out.toList ms e (λb o hb=>?_) ?_ k2 hI (by simpa [adt] using he) a1 a2 a3⟩
 ·have fu:=k1 b o hb
  have bC:=Y9 fu;rw[sortedHeap_old (Zn bC) (by rw[size_push'];exact aae bC)];exact YY _ fu
 ·exact k0
end
end TS
namespace L2
open PySem PySem.Spec PyProof.Rows
noncomputable def gZ (P:ZE) (w:World) (p:Addr) (ns:List Int):Heap->Prop:=λh=>∃(S:Int->Bool) (n:Nat),TS.fH P w (TS.ck w) h p S n/\(∀k,S k=true↔k∈ns)/\n<=ns.length/\n=(ns.foldl step_dedup []).length
section
variable {X:Cx}
theorem mq (l:List Int) (k:Int):(l.any (·==k))=true↔k∈l:=by
 rw[aaX];exact⟨λ⟨x,h1,h2⟩=>by rw[<- beq_iff_eq.mp h2];exact h1,λh=>⟨k,h,by simp⟩⟩
theorem Gj (hm:m=ns.length) (hS:TS.fH X.prog X.w (TS.ck X.w) h p (λk'=>(abb (λi=>ns.getD i 0) m).any (·==k')) (abb (λi=>ns.getD i 0) m).length):gZ X.prog X.w p ns h:=by
 subst hm;refine⟨_,_,hS,λk=>?_,firstMet_length_le _ _,?_⟩
 ·rw[firstMet_any,map_getD]
  exact mq ns k
 ·unfold abb
  rw[map_getD]
theorem Gk (hx:gZ X.prog X.w p ns h):cL X.prog X.w (upd H p (.ext (gZ X.prog X.w p ns))) h p (.ext (gZ X.prog X.w p ns)):=by
 refine⟨hx,?_,λh1 h2 q k=>?_⟩
 ·obtain⟨_,_,⟨o,_,_,_,ho,_⟩,_⟩:=hx
  exact⟨o,ho⟩
 ·obtain⟨S,n,T,r⟩:=q
  exact⟨S,n,T.at k,r⟩
theorem Ms (hc:X.calm=true):cf X (.type "set") (λxs H Q=>∃(a:Addr) (ns:List Int),xs=[.ref a]/\bQ X.K H a (ns.map V.int)/\ns.length<4000/\∀p,H p=none->Q (.ref p) (upd H p (.ext (gZ X.prog X.w p ns)))):=by
 intro pins s σ H xs us Q I r h;obtain⟨a,ns,rfl,ha,hl,q⟩:=h;obtain⟨u,rfl,ru⟩:=vals1 r;cases ru;obtain⟨its,rv,p,_⟩:=I.list ha;have hn:its.toArray.size=ns.length:=by
  have e:=rv.length;rw[Y1] at e;simpa using e.symm
 refine TS.Mp (its:=its.toArray) (ns:=ns) (I.ok.hd hc) p.isList (by simpa using intsAre_of rv) (by rw[hn];show ns.length+1<4096;omega) λh' tk hS hk=>?_;exact⟨.ref _,_,I.laid (t':=tk) (λb o e=>hk b o (Y9 e) e) (Nat.le_refl _) (Gk (Gj hn hS)),rfl,q _ (I.aG.fresh (Nat.le_refl _))⟩
theorem Mt (hc:X.calm=true):cf X (.type "set") (λxs H Q=>∃(a:Addr) (ns:List Int),xs=[.ref a]/\aS X.K H a (ns.map V.int)/\ns.length<4000/\∀p,H p=none->Q (.ref p) (upd H p (.ext (gZ X.prog X.w p ns)))):=by
 intro pins s σ H xs us Q I r h;obtain⟨a,ns,rfl,ha,hl,q⟩:=h;obtain⟨u,rfl,ru⟩:=vals1 r;cases ru;obtain⟨its,rv,p,_⟩:=I.tuple ha;have hn:its.toArray.size=ns.length:=by
  have e:=rv.length;rw[Y1] at e;simpa using e.symm
 refine TS.Mo (its:=its.toArray) (ns:=ns) (I.ok.hd hc) p (by simpa using intsAre_of rv) (by rw[hn];show ns.length+1<4096;omega) λh' tk hS hk=>?_;exact⟨.ref _,_,I.laid (t':=tk) (λb o e=>hk b o (Y9 e) e) (Nat.le_refl _) (Gk (Gj hn hS)),rfl,q _ (I.aG.fresh (Nat.le_refl _))⟩
theorem DK:∀{out:List Value} {ms:List Int},acz out ms->Vals (ms.map V.int) out
 |_,_,.nil=>.nil
 |_,_,.cons n t h=>.cons ⟨t,rfl⟩ (DK h)
theorem D6:∀(ns acc:List Int),acc.Nodup->(ns.foldl step_dedup acc).Nodup
 | [],acc,h=>h
 |n::ns,acc,h=>by
  refine D6 ns _ ?_;unfold step_dedup;split
  ·exact h
  ·rename_i hn
   rw[ach] at hn;refine abY.mpr ⟨h,by simp,λa ha b hb=>?_⟩;have:b=n:=by simpa using hb
   subst this;intro e;subst e;rw[(mq acc a).mpr ha] at hn;cases hn
theorem Fs:∀{vs:List Value} {ns:List Int},acz vs ns->∀k,k∈ns↔∃t,adj k t∈vs
 |_,_,.nil,k=>by simp
 |_,_,.cons n t h,k=>by
  rw[Zh,Fs h k];constructor
  ·rintro (e | ⟨t',h'⟩)
   ·subst e;exact⟨t,Zb⟩
   ·exact⟨t',Zd _ h'⟩
  ·rintro ⟨t',h'⟩
   rcases Zh.mp h' with e|h'
   ·injection e with e _;exact .inl e
   ·exact .inr ⟨t',h'⟩
theorem sub_len:∀{m l:List Int},m.Nodup->(∀k,k∈m->k∈l)->m.length<=l.length
 | [],l,_,_=>aad _
 |x::m,l,h,hk=>by
  obtain⟨h1,h2⟩:=abN.mp h;have hx:=hk x Zb;have ih:=sub_len (m:=m) (l:=l.erase x) h2 λk hm=>(List.mem_erase_of_ne (λ(e:k=x)=>h1 (by rw[<- e];exact hm))).mpr (hk k (Zd _ hm));rw[List.length_erase_of_mem hx] at ih;have:=List.length_pos_of_mem hx;rw[Zz];omega
theorem DL:∀{l m:List Int},m.Nodup->(∀k,k∈m↔k∈l)->l.length<=m.length->l.Nodup
 | [],m,_,_,_=>adv
 |a::r,m,hm,hk,hl=>by
  have ha:a∉r:=λh=>by
   have:=sub_len hm λk h'=>(Zh.mp ((hk k).mp h')).elim (λe=>e ▸ h) id;rw[Zz] at hl;omega
  have Wv:a∈m:=(hk a).mpr Zb;refine abN.mpr ⟨ha,DL (m:=m.erase a) (hm.erase a) (λk=>?_) ?_⟩
  ·rw[hm.mem_erase_iff,hk k,Zh]
   constructor
   ·rintro ⟨h1,h2|h2⟩
    ·exact absurd h2 h1
    ·exact h2
   ·intro h
    exact⟨λe=>ha (e ▸ h),.inr h⟩
  ·rw[List.length_erase_of_mem Wv]
   rw[Zz] at hl;omega
theorem DM (hc:X.calm=true):cf X (.builtin "sorted") (λxs H Q=>∃(p:Addr) (ns:List Int),xs=[.ref p]/\H p=some (.ext (gZ X.prog X.w p ns))/\ns.length<64 /\
  ∀(l:Addr) (ms:List Int),H l=none->ms.Pairwise (· < ·)->(∀k,k∈ms↔k∈ns)->Q (.ref l) (upd H l (.lst (ms.map V.int)))):=by
 intro pins s σ H xs us Q I r h;obtain⟨p,ns,rfl,hp,hl,q⟩:=h;obtain⟨v,rfl,rv⟩:=vals1 r;cases rv;obtain⟨⟨S,n,⟨u,es,ep,t,hu,hx,hd,BM,VD,hb,hf,hn,ht⟩,hS,BN,qH⟩,_⟩:=I.aG p _ hp;refine TS.Mr (I.ok.hd hc) hu hx hd hf ht BM (by omega) λh' d' tk l vs ks out ms e k1 k2 k3 k4 k5 k6 k7 k8=>?_;have Ii:∀k,k∈ms↔k∈ns:=λk=>by
  rw[k7.mem_iff,Fs k4 k,<- hS k,VD k];constructor
  ·rintro ⟨t',Ww⟩
   obtain⟨x,lZ,kM⟩:=Zv.mp (k3.mem_iff.mp Ww);exact⟨x,lZ,by rw[kM];exact intKind_is _ _ _ _⟩
  ·rintro ⟨x,lZ,kM⟩
   obtain⟨i,t',e'⟩:∃i t',x.2=.int i t':=by
    cases hv:x.2 with
    |int i t'=>exact⟨i,t',rfl⟩
    |_=>rw[hv] at kM;simp[abd,Value.isInt] at kM
   have oW:k=i:=(abd X.prog X.w).inj (.int i t') k i (by rw[<- e'];exact kM) (intKind_is _ _ _ _);subst oW;exact⟨t',k3.mem_iff.mpr (Zv.mpr ⟨x,lZ,e'⟩)⟩
 have VE:ms.Nodup:=by
  have kN:=D6 ns [] adv;refine DL kN (λk=>?_) ?_
  ·rw[Ii k,<- mq,<- mq]
   have:=firstMet_any (λi=>ns.getD i 0) ns.length k;unfold abb at this;rw[map_getD] at this;rw[this]
  ·rw[<- qH,<- hn]
   have e1:=k7.length_eq;have e2:=k4.length;have e3:=k3.length_eq;simp at e3;omega
 have bC:ms.Pairwise (· < ·):=by
  have:=List.pairwise_and_iff.mpr ⟨k8,VE⟩;exact this.imp λ⟨a,b⟩=>by omega
 have J:=I.laid (t':=tk) (a:=l) (o:=.lst (ms.map V.int)) k1 k2 ⟨by
  rw[Y1,abB];have e1:=k7.length_eq;have e2:=k4.length;have e3:=k3.length_eq;simp at e3;omega,out,e,DK k6,k5⟩
 exact⟨.ref l,_,J.Ae (s':={ s with heap:=h',drawn:=d',toks:=tk }) (ch:=[]) rfl Un.refl J.aG J.bare (λb hb=>by cases hb),rfl,q l ms (I.aG.fresh k2) bC Ii⟩
end
end L2
namespace L2
open PySem PySem.Spec PyProof.Rows
section
variable {X:Cx}
end
end L2
namespace L2
open PySem PySem.Spec PyProof.Rows
mutual
noncomputable def tN:ab8->Bool
 | .tuple ds=>qv ds
 | .list _=>false
 |_=>true
noncomputable def qv:List ab8->Bool
 | []=>true
 |d::ds=>tN d&&qv ds
end
section
variable {X:Cx} {pins:List (Addr×Obj)} {σ:St} {H:Hp} {s:Y4} {Z:Addr->Prop}
mutual
theorem DV.rF (I:Inv X pins σ H s):∀{d:ab8} {v:V} {u:Value},DV X.K Z H d v->RelV v u->tN d=true->∃as,Reads s.heap u d as/\aaJ∉as
 | .none,v,u,h,r,_=>by
  have e:v=.aA:=h;subst e;cases r;exact⟨[],.none,by simp⟩
 | .bool b,v,u,h,r,_=>by
  have e:v=.bl b:=h;subst e;cases r;exact⟨[],.bool b,by simp⟩
 | .int i,v,u,h,r,_=>by
  have e:v=.int i:=h;subst e;obtain⟨t,rfl⟩:=r;exact⟨[],.int i t,by simp⟩
 | .str x,v,u,h,r,_=>by
  have e:v=.str x:=h;subst e;obtain⟨t,rfl⟩:=r;exact⟨[],.str x t,by simp⟩
 | .tuple ds,v,u,h,r,hn=>by
  simp only[DV] at h;obtain⟨a,xs,e,hq,hr⟩:=h;subst e;cases r;obtain⟨its,rv,⟨o,e,c,n,hd⟩,_⟩:=I.tuple hq;obtain⟨as,rs,hs⟩:=aw.rF I hr rv (by simpa only [tN] using hn);exact⟨as,.tuple e c hd (by simpa using rs),hs⟩
 | .list ds,v,u,h,r,hn=>by
  simp only[tN] at hn;cases hn
 | .dict ao,v,u,h,r,_=>by
  simp only[DV] at h;obtain⟨a,es,e,_,hq,l,e1,e2⟩:=h;subst e e1 e2;cases r;obtain⟨_,AZ,vs,kv,o,fT,ep,g1,g2,g3,_,g5,_⟩:=(show cL X.prog X.w H s.heap a (.dK _) from I.aG a _ hq);obtain⟨r1,r2⟩:=uF (h:=s.heap) kv g5;refine⟨a::[]++[],.dict g1 g2.1 g3 r1 r2,λhm=>?_⟩;have e:aaJ=a:=by simpa using hm
  subst e;simp at AZ
theorem aw.rF (I:Inv X pins σ H s):∀{ds:List ab8} {vs:List V} {us:List Value},aw X.K Z H ds vs->Vals vs us->qv ds=true->∃as,ReadsAll s.heap us ds as/\aaJ∉as
 | [],vs,us,h,r,_=>by
  have e:vs=[]:=h;subst e;cases r;exact⟨[],.nil,by simp⟩
 |d::ds,vs,us,h,r,hn=>by
  obtain⟨v,rr,e,h1,h2⟩:=h;subst e;simp only[qv,Y3] at hn
  cases r with
  |cons ru rt =>
   obtain⟨as,a1,n1⟩:=DV.rF I h1 ru hn.1;obtain⟨bs,a2,n2⟩:=aw.rF I h2 rt hn.2;refine⟨as++bs,.cons a1 a2,λhm=>?_⟩
   rcases Zq.mp hm with z|z
   ·exact n1 z
   ·exact n2 z
end
end
section
variable {X:Cx}
theorem Mu (hr:cM k X.A):cf X (.builtin "repr") (λxs H Q=>∃(x:V) (ds:List ab8) (Z:Addr->Prop),xs=[x]/\DV X.K Z H (.tuple ds) x/\(PyData.tuple ds).showable=true/\((PyData.tuple ds).hasDict=false\/qv ds=true)/\(PyData.tuple ds).depth<=100/\(PyData.tuple ds).shown.length<=Zf/\Q (.str (PyData.tuple ds).shown) H):=by
 intro pins s σ H xs us Q I r h;obtain⟨x,ds,Z,rfl,hd,hs,qH,tG,hz,q⟩:=h;obtain⟨u,rfl,ru⟩:=vals1 r;have xp:X.A.units+((PyData.tuple ds).depth+1)<cLine:=by have:=hr.un;omega
 have go:∀as,Reads s.heap u (.tuple ds) as->((PyData.tuple ds).hasDict=true->aaJ∉as)->wpAny (model X.prog X.w) X.A (call (.builtin "repr") [u]) (EP X pins σ Q) X.xe s:=λas rd Bz=>by
  obtain⟨a,e⟩:∃a,u=.ref a:=by cases rd;exact⟨_,rfl⟩
  subst e;exact repr_of_reads' rd hs Bz hr.gd xp (λ_ _ e=>e) (λh' t tk hk=>⟨.str _,H,I.kept (t':=tk) hk,⟨t,rfl⟩,q⟩) hz
 rcases qH with e|e
 ·obtain⟨as,rd⟩:=hd.reads I ru
  exact go as rd λz=>by rw[e] at z;cases z
 ·obtain⟨as,rd,hn⟩:=hd.rF I ru (by simpa only [tN] using e)
  exact go as rd λ_=>hn
end
end L2
namespace HZ
open PySem PySem.Spec PyProof.Rows
open AutoSeq1 (wpAny_loadPart')
section
variable {P:ZE} {w:World} {A:ZX} {E:Value->Y4->Prop} {s:Y4}
theorem Nn {tn:Nat->Heap->Prop} {val:Nat->Option Value} {k:Nat} {Q:Value->Y4->Prop} (S1:jw P w A it l tn val) (ge:IsEnum s.heap e it k old) (h1:tn k s.heap) (hx:val k=some x) (dN:it≠e) (hle:l≠e)
 (q:∀h',IsEnumOut h' e it ((k:Int)+1) x s.heap.objs.size->tn (k+1) h'->h'.get? s.heap.objs.size=some { cls:=.type "tuple",data:=.seq #[.int k s.toks,x] }->h'.objs.size=s.heap.objs.size+1 ->
 (∀c o,c≠e->c≠it->s.heap.get? c=some o->h'.get? c=some o)->Q (.ref s.heap.objs.size) { s with heap:=h',toks:=s.toks+1 }) :
  wpAny (model P w) A (aaY.«enumerate.__next__» ⟨[.ref e],[]⟩) (λfin s'=>∃v,fin=.done (.ret v)/\Q v s') E s:=by
 obtain⟨hp,gn,dr,tk,os⟩:=s;show wpAny _ _ (field (.ref e) 2 >>= _) _ _ (_:Y4);refine YX (Z2 ge rfl (x:=.ref it) rfl ?_);refine YX (S1.item k _ _ _ x h1 hx λp1 t1 s1=>?_);have e1:IsEnum p1 e it k old:=s1.extBut _ _ dN.symm ge;show wpAny _ _ (field (.ref e) 3 >>= _) _ _ (_:Y4);refine YX (Z2 e1 rfl (x:=aaH k) rfl ?_);show wpAny _ _ (field (.ref e) 4 >>= _) _ _ (_:Y4);refine YX (Z2 e1 rfl (x:=.none) rfl ?_);show wpAny _ _ (mkInt k >>= _) _ _ (_:Y4);refine YX (wpAny_mkInt ?_);show wpAny _ _ (setField (.ref e) 3 (aaH ((k:Int)+1)) >>= _) _ _ (_:Y4);refine YX (aam e1 (by simp) λp2 e2 s2=>?_)
 replace e2:IsEnum p2 e it ((k:Int)+1) old:=e2
 show wpAny _ _ (setField (.ref e) 4 .none >>= _) _ _ (_:Y4);refine YX (aam e2 (by simp) λp3 e3 s3=>?_)
 replace e3:IsEnum p3 e it ((k:Int)+1) old:=e3
 show wpAny _ _ (newTuple [.int k tk,x] >>= _) _ _ (_:Y4);refine YX (wpAny_newTuple ?_);have e4:IsEnum (p3.push { cls:=.type "tuple",data:=.seq #[.int k tk,x] }) e it ((k:Int)+1) old:=YY _ e3;have gs:p3.objs.size=hp.objs.size:=by rw[s3.1,s2.1,s1.1]
 have lz:e<p3.objs.size:=Y9 e3;show wpAny _ _ (aab (.ref e) >>= _) _ _ (_:Y4);refine YX ?_;unfold aab;refine YX (Z2 e4 rfl (x:=.none) rfl (YZ ?_));simp only[if_true];refine YX (aa5 ?_);refine YX (Z2 e4 rfl (x:=old) rfl ?_);refine YX (aam e4 (by simp) λp5 e5 s5=>?_)
 replace e5:IsEnum p5 e it ((k:Int)+1) x:=e5
 show wpAny _ _ (aaD (.ref e) (.ref p3.objs.size) >>= _) _ _ (_:Y4);refine YX ?_;unfold aaD;refine YX (aam e5 (by simp) λp6 e6 s6=>?_)
 replace e6:IsEnumOut p6 e it ((k:Int)+1) x p3.objs.size:=e6
 refine aam e6 (by simp) λp7 e7 s7=>?_
 replace e7:IsEnumOut p7 e it ((k:Int)+1) x p3.objs.size:=e7
 have up:∀c o,c≠e->p3.get? c=some o->p7.get? c=some o:=λc o c1 h=>s7.extBut _ _ c1 (s6.extBut _ _ c1 (s5.extBut _ _ c1 (YY _ h)));have t7:p7.get? p3.objs.size=some { cls:=.type "tuple",data:=.seq #[.int k tk,x] }:=s7.extBut _ _ (aan lz) (s6.extBut _ _ (aan lz) (s5.extBut _ _ (aan lz) (Y6 _ rfl)));have n7:p7.objs.size=p3.objs.size+1:=by rw[s7.1,s6.1,s5.1,ZP]
 have k1:∀c o,c≠e->p1.get? c=some o->p3.get? c=some o:=λc o c1 h=>s3.extBut _ _ c1 (s2.extBut _ _ c1 h);rw[gs] at e7 t7 n7;refine YX (wpAny_letGo (YZ ⟨_,rfl,?_⟩));show Q (.ref p3.objs.size) _;rw[gs];exact q p7 e7 (S1.keep _ _ _ t1 (λo h=>up _ o dN (k1 _ o dN h)) (λo h=>up _ o hle (k1 _ o hle h))) t7 n7 λc o c1 c2 h=>up c o c1 (k1 c o c1 (s1.extBut _ _ c2 h))
theorem Np {tn:Nat->Heap->Prop} {val:Nat->Option Value} {k:Nat} {Q:Option Value->Y4->Prop} (S1:jw P w A.in1 it l tn val) (ge:IsEnum s.heap e it k old) (h1:tn k s.heap) (hx:val k=some x) (dN:it≠e) (hle:l≠e)
 (q:∀h',IsEnumOut h' e it ((k:Int)+1) x s.heap.objs.size->tn (k+1) h'->h'.get? s.heap.objs.size=some { cls:=.type "tuple",data:=.seq #[.int k s.toks,x] }->h'.objs.size=s.heap.objs.size+1 ->
 (∀c o,c≠e->c≠it->s.heap.get? c=some o->h'.get? c=some o)->Q (some (.ref s.heap.objs.size)) { s with heap:=h',toks:=s.toks+1 }):wpAny (model P w) A (abr (.ref e)) Q E s:=by
 have hT:s.TypeIs (.ref e) "enumerate":=⟨_,ge,rfl⟩;unfold abr;exact YX (aa2 (ZC (name:=ZJ "__next__") hT abQ
  (ZI abQ hT F.entry_enumerate_next (Nn S1 ge h1 hx dN hle λh' a1 a2 a3 a4 a5=>YZ (q h' a1 a2 a3 a4 a5)) (F.args_enumerate_next_1 _))))
theorem OL {tn:Nat->Heap->Prop} {val:Nat->Option Value} {k:Nat} {Q:Option Value->Y4->Prop} (S1:jw P w A.in1 it l tn val) (ge:IsEnum s.heap e it k old) (h1:tn k s.heap) (hx:val k=none)
 (q:∀h',acp it s.heap h'->Q none { s with heap:=h' }):wpAny (model P w) A (abr (.ref e)) Q E s:=by
 have hT:s.TypeIs (.ref e) "enumerate":=⟨_,ge,rfl⟩;unfold abr;refine YX (aa2 (ZC (name:=ZJ "__next__") hT abQ
  (ZI abQ hT F.entry_enumerate_next ?_ (F.args_enumerate_next_1 _))))
 show wpAny _ _ (field (.ref e) 2 >>= _) _ _ (_:Y4);refine YX (Z2 ge rfl (x:=.ref it) rfl ?_);refine YX (S1.stop k _ _ _ h1 hx λh' x he sR=>?_);obtain⟨o,ho,hc⟩:=sR;exact YX (abI (T:="StopIteration") (b:=true) ⟨o,ho,hc⟩ isSubtype_stop (YZ (q _ he)))
theorem OM (l:Addr) (items:Array Value) (n:Nat) (aW:Option Addr) (sl:Array (Option Value)) :
  Meets (aaY.«enumerate.__new__» ⟨[.type "enumerate",.ref l],[]⟩) (λ_ R s=>s.heap.get? l=some { cls:=.type "tuple",dict:=aW,data:=.seq items n,slots:=sl } /\
   R (.ok (.ret (.ref (s.heap.push { cls:=.type "tuple_iterator",data:=.fields #[.ref l,.int 0 0] }).objs.size)))
    { s with heap:=(s.heap.push { cls:=.type "tuple_iterator",data:=.fields #[.ref l,.int 0 0] }).push { cls:=.type "enumerate",data:=.fields #[.none,.bool false,.ref s.heap.objs.size,aaH 0,.none,.none] } }) :=
 .of_wp λprog w A R s h=>by
  obtain⟨h1,h2,h3,h4,h5⟩:=s;obtain⟨hl,h⟩:=h;have ss:=sub_enumerate;have hL:Heap.IsTuple (Shared.heap ⟨h1,h2,h3,h4,h5⟩) l items:=⟨_,hl,rfl,n,rfl⟩
  wp_walk using abR hl
  refine wpAny_stack_any λst=>YZ ?_;split
  ·rename_i c _ _ _ _ _
   cases (c==aaV "enumerate")
   ·wp_walk using abR hl,aaW hL
    exact⟨_,rfl,h⟩
   ·wp_walk using abR hl,aaW hL
    exact⟨_,rfl,h⟩
  ·wp_walk using abR hl,aaW hL
   exact⟨_,rfl,h⟩
theorem KY (hL:s.heap.IsTuple l items)
 (h:∀h',IsEnum h' (s.heap.objs.size+1) s.heap.objs.size 0 .none->h'.IsTupleIter s.heap.objs.size l 0->h'.objs.size=s.heap.objs.size+2 ->
 (∀b o,s.heap.get? b=some o->h'.get? b=some o)->Q (.ref (s.heap.objs.size+1)) { s with heap:=h' }) :
  wpAny (model P w) A (call (.type "enumerate") [.ref l]) Q E s:=by
 obtain⟨⟨c,aW,dt,sl⟩,hl,hc,n,hd⟩:=hL
 replace hc:c=.type "tuple":=hc
 replace hd:dt=.seq items n:=hd
 subst hc hd;refine callType_new F.called_enumerate (by decide) (F.typeCall_enumerate_1 _) (F.newCall_enumerate_1 _) (λobj=>F.args_object_init_2 obj _) F.entry_enumerate_new
  (OM l items n aW sl) ⟨hl,?_⟩
 have hz:(s.heap.push { cls:=.type "tuple_iterator",data:=.fields #[.ref l,.int 0 0] }).objs.size=s.heap.objs.size+1:=ZP ..;have he:=Y6 (s.heap.push { cls:=.type "tuple_iterator",data:=.fields #[.ref l,.int 0 0] })
   (o:={ cls:=.type "enumerate",data:=.fields #[.none,.bool false,.ref s.heap.objs.size,aaH 0,.none,.none] }) rfl
 show _/\_;rw[hz] at he |-;exact⟨⟨_,he,rfl⟩,h _ he ⟨_,YY _ (Y6 _ rfl),rfl,rfl⟩ (by rw[ZP,hz]) λb o x=>YY _ (YY _ x)⟩
end
end HZ
namespace L2
open PySem PySem.Spec PyProof.Rows
noncomputable def A5 (K:Frag) (a:Addr):It :=
 ⟨λi H=>∃xs x,aS K H a xs/\xs[i]?=some x,λi H v H'=>∃p x,H p=none/\v=.ref p/\H'=upd H p (.tup [.int i,x])/\∀xs,aS K H a xs->xs[i]?=some x,λi H=>∃xs,aS K H a xs/\xs.length<=i⟩
theorem Mv {P:ZE} {w:World} {K:Frag} {elts:List Expr} {kk:Nat} {pos:Pos} (a e it:Addr) (dN:it≠e) :
  Turn P w K (.Tuple elts kk pos) (A5 K a) [e,it] e (λi h=>(∃old,IsEnum h e it i old)/\h.IsTupleIter it a i) where
 mem:=by simp
 obj:=λi h st c hc=>by
  have iD:c=e\/c=it:=by simpa using hc
  rcases iD with rfl|rfl
  ·obtain⟨old,q⟩:=st.1;exact⟨_,q,λv q=>nomatch q⟩
  ·obtain⟨o,e,_,d⟩:=st.2;exact⟨o,e,λv q=>by rw[d] at q;cases q⟩
 keep:=λi h h' st k=>⟨by obtain⟨old,q⟩:=st.1;exact⟨old,k e (by simp) _ q⟩,st.2.at λo q=>k it (by simp) o q⟩
 item:=by
  intro X hP hw hK hc i pins s σ H E I hf st hg;subst hP hw hK;obtain⟨xs,x,hx,ex⟩:=hg;obtain⟨i1,r1,p1,z1⟩:=I.tuple hx;obtain⟨u,eu,ru⟩:=r1.get ex;have hh:X.A.in1.handled=none:=I.ok.hd hc;obtain⟨old,he⟩:=st.1;refine HZ.Np (HZ.pT hh it a i1.toArray) he ⟨st.2,p1⟩ (by simpa using eu) dN (rE I hx (hf e (by simp))) λh' c1 c2 c3 c4 c5=>⟨_,rfl,?_⟩;refine wpAny_letOwnedTupleGo_enum c1 λh2 d1 d2=>?_;have hn:H s.heap.objs.size=none:=I.aG.fresh (Nat.le_refl _);have xr:e<s.heap.objs.size:=Y9 he;have mQ:IsTup h2 s.heap.objs.size #[.int i s.toks,u]:=⟨_,d2.extBut _ _ (aan xr) c3,rfl,_,rfl⟩
  have I2:Inv X pins σ (upd H s.heap.objs.size (.tup [.int i,x])) { s with heap:=h2,toks:=s.toks+1 }:=I.EO (ch:=[e,it]) (λc o oU q=>by
   have z:c≠e/\c≠it:=by simpa using oU
   exact d2.extBut c o z.1 (c5 c o z.1 z.2 q)) hf (Nat.le_refl _) ⟨by show 2<=Zf;decide,[.int i s.toks,u],.cons ⟨_,rfl⟩ (.cons ru .nil),mQ⟩
  refine⟨.ref s.heap.objs.size,_,I2,rfl,⟨_,x,hn,rfl,rfl,λWi q1=>?_⟩,?_,λc j6=>?_⟩
  ·rw[I.uZ q1 hx];exact ex
  ·exact⟨⟨_,d1⟩,c2.1.extBut d2.extBut dN⟩
  ·rw[bq]
   ·exact(hf c j6).1
   ·intro z
    have iD:c=e\/c=it:=by simpa using j6
    have:c<s.heap.objs.size:=by
     rcases iD with q|q
     ·rw[q];exact xr
     ·rw[q];obtain⟨o,g,_⟩:=st.2;exact Y9 g
    rw[z] at this;exact ZF _ this
 done:=by
  intro X hP hw hK hc i pins s σ H E I hf st hg;subst hP hw hK;obtain⟨xs,hx,hle⟩:=hg;obtain⟨i1,r1,p1,z1⟩:=I.tuple hx;have hh:X.A.in1.handled=none:=I.ok.hd hc;have l1:=r1.length;obtain⟨old,he⟩:=st.1;refine HZ.OL (HZ.pT hh it a i1.toArray) he ⟨st.2,p1⟩ (by simp;omega) λh' c7=>⟨rfl,I.yo (t':=s.toks) (ch:=[e,it]) (λc o oU q=>by
   have z:c≠e/\c≠it:=by simpa using oU
   exact c7 c o z.2 q) hf⟩
 self:=λA i s Q E st h=>by
  obtain⟨old,he⟩:=st.1;exact wpAny_pyIter_enum he h
section
variable {X:Cx} {elts:List Expr} {kk:Nat} {tp:Pos}
noncomputable def VF (K:Frag) (ta:TA):TI:=fun σ H R=>ta σ H λvs H1=>∃a xs,vs=[.ref a]/\aS K H1 a xs/\R (A5 K a) H1
theorem Nq:ZL "enumerate"=some (.type "enumerate"):=by decide +kernel
theorem ON {a:Expr} {ta:TA} {p pos:Pos} (hg:Gl X "enumerate") (hm:X.mg "enumerate"=none) (ha:PA X [a] ta) (hs:Zp [a] X.env=[(false,eval a X.env)]:=by rfl) :
  PI X (.Tuple elts kk tp) (.Call (.Name "enumerate" p) [a] [] pos) (VF X.K ta):=by
 intro pins s σ H R I h;refine Call_ (lq I hg hm Nq (aak (aF (ha pos pins s σ H _ I h) λus s1 ⟨vs,H1,I1,r1,q1⟩=>?_) hs rfl));obtain⟨a,xs,e,hx,q⟩:=q1;subst e;obtain⟨u,rfl,ru⟩:=vals1 r1;cases ru;obtain⟨i1,_,p1,_⟩:=I1.tuple hx;refine HZ.KY (items:=i1.toArray) p1 λh' c1 c2 c3 c4=>?_
 refine wpAny_pyIter_enum (s:={ s1 with heap:=h' }) c1 ?_
 refine⟨_,[s1.heap.objs.size+1,s1.heap.objs.size],_,_,H1,rfl,I1.kept (t':=s1.toks) c4,Mv a _ _ (Zn (aaZ _)),⟨⟨_,c1⟩,c2⟩,λb hb=>?_,q⟩;have fu:s1.heap.objs.size<=b:=by
  have z:b=s1.heap.objs.size+1\/b=s1.heap.objs.size:=by simpa using hb
  rcases z with z|z
  ·rw[z];exact acq _
  ·rw[z];exact Nat.le_refl _
 exact I1.ow fu (I1.aG.fresh fu)
end
end L2
namespace L2
open PySem PySem.Spec PyProof.Rows
section
variable {K:Frag} {caps:St} {H:Hp} {tf:TT} {te:TE} {Q:VK}
end
end L2
namespace HZ
open PySem PySem.Spec PyProof.Rows
theorem Kw:fillsNumberSlot (.type "tuple") "mul"=pure false:=by
 first|rfl | (unfold fillsNumberSlot;kernel_rfl)|kernel_rfl
theorem La:seqRepeat? (.type "tuple")=pure (some (.builtin "tuple.__mul__")):=by
 first|rfl|kernel_rfl
theorem Mw (a:Int) (t:Tok) (l:Addr) (items:Array Value) (n:Nat) (d:Option Addr) (sl:Array (Option Value)) :
  Meets (aaY.«int.__rmul__» ⟨[.int a t,.ref l],[]⟩) (λ_ R s=>s.heap.get? l=some { cls:=.type "tuple",dict:=d,data:=.seq items n,slots:=sl }/\R (.ok (.ret Value.notImplemented)) s) :=
 .of_wp λprog w A R s h=>by
  obtain⟨h1,h2,h3,h4,h5⟩:=s;obtain⟨hl,h⟩:=h;wp_walk;exact⟨_,rfl,h⟩
section
variable {P:ZE} {w:World} {A:ZX} {E:Value->Y4->Prop} {s:Y4}
theorem Qs (ht:IsTup s.heap t vs.toArray) (hv:vs≠[]) (hk:1<=k) (hz:vs.length*k.toNat<=Zf)
 (h1:k=1->Q (.ref t) s) (h2:k≠1->Q (.ref s.heap.objs.size) { s with heap:=s.heap.push { cls:=.type "tuple",data:=.seq (Za k.toNat vs).flatten.toArray } }) :
  wpAny (model P w) A (aaO .Mult (.ref t) (.int k tk)) Q E s:=by
 obtain⟨⟨cls,dd,data,sl⟩,ho,hc,n,hd⟩:=id ht;simp only at hc hd;subst hc hd;have nk:k<=16777216:=by
  have hl:1<=vs.length:=by
   cases vs with
   |nil=>exact absurd rfl hv
   |cons a r=>simp
  have kK:vs.length*k.toNat<=16777216:=by rw[<- abB];exact hz
  have:1*k.toNat<=vs.length*k.toNat:=ada _ hl;omega
 refine wpAny_binaryOp_repeat_ref (T:="tuple") (U:="int") (by decide) ⟨_,ho,rfl⟩ (λs'=>typeIs_int s' k tk) Kw F.fills_int_mul adl La F.slot_int_index.lookup
  (call_meets adl (typeIs_int s k tk) F.entry_int_rmul (F.args_int_rmul_2 _ _) (Mw k tk t vs.toArray n dd sl) ⟨ho,rfl,⟨_,ho,rfl⟩,?_⟩)
 refine ZI F.slot_tuple_mul ⟨_,ho,rfl⟩ F.entry_tuple_mul ?_ (F.args_tuple_mul_2 _ _);show wpAny _ _ (asIndex (.int k tk) >>= _) _ _ _;refine YX ?_
 refine abD (a:=k) (by first|rfl | (unfold asIndex;rfl)) ?_
 dsimp only;rw[if_neg (by simp;omega)];unfold aaP;refine YX (YX (aaC ho rfl ?_));refine YZ ?_;have ne:vs.toArray.isEmpty=false:=by
  cases vs with
  |nil=>exact absurd rfl hv
  |cons a r=>simp
 by_cases h:k=1
 ·rw[if_pos (by rw[h];simp)]
  unfold ab2;refine YX (YX (acu (T:="tuple") ⟨_,ho,rfl⟩ (YZ ?_)));rw[if_pos (by decide)];exact YX (aa5 (YZ ⟨_,rfl,h1 h⟩))
 ·rw[if_neg (by rw[ne];simp[h])]
  rw[if_neg (by rw[ne];simp;omega)];have hm:(vs.toArray.size:Int)*k=((vs.length*k.toNat:Nat):Int):=by
   rw[Zg,Int.natCast_mul];congr 1;omega
  have BO:vs.length*k.toNat<=16777216:=by rw[<- abB];exact hz
  rw[if_neg (by rw[hm];omega)];rw[if_neg (by
   unfold Builtin.Tuple.tupleTooMany;rw[hm,abB,decide_eq_true_eq];generalize vs.length*k.toNat=q at BO;omega)]
  unfold aal;have e:List.foldl (λx1 x2=>x1++x2) #[] (Za k.toNat vs.toArray)=(Za k.toNat vs).flatten.toArray:=by
   have:=L2.foldl_rep vs k.toNat [];rw[aaB] at this;exact this
  rw[e];refine YX (Zt ?_ (by
   show (ac2 _).size<=Zf;rw[Zg,L2.len_rep,Nat.mul_comm];exact hz))
  exact YZ ⟨_,rfl,h2 h⟩
end
end HZ
namespace L2
open PySem PySem.Spec PyProof.Rows
section
variable {X:Cx}
noncomputable def Ur (K:Frag):R2:=λx y H Q=>∃a xs k,x=.ref a/\y=.int k/\aS K H a xs/\xs≠[]/\1<=k/\xs.length*k.toNat<=Zf/\lR K H (Za k.toNat xs).flatten Q
theorem Qt:bj X (aaO .Mult) (Ur X.K):=by
 intro pins s σ H x y v u Q I rx ry h;obtain⟨a,xs,k,rfl,rfl,hs,hx,hk,hz,q⟩:=h;cases rx;obtain⟨t,rfl⟩:=ry;obtain⟨its,r,p,z⟩:=I.tuple hs;have hl:=r.length;refine HZ.Qs p (λe=>hx (by rw[e] at hl;exact acC.mp hl)) hk (by rw[<- hl];exact hz) (λe=>?_) (λ_=>?_)
 ·have e1:(Za k.toNat xs).flatten=xs:=by rw[e];simp
  rw[e1] at q;exact⟨.ref a,H,I,rfl,q.here hs⟩
 ·have kK:(Za k.toNat xs).flatten.length<=Zf:=by rw[len_rep,Nat.mul_comm];exact hz
  exact⟨.ref _,_,I.laid (t':=s.toks) (o:=.tup (Za k.toNat xs).flatten) (λb o e=>YY _ e) (Nat.le_refl _) ⟨kK,_,r.rep k.toNat,⟨_,Y6 _ rfl,rfl,_,rfl⟩⟩,rfl,q.new (I.aG.fresh (Nat.le_refl _))⟩
end
end L2
namespace HZ
open PySem PySem.Spec PyProof.Rows
theorem Gm:mroOf (.type "reversed")=pure [.type "reversed",.type "object"]:=by rw[mroOf_type];kernel_rfl
theorem KN:typeLookup (.type "reversed") "__new__"=pure (some (.builtin "reversed.__new__")):=by rw[typeLookup_type,ac3];kernel_rfl
theorem OO:Bind.madeBy (.type "reversed")=pure (some "reversed.__new__"):=madeBy_type Gm KN (by decide +kernel)
theorem KZ:entryFor table "reversed.__new__"=some aaY.«reversed.__new__»:=entryFor_of_tree (by kernel_rfl)
theorem K0:plainId "reversed.__new__"=true:=by decide +kernel
theorem Lb (a:Value):checkTypeCall "reversed" ⟨[a],[]⟩=pure ():=by kernel_rfl
theorem LN (a:Value):checkBuiltinCall "reversed.__new__" ⟨[.type "reversed",a],[]⟩=pure ():=by kernel_rfl
theorem Qu:isSubtype (.type "reversed") (.type "reversed")=pure true:=by rw[isSubtype_type];kernel_rfl
theorem Mx:isSubtype (.type "range_iterator") (.type "reversed")=pure false:=by rw[isSubtype_type];kernel_rfl
theorem Lc:(aaV "reversed"==aaV "type")=false:=by decide +kernel
theorem Qv:((Manifest.find? "reversed").bind (·.mro.findSome? λt=>(Manifest.find? t).bind λb=>if b.noNew then some true else if b.attrs.any (·.1=="__new__") then some false else none)).getD false=false:=by decide +kernel
section
variable {P:ZE} {w:World} {A:ZX} {E:Value->Y4->Prop} {s:Y4}
theorem Ld (hr:s.heap.get? r=some { cls:=.type "range",data:=.fields #[.int a t1,.int b t2,.int c t3] }) (h:Q (a,b,c) s):wpAny (model P w) A (adw (.ref r)) Q E s:=by
 unfold adw;refine YX (Z2 hr rfl (x:=.int a t1) rfl ?_);refine YX (abD (a:=some a) (by rfl) ?_);refine YX (Z2 hr rfl (x:=.int b t2) rfl ?_);refine YX (abD (a:=some b) (by rfl) ?_);refine YX (Z2 hr rfl (x:=.int c t3) rfl ?_);refine YX (abD (a:=some c) (by rfl) ?_);exact YZ h
theorem Qw {n:Nat} {Q:Value->Y4->Prop} (hr:s.heap.get? r=some { cls:=.type "range",data:=.fields #[.int 0 t1,.int n t2,.int 1 t3] }) (hn:n<2 ^ 62)
 (h:Q (.ref s.heap.objs.size) { s with heap:=s.heap.push { cls:=.type "range_iterator",data:=.fields #[aaH (n-1),aaH n,aaH (-1)] } }) :
  wpAny (model P w) A (aaY.«reversed.__new__» ⟨[.type "reversed",.ref r],[]⟩) (λfin s'=>∃v,fin=.done (.ret v)/\Q v s') E s:=by
 have hT:s.TypeIs (.ref r) "range":=⟨_,hr,rfl⟩;have ss:=Qu;unfold aaY.«reversed.__new__» Builtin.SmallTypes.newClass Builtin.SmallTypes.refuseKeywords;have l1:=abS.lookup;have l2:=abS.bind (.ref r)
 wp_walk
 refine aa3 (ab4 (R:=wants (λv s'=>v=.ref s.heap.objs.size/\s'={ s with heap:=s.heap.push { cls:=.type "range_iterator",data:=.fields #[aaH (n-1),aaH n,aaH (-1)] } }) E) abS.plain F.entry_range_reversed (abS.check _ _ _ _ _ _ _ _ hT (F.args_range_reversed_1 _) ?_)) λr2 s2 hq=>?_
 ·unfold aaY.«range.__reversed__»
  refine YX (abD (a:=.ref r) (by rfl) ?_);refine YX (Ld hr ?_);dsimp only;have sz:aa1 0 n 1=n:=by
   unfold aa1;rw[if_pos (by decide)]
   split<;>omega
  rw[sz];have fl:(aac 0&&aac n&&aac 1&&aac (-1)&&aac (0-1)&&aac n)=true:=by
   have Bo:(n:Int)<2 ^ 62:=by omega
   unfold aac;simp only[Y3,decide_eq_true_eq];refine⟨⟨⟨⟨⟨⟨by decide,by decide⟩,by omega,by omega⟩,by decide,by decide⟩,by decide,by decide⟩,by decide,by decide⟩,by omega,by omega⟩
  rw[fl];rw[if_neg (by decide)];refine YX (Zt ?_);refine YZ ?_;refine⟨rfl,?_⟩;have e:(0:Int)+((n:Int)-1)*1=n-1:=by omega
  simp[aaH]
 ·cases r2 with
  |error e=>exact hq
  |ok fl =>
   cases fl with
   |ret v =>
    obtain⟨rfl,rfl⟩:=hq;exact YZ ⟨_,rfl,h⟩
   |_=>exact hq
theorem OP {n:Nat} {Q:Value->Y4->Prop} (hr:s.heap.get? r=some { cls:=.type "range",data:=.fields #[.int 0 t1,.int n t2,.int 1 t3] }) (hn:n<2 ^ 62)
 (h:Q (.ref s.heap.objs.size) { s with heap:=s.heap.push { cls:=.type "range_iterator",data:=.fields #[aaH (n-1),aaH n,aaH (-1)] } }):wpAny (model P w) A (call (.type "reversed") [.ref r]) Q E s:=by
 have m1:=Gm;have m2:=OO;have m3:=Mx;have m4:=Lc;have m5:=Qv;have m6:=Lb (.ref r);refine wpAny_call (acA ?_);show wpAny _ _ (callAny (.type "reversed") _) _ _ _;refine YZ ⟨Code.quiet_builtin _ (by decide +kernel),aba F.entry_type_call ?_⟩;rw[ads (ac4 "reversed" [.ref r] []) rfl]
 repeat (any_goals (first|assumption|wp_step))
 refine aa3 (ab4 (R:=wants (λv s'=>v=.ref s.heap.objs.size/\s'={ s with heap:=s.heap.push { cls:=.type "range_iterator",data:=.fields #[aaH (n-1),aaH n,aaH (-1)] } }) E) K0 KZ (abD (LN _) ?_)) λr2 s2 hq=>?_
 ·refine aaQ (Qw (Q:=λv s'=>v=.ref s.heap.objs.size/\s'={ s with heap:=s.heap.push { cls:=.type "range_iterator",data:=.fields #[aaH (n-1),aaH n,aaH (-1)] } }) hr hn ⟨rfl,rfl⟩) (λf s' hf=>?_) λ_ _ e=>e
  obtain⟨v,rfl,hv⟩:=hf;exact hv
 ·cases r2 with
  |error e=>exact hq
  |ok fl =>
   cases fl with
   |ret v =>
    obtain⟨rfl,rfl⟩:=hq
    have hT:adA { s with heap:=s.heap.push { cls:=.type "range_iterator",data:=.fields #[aaH (n-1),aaH n,aaH (-1)] } } (.ref s.heap.objs.size) "range_iterator":=⟨_,Y6 _ rfl,rfl⟩
    repeat (any_goals (first|assumption|wp_step))
   |_=>exact hq.elim
end
end HZ
namespace L2
open PySem PySem.Spec PyProof.Rows
noncomputable def wN (n:Nat):It:=⟨λi _=>i<n,λi H x H'=>H'=H/\x=.int ((n:Int)-1-i),λi _=>n<=i⟩
theorem Fu {P:ZE} {w:World} {K:Frag} {tg:Expr} (it:Addr) (n:Nat):Turn P w K tg (wN n) [it] it (λi h=>IsRangeIter h it (((n:Int)-1)+(i:Nat)*(-1)) ((n:Int)-(i:Nat)) (-1)) where
 mem:=by simp
 obj:=λi h st b hb=>by
  have e:b=it:=by simpa using hb
  subst e;exact⟨_,st,λv z=>by
   have z':Data.fields _=Data.cell v:=z;cases z'⟩
 keep:=λi h h' st k=>k it (by simp) _ st
 item:=by
  intro X hP hw hK hc i pins s σ H E I hf st hg;subst hP hw hK;obtain⟨f0,f1,f2,f3,f4,f5⟩:=hf it (by simp);have W:=Walks.range (prog:=X.prog) (w:=X.w) (I.ok.hd hc) it ((n:Int)-1) (-1) n;refine W.item i s _ _ hg st λv h' tk hv dq kk=>?_;obtain⟨t,rfl⟩:=hv
  have I1:Inv X pins σ H { s with heap:=h',toks:=tk }:=I.turned (λb o hb e=>kk b o (by simpa using hb) e) f0 f1 f3 f4 f5
  refine⟨_,rfl,rT (s:={ s with heap:=h',toks:=tk }) (n:="range_iterator") dq rfl rfl (by decide) ⟨.int ((n:Int)-1-i),H,I1,⟨t,?_⟩,⟨rfl,rfl⟩,dq,λb hb=>(hf b hb).1⟩⟩
  rw[Int.mul_neg_one];rfl
 done:=by
  intro X hP hw hK hc i pins s σ H E I hf st hg;subst hP hw hK;obtain⟨f0,f1,f2,f3,f4,f5⟩:=hf it (by simp);exact wpAny_pyNext_range_end (I.ok.hd hc) st (by have:n<=i:=hg;omega) λh' eb=>⟨rfl,I.turned (t':=s.toks) (λb o hb e=>eb b o hb e) f0 f1 f3 f4 f5⟩
 self:=λ_ _ _ _ _ st h=>acH st h
section
variable {X:Cx} {tg:Expr}
theorem OQ:ZL "reversed"=some (.type "reversed"):=by decide +kernel
theorem LO:cf X (.type "range") (λxs H Q=>∃j:Int,xs=[.int j]/\∀p,H p=none->Q (.ref p) (upd H p (.cg 0 j))):=by
 intro pins s σ H xs us Q I r h;obtain⟨j,rfl,q⟩:=h;obtain⟨u,rfl,ru⟩:=vals1 r;obtain⟨t,rfl⟩:=ru;exact call_range_1 ⟨.ref _,_,I.laid (o:=.cg 0 j) (t':=s.toks+1+1) (λb o e=>YY _ e) (Nat.le_refl _) ⟨_,_,_,Y6 _ rfl⟩,rfl,q _ (I.aG.fresh (Nat.le_refl _))⟩
noncomputable def VG (ta:TA):TI:=fun σ H R=>ta σ H λvs H1=>∃(p:Addr) (n:Nat),vs=[.ref p]/\H1 p=some (.cg 0 n)/\n<2 ^ 62/\R (wN n) H1
theorem So {a:Expr} {ta:TA} {p pos:Pos} (hg:Gl X "reversed") (hm:X.mg "reversed"=none) (ha:PA X [a] ta) (hs:Zp [a] X.env=[(false,eval a X.env)]:=by rfl):PI X tg (.Call (.Name "reversed" p) [a] [] pos) (VG ta):=by
 intro pins s σ H R I h;refine Call_ (lq I hg hm OQ (aak (aF (ha pos pins s σ H _ I h) λus s1 ⟨vs,H1,I1,r1,q1⟩=>?_) hs rfl));obtain⟨c,n,e,hx,hn,q⟩:=q1;subst e;obtain⟨u,rfl,ru⟩:=vals1 r1;cases ru;obtain⟨t1,t2,t3,hr⟩:=I1.aG c _ hx;refine HZ.OP hr hn ?_;have st:IsRangeIter (s1.heap.push { cls:=.type "range_iterator",data:=.fields #[aaH ((n:Int)-1),aaH n,aaH (-1)] }) s1.heap.objs.size (((n:Int)-1)+((0:Nat):Int)*(-1)) ((n:Int)-((0:Nat):Int)) (-1):=by
  have e1:((n:Int)-1)+((0:Nat):Int)*(-1)=n-1:=by simp
  have e2:(n:Int)-((0:Nat):Int)=n:=by simp
  rw[e1,e2];exact Y6 _ rfl
 refine acH (s:={ s1 with heap:=_ }) st ?_
 refine⟨s1.heap.objs.size,[s1.heap.objs.size],_,_,H1,rfl,I1.kept (t':=s1.toks) λb o e=>YY _ e,Fu _ n,st,λb hb=>?_,q⟩;have e:b=s1.heap.objs.size:=by simpa using hb
 subst e;exact I1.ow (Nat.le_refl _) (I1.aG.fresh (Nat.le_refl _))
end
end L2
namespace HZ
open PySem PySem.Spec PyProof.Rows
section
variable {P:ZE} {w:World} {A:ZX} {R:Result->Y4->Prop} {I:Addr} {fp wr:List Addr} {n:Nat} {Pv:Nat->Value->Prop} {St:Nat->Heap->Prop} {kw:List (Str×Value)}
end
end HZ
namespace HZ
open PySem PySem.Spec PyProof.Rows
section
variable {P:ZE} {w:World} {A:ZX} {E:Value->Y4->Prop} {s:Y4}
end
end HZ
namespace L2
open PySem PySem.Spec PyProof.Rows
section
variable {X:Cx} {p pos kp:Pos} {e d:Expr} {ta tk:TA}
end
end L2
namespace DI
open PySem L2
set_option genInjectivity true in
inductive D where
 |aA|bl (b:Bool)|int (i:Int)|str (x:Str)|tup (ds:List D)|lst (ds:List D)|aW (ao:List (Key×Int))|aj (k:Nat)|ty (n:String)|bG (ns:List Int)
set_option genInjectivity true in
inductive Cell where
 |dead|lst (ds:List D)|dK (ao:List (Key×D))|dT (ao:List (D×Int))
noncomputable abbrev ag:=List Cell
noncomputable abbrev Env:=List (Option D)
structure bH where
 c:Str
 many:Option D
noncomputable abbrev Res (α:Type):=Option (Except bH α×ag)
noncomputable abbrev ok {α:Type} (a:α) (s:ag):Res α:=some (.ok a,s)
noncomputable def au {α β:Type} (r:Res α) (k:α->ag->Res β):Res β:=match r with
 |some (.ok a,s)=>k a s
 |some (.error x,s)=>some (.error x,s)
 |none=>none
@[simp] theorem fg {α β:Type} {a:α} {s:ag} {k:α->ag->Res β}:au (some (.ok a,s)) k=k a s:=rfl
structure Wd where
 ρ:List Addr
 aJ:ag
 H:Hp
def Wd.Z (w:Wd) (a:Addr):Prop:=∃(k:Nat) (c:Cell),w.ρ[k]?=some a/\w.aJ[k]?=some c/\c≠.dead
def LstAt (w:Wd) (a:Addr) (xs:List V):Prop:=¬ w.Z a/\w.H a=some (.lst xs)
theorem LstAt.sq (h:LstAt w a xs):bQ K w.H a xs:=bQ.of h.2
def rX (K:Frag) (w:Wd) (a:Addr) (xs:List V):Prop:=(¬ w.Z a/\Rd w.H a (.lst xs)) \/
 ∃(o:Obj) (its:Array Value) (n:Nat),K.lookup a=some o/\o.cls=.type "list"/\o.dict=none/\o.data=.seq its n/\its.size<=Zf/\Vals xs its.toList
theorem rX.sq (h:rX K w a xs):bQ K w.H a xs:=by
 rcases h with ⟨_,h⟩|h
 ·exact .inl h
 ·exact .inr h
mutual
noncomputable def DV (K:Frag) (w:Wd):D->V->Prop
 | .aA,v=>v=.aA
 | .bl b,v=>v=.bl b
 | .int i,v=>v=.int i
 | .str x,v=>v=.str x
 | .tup ds,v=>∃a xs,v=.ref a/\aS K w.H a xs/\aw K w ds xs
 | .lst ds,v=>∃a xs,v=.ref a/\LstAt w a xs/\aw K w ds xs
 | .aW ao,v=>∃a,v=.ref a/\¬ w.Z a/\w.H a=some (.dK (ao.map λp=>(p.1,V.int p.2)))
 | .aj k,v=>∃a,w.ρ[k]?=some a/\v=.ref a
 | .ty n,v=>v=.ty n
 | .bG ns,v=>∃a,v=.ref a/\rX K w a (ns.map V.int)
noncomputable def aw (K:Frag) (w:Wd):List D->List V->Prop
 | [],vs=>vs=[]
 |d::ds,vs=>∃v r,vs=v::r/\DV K w d v/\aw K w ds r
end
structure Fw (K:Frag) (w w':Wd):Prop where
 BP:∀(k:Nat) a,w.ρ[k]?=some a->w'.ρ[k]?=some a
 tup:∀a xs,aS K w.H a xs->aS K w'.H a xs
 lst:∀a xs,¬ w.Z a->w.H a=some (.lst xs)->¬ w'.Z a/\w'.H a=some (.lst xs)
 cE:∀a o xs,¬ w.Z a->w.H a=some (.cE o (.lst xs))->¬ w'.Z a/\w'.H a=some (.cE o (.lst xs))
 aW:∀a es,¬ w.Z a->w.H a=some (.dK es)->¬ w'.Z a/\w'.H a=some (.dK es)
theorem Fw.Ij (S:Fw K w w') (h:LstAt w a xs):LstAt w' a xs:=S.lst a xs h.1 h.2
theorem Fw.Us (S:Fw K w w') (h:rX K w a xs):rX K w' a xs:=by
 rcases h with ⟨h1,h2 | ⟨o,h2⟩⟩|h
 ·have q:=S.lst a xs h1 h2
  exact .inl ⟨q.1,.inl q.2⟩
 ·have q:=S.cE a o xs h1 h2
  exact .inl ⟨q.1,.inr ⟨o,q.2⟩⟩
 ·exact .inr h
mutual
theorem DV.fw (S:Fw K w w'):∀{d:D} {v:V},DV K w d v->DV K w' d v
 | .aA,_,h=>h
 | .bl _,_,h=>h
 | .int _,_,h=>h
 | .str _,_,h=>h
 | .tup ds,v,h=>by
  simp only[DV] at h |-;obtain⟨a,xs,e,hq,r⟩:=h;exact⟨a,xs,e,S.tup a xs hq,aw.fw S r⟩
 | .lst ds,v,h=>by
  simp only[DV] at h |-;obtain⟨a,xs,e,hq,r⟩:=h;exact⟨a,xs,e,S.Ij hq,aw.fw S r⟩
 | .aW ao,v,h=>by
  simp only[DV] at h |-;obtain⟨a,e,hz,hq⟩:=h;obtain⟨h1,h2⟩:=S.aW a _ hz hq;exact⟨a,e,h1,h2⟩
 | .aj k,v,h=>by
  simp only[DV] at h |-;obtain⟨a,e,e2⟩:=h;exact⟨a,S.BP k a e,e2⟩
 | .ty _,_,h=>h
 | .bG ns,v,h=>by
  simp only[DV] at h |-;obtain⟨a,e,hq⟩:=h;exact⟨a,e,S.Us hq⟩
theorem aw.fw (S:Fw K w w'):∀{ds:List D} {vs:List V},aw K w ds vs->aw K w' ds vs
 | [],_,h=>h
 |d::ds,vs,h=>by
  simp only[aw] at h |-;obtain⟨v,r,e,h1,h2⟩:=h;exact⟨v,r,e,DV.fw S h1,aw.fw S h2⟩
end
structure Le (K:Frag) (w w':Wd):Prop where
 dv:∀d v,DV K w d v->DV K w' d v
 lst:∀a xs,LstAt w a xs->LstAt w' a xs
 tup:∀a xs,aS K w.H a xs->aS K w'.H a xs
noncomputable instance {K:Frag} {w w':Wd}:CoeFun (Le K w w') (λ_=>∀d v,DV K w d v->DV K w' d v):=⟨Le.dv⟩
theorem Le.refl (w:Wd):Le K w w:=⟨λ_ _ h=>h,λ_ _ h=>h,λ_ _ h=>h⟩
theorem Le.trans (h:Le K a b) (g:Le K b c):Le K a c:=⟨λd v x=>g.dv d v (h.dv d v x),λp xs x=>g.lst p xs (h.lst p xs x),λp xs x=>g.tup p xs (h.tup p xs x)⟩
theorem Fw.le (S:Fw K w w'):Le K w w':=⟨λ_ _ h=>h.fw S,λ_ _ h=>S.Ij h,S.tup⟩
theorem Le.all (h:Le K w w'):∀{ds:List D} {vs:List V},aw K w ds vs->aw K w' ds vs
 | [],_,x=>x
 |d::ds,vs,x=>by
  simp only[aw] at x |-;obtain⟨v,r,e,h1,h2⟩:=x;exact⟨v,r,e,h d v h1,Le.all h h2⟩
theorem aw.length:∀{ds:List D} {vs:List V},aw K w ds vs->ds.length=vs.length
 | [],vs,h=>by
  have e:vs=[]:=h;subst e;rfl
 |d::ds,vs,h=>by
  obtain⟨v,r,e,_,h2⟩:=h;subst e;simp[aw.length h2]
theorem aw.get:∀{ds:List D} {vs:List V},aw K w ds vs->∀(i:Nat) v,vs[i]?=some v->∃d,ds[i]?=some d/\DV K w d v
 | [],vs,h,i,v,e=>by
  have e':vs=[]:=h;subst e';simp at e
 |d::ds,vs,h,i,v,e=>by
  obtain⟨u,r,e',h1,h2⟩:=h;subst e'
  cases i with
  |zero =>
   have:u=v:=by simpa using e
   subst this;exact⟨d,rfl,h1⟩
  |succ i=>exact aw.get h2 i v (by simpa using e)
theorem aw.get':∀{ds:List D} {vs:List V},aw K w ds vs->∀(i:Nat) d,ds[i]?=some d->∃v,vs[i]?=some v/\DV K w d v
 | [],vs,h,i,d,e=>by simp at e
 |d::ds,vs,h,i,d',e=>by
  obtain⟨u,r,e',h1,h2⟩:=h;subst e'
  cases i with
  |zero =>
   have:d=d':=by simpa using e
   subst this;exact⟨u,rfl,h1⟩
  |succ i=>exact aw.get' h2 i d' (by simpa using e)
theorem aw.append:∀{ds es:List D} {vs ws:List V},aw K w ds vs->aw K w es ws->aw K w (ds++es) (vs++ws)
 | [],es,vs,ws,h,h'=>by
  have e:vs=[]:=h;subst e;exact h'
 |d::ds,es,vs,ws,h,h'=>by
  obtain⟨v,r,e,h1,h2⟩:=h;subst e;exact⟨v,r++ws,rfl,h1,aw.append h2 h'⟩
theorem aw.take:∀{ds:List D} {vs:List V} (n:Nat),aw K w ds vs->aw K w (ds.take n) (vs.take n)
 | [],vs,n,h=>by
  have e:vs=[]:=h;subst e;simp[aw]
 |d::ds,vs,0,h=>by simp[aw]
 |d::ds,vs,n+1,h=>by
  obtain⟨v,r,e,h1,h2⟩:=h;subst e;exact⟨v,r.take n,rfl,h1,aw.take n h2⟩
theorem aw.drop:∀{ds:List D} {vs:List V} (n:Nat),aw K w ds vs->aw K w (ds.drop n) (vs.drop n)
 | [],vs,n,h=>by
  have e:vs=[]:=h;subst e;simp[aw]
 |d::ds,vs,0,h=>h
 |d::ds,vs,n+1,h=>by
  obtain⟨v,r,e,h1,h2⟩:=h;subst e;exact aw.drop n h2
theorem aw.reverse:∀{ds:List D} {vs:List V},aw K w ds vs->aw K w ds.reverse vs.reverse
 | [],vs,h=>by
  have e:vs=[]:=h;subst e;simp[aw]
 |d::ds,vs,h=>by
  obtain⟨v,r,e,h1,h2⟩:=h;subst e;rw[acP,acP];exact aw.append (aw.reverse h2) ⟨v,[],rfl,h1,rfl⟩
theorem aw.set (hd:DV K w d v):∀{ds:List D} {vs:List V} (i:Nat),aw K w ds vs->aw K w (ds.set i d) (vs.set i v)
 | [],vs,i,h=>by
  have e:vs=[]:=h;subst e;simp[aw]
 |d'::ds,vs,0,h=>by
  obtain⟨u,r,e,h1,h2⟩:=h;subst e;exact⟨v,r,rfl,hd,h2⟩
 |d'::ds,vs,i+1,h=>by
  obtain⟨u,r,e,h1,h2⟩:=h;subst e;exact⟨u,r.set i v,rfl,h1,aw.set hd i h2⟩
theorem aw.one (h:DV K w d v):aw K w [d] [v]:=⟨v,[],rfl,h,rfl⟩
theorem aw.two (h:DV K w d v) (h':DV K w d' v'):aw K w [d,d'] [v,v']:=⟨v,_,rfl,h,aw.one h'⟩
theorem aw.ints:∀(ns:List Int),aw K w (ns.map D.int) (ns.map V.int)
 | []=>rfl
 |n::ns=>⟨.int n,_,rfl,rfl,aw.ints ns⟩
theorem aw.yv:∀{ns:List Int} {vs:List V},aw K w (ns.map D.int) vs->vs=ns.map V.int
 | [],_,h=>h
 |n::ns,vs,h=>by
  obtain⟨v,r,e,h1,h2⟩:=h;have e1:v=.int n:=h1;rw[e,e1,aw.yv h2];rfl
theorem aw.ze:∀{bs:List Bool} {vs:List V},aw K w (bs.map D.bl) vs->vs=bs.map V.bl
 | [],_,h=>h
 |n::ns,vs,h=>by
  obtain⟨v,r,e,h1,h2⟩:=h;have e1:v=.bl n:=h1;rw[e,e1,aw.ze h2];rfl
def DX (a:Addr) (es:List (Int×Addr)) (h:Heap):Prop:=(a==aaJ)=false/\∃(o:Obj) (xs:Array ady) (ep:Nat),h.get? a=some o/\o.ExactDict/\o.data=.dict xs ep/\xs.toList=es.map λp=>(⟨p.1,.ref p.2,.bool true⟩:ady)
noncomputable def qa (K:Frag) (w:Wd) (a:Addr):Cell->Prop
 | .dead=>True
 | .lst ds=>∃xs,w.H a=some (.lst xs)/\aw K w ds xs
 | .dK ao=>∃es:List (Key×V),w.H a=some (.dK es)/\es.map (·.1)=ao.map (·.1)/\aw K w (ao.map (·.2)) (es.map (·.2))
 | .dT ao=>∃as:List Addr,w.H a=some (.ext (DX a ((ao.map (·.2)).zip as)))/\aw K w (ao.map (·.1)) (as.map V.ref)/\(ao.map (·.1)).Nodup
structure aN (K:Frag) (w:Wd):Prop where
 len:w.ρ.length=w.aJ.length
 nd:w.ρ.Nodup
 there:∀(k:Nat) a,w.ρ[k]?=some a->w.H a≠none
 cell:∀(k:Nat) a c,w.ρ[k]?=some a->w.aJ[k]?=some c->qa K w a c
theorem qa.le (h:qa K w a c) (le:Le K w w') (e:c≠.dead->w'.H a=w.H a):qa K w' a c:=by
 cases c with
 |dead=>trivial
 |lst ds =>
  obtain⟨xs,h1,h2⟩:=h;exact⟨xs,(e (by intro z;cases z)).trans h1,le.all h2⟩
 |dK ao =>
  obtain⟨es,h1,h2,h3⟩:=h;exact⟨es,(e (by intro z;cases z)).trans h1,h2,le.all h3⟩
 |dT ao =>
  obtain⟨as,h1,h2,h3⟩:=h;exact⟨as,(e (by intro z;cases z)).trans h1,le.all h2,h3⟩
section
variable {K:Frag} {w:Wd}
noncomputable def Wd.grow (w:Wd) (p:Addr) (o:HO):Wd:={ w with H:=upd w.H p o }
theorem Rd.grow (hp:H p=none) (h:Rd H a u):Rd (upd H p o) a u:=by
 rcases h with h | ⟨ob,h⟩
 ·exact .inl (by rw[bq (eO h hp)];exact h)
 ·exact .inr ⟨ob,by rw[bq (eO h hp)];exact h⟩
theorem aS.grow (hp:H p=none) (h:aS K H a xs):aS K (upd H p o) a xs:=by
 rcases h with h|h
 ·exact .inl (Rd.grow hp h)
 ·exact .inr h
theorem Fw.grow (hp:w.H p=none):Fw K w (w.grow p o) where
 BP:=λ_ _ e=>e
 tup:=λa xs h=>aS.grow hp h
 lst:=λa xs hz h=>⟨hz,by show upd w.H p o a=_;rw[bq (eO h hp)];exact h⟩
 cE:=λa ob xs hz h=>⟨hz,by show upd w.H p o a=_;rw[bq (eO h hp)];exact h⟩
 aW:=λa es hz h=>⟨hz,by show upd w.H p o a=_;rw[bq (eO h hp)];exact h⟩
theorem aN.grow (S:aN K w) (hp:w.H p=none):aN K (w.grow p o) where
 len:=S.len
 nd:=S.nd
 there:=λk a e=>by
  have h:=S.there k a e;show upd w.H p o a≠none;unfold upd;split
  ·intro z;cases z
  ·exact h
 cell:=λk a c e1 e2=>(S.cell k a c e1 e2).le (Fw.grow hp).le λ_=>by
  have h:=S.there k a e1;show upd w.H p o a=w.H a;rw[bq];intro z;rw[z] at h;exact h hp
noncomputable def Wd.cell (w:Wd) (p:Addr) (o:HO) (c:Cell):Wd:=⟨w.ρ++[p],w.aJ++[c],upd w.H p o⟩
theorem Wd.zF (S:aN K w) (h:(w.cell p o c).Z a):w.Z a\/a=p:=by
 obtain⟨k,c',e1,e2,e3⟩:=h;have e1:(w.ρ++[p])[k]?=some a:=e1;have e2:(w.aJ++[c])[k]?=some c':=e2;by_cases hk:k<w.ρ.length
 ·rw[Zm hk] at e1
  rw[Zm (by rw[<- S.len];exact hk)] at e2;exact .inl ⟨k,c',e1,e2,e3⟩
 ·rw[ZK (by omega)] at e1
  right
  cases hj:k-w.ρ.length with
  |zero=>rw[hj] at e1;exact(Option.some.inj e1).symm
  |succ j=>rw[hj] at e1;cases e1
theorem Fw.cell (S:aN K w) (hp:w.H p=none):Fw K w (w.cell p o c) where
 BP:=λk a e=>by
  show (w.ρ++[p])[k]?=some a;rw[Zm (Y0.mp e).1];exact e
 tup:=λa xs h=>aS.grow hp h
 lst:=λa xs hz h=>⟨λz=>(Wd.zF S z).elim hz (λe=>by (subst e;rw[hp] at h;cases h)),by show upd w.H p o a=_;rw[bq (eO h hp)];exact h⟩
 cE:=λa ob xs hz h=>⟨λz=>(Wd.zF S z).elim hz (λe=>by (subst e;rw[hp] at h;cases h)),by show upd w.H p o a=_;rw[bq (eO h hp)];exact h⟩
 aW:=λa es hz h=>⟨λz=>(Wd.zF S z).elim hz (λe=>by (subst e;rw[hp] at h;cases h)),by show upd w.H p o a=_;rw[bq (eO h hp)];exact h⟩
theorem aN.wo (S:aN K w) (hp:w.H p=none) (hc:qa K (w.cell p o c) p c):aN K (w.cell p o c) where
 len:=by show (w.ρ++[p]).length=(w.aJ++[c]).length;simp[S.len]
 nd:=by
  show (w.ρ++[p]).Nodup;rw[abY];refine⟨S.nd,by simp,λa ha b hb=>?_⟩;obtain⟨k,e⟩:=List.getElem?_of_mem ha;have h:=S.there k a e;have e':b=p:=by simpa using hb
  rw[e'];intro z;rw[z] at h;exact h hp
 there:=λk a e=>by
  have e:(w.ρ++[p])[k]?=some a:=e;show upd w.H p o a≠none;unfold upd;split
  ·intro z;cases z
  ·rename_i dN
   by_cases hk:k<w.ρ.length
   ·rw[Zm hk] at e
    exact S.there k a e
   ·rw[ZK (by omega)] at e
    cases hj:k-w.ρ.length with
    |zero=>rw[hj] at e;exact absurd (Option.some.inj e).symm dN
    |succ j=>rw[hj] at e;cases e
 cell:=λk a c' e1 e2=>by
  have e1:(w.ρ++[p])[k]?=some a:=e1;have e2:(w.aJ++[c])[k]?=some c':=e2;by_cases hk:k<w.ρ.length
  ·rw[Zm hk] at e1
   rw[Zm (by rw[<- S.len];exact hk)] at e2;refine(S.cell k a c' e1 e2).le (Fw.cell S hp).le λ_=>?_;have h:=S.there k a e1;show upd w.H p o a=w.H a;rw[bq];intro z;rw[z] at h;exact h hp
  ·rw[ZK (by omega)] at e1
   rw[ZK (by rw[<- S.len];omega)] at e2;rw[<- S.len] at e2
   cases hj:k-w.ρ.length with
   |zero =>
    rw[hj] at e1 e2;have e1:p=a:=Option.some.inj e1;have e2:c=c':=Option.some.inj e2;subst e1 e2;exact hc
   |succ j=>rw[hj] at e1;cases e1
noncomputable def Wd.same (w:Wd) (H':Hp):Wd:={ w with H:=H' }
theorem Fw.same (e:jO w.H H'):Fw K w (w.same H') :=
 ⟨λ_ _ e=>e,λa xs h=>e.Wf h,λa xs hz h=>⟨hz,e _ _ h⟩,λa o xs hz h=>⟨hz,e _ _ h⟩,λa es hz h=>⟨hz,e _ _ h⟩⟩
theorem aN.same (S:aN K w) (e:jO w.H H'):aN K (w.same H') where
 len:=S.len
 nd:=S.nd
 there:=λk a q=>by
  have h:=S.there k a q;show H' a≠none
  cases hq:w.H a with
  |none=>exact absurd hq h
  |some o=>rw[e _ _ hq];intro z;cases z
 cell:=λk a c e1 e2=>(S.cell k a c e1 e2).le (Fw.same e).le λ_=>by
  have h:=S.there k a e1;show H' a=w.H a
  cases hq:w.H a with
  |none=>exact absurd hq h
  |some o=>exact e _ _ hq
noncomputable def Wd.put (w:Wd) (k:Nat) (a:Addr) (o:HO) (c:Cell):Wd:=⟨w.ρ,w.aJ.set k c,upd w.H a o⟩
theorem DN {α:Type} {l:List α} (nd:l.Nodup) {i j:Nat} {a:α} (h1:l[i]?=some a) (h2:l[j]?=some a):i=j:=by
 exact(List.getElem?_inj (Y0.mp h1).1 nd).mp (h1.trans h2.symm)
theorem Wd.Am (h0:w.ρ[k]?=some a) (h1:w.aJ[k]?=some c0) (h2:c0≠.dead) (h:(w.put k a o c).Z b):w.Z b:=by
 obtain⟨j,c',e1,e2,e3⟩:=h;have e1:w.ρ[j]?=some b:=e1;have e2:(w.aJ.set k c)[j]?=some c':=e2;by_cases hj:k=j
 ·subst hj
  exact⟨k,c0,e1,h1,h2⟩
 ·rw[Ze hj] at e2
  exact⟨j,c',e1,e2,e3⟩
theorem Fw.put (S:aN K w) (h0:w.ρ[k]?=some a) (h1:w.aJ[k]?=some c0) (h2:c0≠.dead):Fw K w (w.put k a o c):=by
 have hz:w.Z a:=⟨k,c0,h0,h1,h2⟩;have nt:∀xs,¬ Rd w.H a (.tup xs):=λxs h=>by
  have q:=S.cell k a c0 h0 h1
  cases c0 with
  |dead=>exact h2 rfl
  |lst ds=>obtain⟨ys,e,_⟩:=q;rcases h with h | ⟨_,h⟩<;>(rw[e] at h;cases h)
  |dK ao=>obtain⟨ys,e,_⟩:=q;rcases h with h | ⟨_,h⟩<;>(rw[e] at h;cases h)
  |dT ao=>obtain⟨ys,e,_⟩:=q;rcases h with h | ⟨_,h⟩<;>(rw[e] at h;cases h)
 refine⟨λ_ _ e=>e,λb xs h=>?_,λb xs hb h=>⟨λz=>hb (Wd.Am h0 h1 h2 z),?_⟩,λb ob xs hb h=>⟨λz=>hb (Wd.Am h0 h1 h2 z),?_⟩,λb es hb h=>⟨λz=>hb (Wd.Am h0 h1 h2 z),?_⟩⟩
 ·rcases h with h|h
  ·have ne:b≠a:=λe=>by subst e;exact nt xs h
   refine .inl ?_
   rcases h with h | ⟨ob,h⟩
   ·exact .inl (by show upd w.H a o b=_;rw[bq ne];exact h)
   ·exact .inr ⟨ob,by show upd w.H a o b=_;rw[bq ne];exact h⟩
  ·exact .inr h
 ·have ne:b≠a:=λe=>by subst e;exact hb hz
  show upd w.H a o b=_;rw[bq ne];exact h
 ·have ne:b≠a:=λe=>by subst e;exact hb hz
  show upd w.H a o b=_;rw[bq ne];exact h
 ·have ne:b≠a:=λe=>by subst e;exact hb hz
  show upd w.H a o b=_;rw[bq ne];exact h
theorem aN.A6 {k:Nat} {a:Addr} {o:HO} {c c0:Cell} (S:aN K w) (h0:w.ρ[k]?=some a) (h1:w.aJ[k]?=some c0) (h2:c0≠.dead) (hc:qa K (w.put k a o c) a c):aN K (w.put k a o c) where
 len:=by show w.ρ.length=(w.aJ.set k c).length;rw[ZU];exact S.len
 nd:=S.nd
 there:=λj b e=>by
  show upd w.H a o b≠none;unfold upd;split
  ·intro z;cases z
  ·exact S.there j b e
 cell:=λj b c' e1 e2=>by
  have e1:w.ρ[j]?=some b:=e1;have e2:(w.aJ.set k c)[j]?=some c':=e2;by_cases hj:k=j
  ·subst hj
   rw[h0] at e1;have e1:a=b:=Option.some.inj e1;rw[Zi (Y0.mp h1).1] at e2;have e2:c=c':=Option.some.inj e2;subst e1 e2;exact hc
  ·rw[Ze hj] at e2
   refine(S.cell j b c' e1 e2).le (Fw.put S h0 h1 h2).le λ_=>?_;show upd w.H a o b=w.H b;rw[bq];intro z;subst z;exact hj (DN S.nd h0 e1)
noncomputable def Wd.freeze (w:Wd) (k:Nat):Wd:={ w with aJ:=w.aJ.set k .dead }
theorem Wd.yw (h:(w.freeze k).Z b):w.Z b:=by
 obtain⟨j,c',e1,e2,e3⟩:=h;have e2:(w.aJ.set k .dead)[j]?=some c':=e2;by_cases hj:k=j
 ·subst hj
  have hl:=(Y0.mp e2).1;rw[ZU] at hl;rw[Zi hl] at e2;exact absurd (Option.some.inj e2).symm e3
 ·rw[Ze hj] at e2
  exact⟨j,c',e1,e2,e3⟩
theorem Fw.freeze:Fw K w (w.freeze k) :=
 ⟨λ_ _ e=>e,λ_ _ h=>h,λ_ _ hz h=>⟨λz=>hz (Wd.yw z),h⟩,λ_ _ _ hz h=>⟨λz=>hz (Wd.yw z),h⟩,λ_ _ hz h=>⟨λz=>hz (Wd.yw z),h⟩⟩
theorem aN.freeze (S:aN K w):aN K (w.freeze k) where
 len:=by show w.ρ.length=(w.aJ.set k .dead).length;rw[ZU];exact S.len
 nd:=S.nd
 there:=S.there
 cell:=λj b c' e1 e2=>by
  have e2:(w.aJ.set k .dead)[j]?=some c':=e2;by_cases hj:k=j
  ·subst hj
   have hl:=(Y0.mp e2).1;rw[ZU] at hl;rw[Zi hl] at e2;rw[<- Option.some.inj e2];trivial
  ·rw[Ze hj] at e2
   exact(S.cell j b c' e1 e2).le Fw.freeze.le λ_=>rfl
theorem Wd.Nr {k:Nat} {a:Addr} (S:aN K w) (h:w.ρ[k]?=some a):¬ (w.freeze k).Z a:=by
 rintro ⟨j,c',e1,e2,e3⟩;have e1:w.ρ[j]?=some a:=e1;have e2:(w.aJ.set k .dead)[j]?=some c':=e2;have hj:=DN S.nd h e1;subst hj;have hl:=(Y0.mp e2).1;rw[ZU] at hl;rw[Zi hl] at e2;exact e3 (Option.some.inj e2).symm
end
structure bZ (K:Frag) (w:Wd) (env:Env) (σ:St):Prop where
 len:env.length=σ.length
 val:∀(i:Nat) d,env[i]?=some (some d)->∃v,σ[i]?=some (some v)/\DV K w d v
theorem bZ.le (h:bZ K w env σ) (le:Le K w w'):bZ K w' env σ :=
 ⟨h.len,λi d e=>by obtain⟨v,e1,e2⟩:=h.val i d e;exact⟨v,e1,le d v e2⟩⟩
theorem bZ.set (h:bZ K w env σ) (hd:DV K w d v) (i:Nat):bZ K w (env.set i (some d)) (σ.set i (some v)):=by
 refine⟨by rw[ZU,ZU];exact h.len,λj d' e=>?_⟩;by_cases hj:i=j
 ·subst hj
  have hl:=(Y0.mp e).1;rw[ZU] at hl;rw[Zi hl] at e;have e:d=d':=Option.some.inj (Option.some.inj e);subst e;exact⟨v,by rw[Zi (by rw[<- h.len];exact hl)],hd⟩
 ·rw[Ze hj] at e
  rw[Ze hj];exact h.val j d' e
def Out (K:Frag) (Ξ:Wd->bH->Prop) (w:Wd) {α:Type} (r:Res α) (k:Wd->α->Prop):Prop:=match r with
 |none=>False
 |some (.ok a,s)=>∀w',Le K w w'->aN K w'->w'.aJ=s->k w' a
 |some (.error x,s)=>∀w',Le K w w'->aN K w'->w'.aJ=s->Ξ w' x
section
variable {K:Frag} {Ξ:Wd->bH->Prop} {w w':Wd} {α β:Type} {r:Res α} {k k':Wd->α->Prop}
theorem Out.from (h:Out K Ξ w r k) (le:Le K w w'):Out K Ξ w' r k:=by
 unfold Out at h |-
 split<;>simp only at h
 ·exact λw2 l2 o2 e2=>h w2 (le.trans l2) o2 e2
 ·exact λw2 l2 o2 e2=>h w2 (le.trans l2) o2 e2
theorem Out.mono (h:Out K Ξ w r k) (hk:∀w2 a,Le K w w2->aN K w2->k w2 a->k' w2 a):Out K Ξ w r k':=by
 unfold Out at h |-
 split<;>simp only at h
 ·exact λw2 l2 o2 e2=>hk w2 _ l2 o2 (h w2 l2 o2 e2)
 ·exact h
theorem Out.au {q:Wd->β->Prop} (h:Out K Ξ w (DI.au r g) q):Out K Ξ w r (λw2 a=>Out K Ξ w2 (g a w2.aJ) q):=by
 match r,h with
 |some (.ok a,s),h =>
  intro w2 l2 o2 e2;rw[e2];exact Out.from h l2
 |some (.error x,s),h=>exact h
theorem Out.done (h:Out K Ξ w (some (.ok a,w.aJ)) k) (S:aN K w):k w a:=h w (Le.refl w) S rfl
end
end DI
namespace DI
open PySem L2
noncomputable def tE (K:Frag) (Ξ:Wd->bH->Prop) (f:Env->ag->Res D):TE:=fun σ H Q=>∃w env,w.H=H/\aN K w/\bZ K w env σ/\Out K Ξ w (f env w.aJ) λw' d=>∀v,DV K w' d v->Q v w'.H
noncomputable def tT (K:Frag) (Ξ:Wd->bH->Prop) (f:Env->ag->Res Bool):TT:=fun σ H Q=>∃w env,w.H=H/\aN K w/\bZ K w env σ/\Out K Ξ w (f env w.aJ) λw' b=>Q b w'.H
noncomputable def tA (K:Frag) (Ξ:Wd->bH->Prop) (f:Env->ag->Res (List D)):TA:=fun σ H Q=>∃w env,w.H=H/\aN K w/\bZ K w env σ/\Out K Ξ w (f env w.aJ) λw' ds=>∀vs,aw K w' ds vs->Q vs w'.H
noncomputable def rO (K:Frag) (Ξ:Wd->bH->Prop) (o:D->D->ag->Res D):R2:=λx y H Q=>∃w dx dy,w.H=H/\aN K w/\DV K w dx x/\DV K w dy y/\Out K Ξ w (o dx dy w.aJ) λw' d=>∀v,DV K w' d v->Q v w'.H
noncomputable def rU (K:Frag) (Ξ:Wd->bH->Prop) (o:D->ag->Res D):V->Hp->VK->Prop:=λx H Q=>∃w dx,w.H=H/\aN K w/\DV K w dx x/\Out K Ξ w (o dx w.aJ) λw' d=>∀v,DV K w' d v->Q v w'.H
noncomputable def rC (K:Frag) (Ξ:Wd->bH->Prop) (o:List D->ag->Res D):List V->Hp->VK->Prop:=λxs H Q=>∃w ds,w.H=H/\aN K w/\aw K w ds xs/\Out K Ξ w (o ds w.aJ) λw' d=>∀v,DV K w' d v->Q v w'.H
noncomputable def aa (i:Nat):Env->ag->Res D:=λenv s=>match env[i]? with
 |some (some d)=>ok d s
 |_=>none
noncomputable def eC (d:D):Env->ag->Res D:=λ_ s=>ok d s
noncomputable def e1 (o:D->ag->Res D) (f:Env->ag->Res D):Env->ag->Res D:=λenv s=>au (f env s) λx s=>o x s
noncomputable def e2 (o:D->D->ag->Res D) (f g:Env->ag->Res D):Env->ag->Res D:=λenv s=>au (f env s) λx s=>au (g env s) λy s=>o x y s
noncomputable def ai:Env->ag->Res (List D):=λ_ s=>ok [] s
noncomputable def ae (f:Env->ag->Res D) (g:Env->ag->Res (List D)):Env->ag->Res (List D):=λenv s=>au (f env s) λx s=>au (g env s) λxs s=>ok (x::xs) s
noncomputable def eB (o:List D->ag->Res D) (f:Env->ag->Res (List D)):Env->ag->Res D:=λenv s=>au (f env s) λds s=>o ds s
noncomputable def iB {α:Type} (ds:List D) (r:Res α):Res α:=if ds.length<=Zf then r else none
noncomputable def bB (f:Env->ag->Res (List D)):Env->ag->Res D:=λenv s=>au (f env s) λds s=>iB ds (ok (.tup ds) s)
noncomputable def dR (f:Env->ag->Res (List D)):Env->ag->Res D:=λenv s=>au (f env s) λds s=>iB ds (ok (.lst ds) s)
noncomputable def eNew (f:Env->ag->Res (List D)):Env->ag->Res D:=λenv s=>au (f env s) λds s=>iB ds (ok (.aj s.length) (s++[.lst ds]))
noncomputable def cE:D->ag->Res D:=λd s=>match d with
 | .aj k=>match s[k]? with
  |some (.lst ds)=>ok (.lst ds) (s.set k .dead)
  |_=>none
 |_=>none
noncomputable def jn (f:Env->ag->Res D):Env->ag->Res D:=λenv s=>au (f env s) cE
noncomputable def gf (d:D) (s:ag):Res Bool:=match d with
 | .bl b=>ok b s
 |_=>none
noncomputable def aE (f:Env->ag->Res D):Env->ag->Res Bool:=λenv s=>au (f env s) gf
noncomputable def truth (d:D) (s:ag):Res Bool:=match d with
 | .aA=>ok false s
 | .bl b=>ok b s
 | .int i=>ok (i != 0) s
 | .str x=>if x.length<=Zf then ok ((x.length:Int) != 0) s else none
 | .tup ds=>ok (!ds.isEmpty) s
 | .lst ds=>ok (!ds.isEmpty) s
 | .aW ao=>ok (!ao.isEmpty) s
 | .aj k=>match s[k]? with
  |some (.lst ds)=>ok (!ds.isEmpty) s
  |some (.dK ao)=>ok (!ao.isEmpty) s
  |_=>none
 | .ty _=>none
 | .bG _=>none
noncomputable def dD (f:Env->ag->Res D):Env->ag->Res Bool:=λenv s=>au (f env s) truth
noncomputable def cv (f g:Env->ag->Res Bool):Env->ag->Res Bool:=λenv s=>au (f env s) λb s=>if b=true then g env s else ok false s
noncomputable def gu (f g:Env->ag->Res Bool):Env->ag->Res Bool:=λenv s=>au (f env s) λb s=>if b=true then ok true s else g env s
noncomputable def fF (f:Env->ag->Res Bool):Env->ag->Res Bool:=λenv s=>au (f env s) λb s=>ok (!b) s
noncomputable def cT (f g:Env->ag->Res D):Env->ag->Res D:=λenv s=>au (f env s) λx s=>au (gf x s) λb s=>if b=true then g env s else ok (.bl false) s
noncomputable def i6 (f g:Env->ag->Res D):Env->ag->Res D:=λenv s=>au (f env s) λx s=>au (gf x s) λb s=>if b=true then ok (.bl true) s else g env s
noncomputable def lS (f:Env->ag->Res D):Env->ag->Res D:=λenv s=>au (f env s) λx s=>au (gf x s) λb s=>ok (.bl (!b)) s
noncomputable def xy (c:Env->ag->Res Bool) (f g:Env->ag->Res D):Env->ag->Res D:=λenv s=>au (c env s) λb s=>if b=true then f env s else g env s
noncomputable def nr (o o':D->D->ag->Res D) (f g h:Env->ag->Res D):Env->ag->Res D:=λenv s=>au (f env s) λx s=>au (g env s) λy s=>au (o x y s) λz s=>au (gf z s) λb s =>
 if b=true then au (h env s) λu s=>o' y u s else ok (.bl false) s
section
variable {X:Cx} {Ξ:Wd->bH->Prop} {e a b c:Expr} {es rest:List Expr} {pos:Pos} {f g h:Env->ag->Res D} {fa:Env->ag->Res (List D)} {ft gt:Env->ag->Res Bool}
theorem cG {t t':TE} (h:PE X e t) (i:∀ σ H Q,t' σ H Q->t σ H Q):PE X e t':=λpins s σ H Q I hq=>h pins s σ H Q I (i σ H Q hq)
theorem v7 {t t':TT} (h:PT X e t) (i:∀ σ H Q,t' σ H Q->t σ H Q):PT X e t':=λpins s σ H Q I hq=>h pins s σ H Q I (i σ H Q hq)
theorem Hh {t t':TT} (h:PW X e t) (i:∀ σ H Q,t' σ H Q->t σ H Q):PW X e t':=λwh pins s σ H Q I hq=>h wh pins s σ H Q I (i σ H Q hq)
theorem Hi {t t':TA} (h:PA X es t) (i:∀ σ H Q,t' σ H Q->t σ H Q):PA X es t':=λp pins s σ H Q I hq=>h p pins s σ H Q I (i σ H Q hq)
theorem je (h:PS X st t) (i:∀D σ H,t' D σ H->t D σ H):PS X st t':=λpins s σ H D I hq=>h pins s σ H D I (i D σ H hq)
theorem Gn (h:eD X st t) (i:∀D σ H,t' D σ H->t D σ H):eD X st t':=λpins s σ H D I hq=>h pins s σ H D I (i D σ H hq)
theorem aK {α:Type} {K:Frag} {w:Wd} {a:α} {k:Wd->α->Prop} (S:aN K w) (h:Out K Ξ w (ok a w.aJ) k):k w a:=h w (Le.refl w) S rfl
theorem af (i:Nat) {x:Str} (hN:X.N[i]?=some x:=by rfl) (hv:sI X.env.scope x:=by first|exact aap rfl|exact Or.inr (aap rfl)|exact Or.inr (Or.inr rfl)) (hd:(x==("__debug__":Str))=false:=by decide)
  (jZ:(x==("__classdict__":Str))=false:=by decide):PE X (.Name x pos) (tE X.K Ξ (aa i)):=cG (RH hN hv hd jZ) fun σ H Q aB=>by
 obtain⟨w,env,eH,S,eo,h⟩:=aB;unfold aa at h;split at h
 ·rename_i d he
  obtain⟨v,e1,e2⟩:=eo.val i d he;subst eH;exact⟨v,e1,aK S h v e2⟩
 ·exact h.elim
theorem qi {d:D} {v:V} (h:PE X e (tC v)) (hd:∀w,DV X.K w d v):PE X e (tE X.K Ξ (eC d)):=cG h fun σ H Q aB=>by
 obtain⟨w,env,eH,S,eo,h⟩:=aB;subst eH;exact aK S h v (hd w)
theorem ax {i j}:PE X (.Constant (.int i) j pos) (tE X.K Ξ (eC (.int i))):=qi zA λ_=>rfl
theorem cN {b j}:PE X (.Constant (.bool b) j pos) (tE X.K Ξ (eC (.bl b))):=qi Tv λ_=>rfl
theorem Ik {j}:PE X (.Constant .none j pos) (tE X.K Ξ (eC .aA)):=qi RJ λ_=>rfl
theorem gE {x j}:PE X (.Constant (.str x) j pos) (tE X.K Ξ (eC (.str x))):=qi G3 λ_=>rfl
theorem vA (σ:St) (H:Hp) (Q:VK):tE K Ξ (e2 o f g) σ H Q->sX (rO K Ξ o) (tE K Ξ f) (tE K Ξ g) σ H Q:=by
 rintro ⟨w,env,rfl,S,eo,h⟩;exact⟨w,env,rfl,S,eo,(Out.au h).mono λw1 x l1 S1 h1 v1 fN=>⟨w1,env,rfl,S1,eo.le l1,(Out.au h1).mono λw2 y l2 S2 h2 v2 j8=>⟨w2,x,y,rfl,S2,l2 _ _ fN,j8,h2⟩⟩⟩
theorem bO (ho:bj X (aaO op) (rO X.K Ξ o)) (ha:PE X a (tE X.K Ξ f)) (hb:PE X b (tE X.K Ξ g)):PE X (.BinOp a op b pos) (tE X.K Ξ (e2 o f g)):=cG (TQ ho ha hb) vA
theorem cQ (ho:bj X (aag op) (rO X.K Ξ o)) (ha:PE X a (tE X.K Ξ f)) (hb:PE X b (tE X.K Ξ g)) (hm:acx op b=false):PE X (.Compare a [op] [b] pos) (tE X.K Ξ (e2 o f g)):=cG (P8 ho ha hb hm) vA
theorem Hj {K:Frag} (σ:St) (H:Hp) (Q:Bool->Hp->Prop):tT K Ξ (aE f) σ H Q->rV (tE K Ξ f) σ H Q:=by
 rintro ⟨w,env,rfl,S,eo,h⟩;refine⟨w,env,rfl,S,eo,(Out.au h).mono λw1 x l1 S1 h1 v1 fN=>?_⟩
 cases x with
 |bl b =>
  have e:v1=.bl b:=fN;exact⟨b,e,aK S1 h1⟩
 |_=>exact h1.elim
theorem Eo (i:∀ σ H Q,t' σ H Q->t σ H Q) (σ:St) (H:Hp) (Q:Bool->Hp->Prop):rV t' σ H Q->rV t σ H Q:=λh=>i _ _ _ h
theorem aZ (ho:bj X (aag op) (rO X.K Ξ o)) (ha:PE X a (tE X.K Ξ f)) (hb:PE X b (tE X.K Ξ g)) (hm:acx op b=false):PT X (.Compare a [op] [b] pos) (tT X.K Ξ (aE (e2 o f g))) :=
 v7 (P9 ho ha hb hm) fun σ H Q h=>Eo vA σ H Q (Hj σ H Q h)
theorem Hk {K:Frag} {o o':D->D->ag->Res D} (σ:St) (H:Hp) (Q:VK):tE K Ξ (nr o o' f g h) σ H Q->zB (rO K Ξ o) (rO K Ξ o') (tE K Ξ f) (tE K Ξ g) (tE K Ξ h) σ H Q:=by
 rintro ⟨w,env,rfl,S,eo,h⟩;refine⟨w,env,rfl,S,eo,(Out.au h).mono λw1 x l1 S1 h1 v1 fN=>⟨w1,env,rfl,S1,eo.le l1,(Out.au h1).mono λw2 y l2 S2 h2 v2 j8=>⟨w2,x,y,rfl,S2,l2 _ _ fN,j8,(Out.au h2).mono λw3 z l3 S3 h3 v3 BQ=>?_⟩⟩⟩;have h4:=Out.au h3
 cases z with
 |bl b =>
  have e:v3=.bl b:=BQ;have h5:=aK S3 h4;refine⟨b,e,?_⟩
  cases b with
  |true =>
   rw[if_pos rfl] at h5 |-;exact⟨w3,env,rfl,S3,eo.le (l1.trans (l2.trans l3)),(Out.au h5).mono λw4 u l4 S4 h6 v4 BR=>⟨w4,y,u,rfl,S4,(l3.trans l4) _ _ j8,BR,h6⟩⟩
  |false =>
   rw[if_neg Y7] at h5 |-;exact aK S3 h5 _ rfl
 |_=>exact h4.elim
theorem Gp (ho:bj X (aag op) (rO X.K Ξ o)) (cP:bj X (aag iY) (rO X.K Ξ o')) (ha:PE X a (tE X.K Ξ f)) (hb:PE X b (tE X.K Ξ g)) (hc:PE X c (tE X.K Ξ h))
 (hm:lastMarks [op,iY] [b,c]=false:=by with_unfolding_all rfl):PE X (.Compare a [op,iY] [b,c] pos) (tE X.K Ξ (nr o o' f g h)):=cG (Om ho cP ha hb hc hm) Hk
theorem Qx (ho:bj X (aag op) (rO X.K Ξ o)) (cP:bj X (aag iY) (rO X.K Ξ o')) (ha:PE X a (tE X.K Ξ f)) (hb:PE X b (tE X.K Ξ g)) (hc:PE X c (tE X.K Ξ h))
 (hm:lastMarks [op,iY] [b,c]=false:=by with_unfolding_all rfl):PT X (.Compare a [op,iY] [b,c] pos) (tT X.K Ξ (aE (nr o o' f g h))):=v7 (Oo ho cP ha hb hc hm) fun σ H Q h=>Eo Hk σ H Q (Hj σ H Q h)
theorem so (ho:sW X (unaryOp op) (rU X.K Ξ o)) (ha:PE X a (tE X.K Ξ f)):PE X (.UnaryOp op a pos) (tE X.K Ξ (e1 o f)):=cG (Ie ho ha) fun σ H Q aB=>by
 obtain⟨w,env,eH,S,eo,h⟩:=aB;subst eH;exact⟨w,env,rfl,S,eo,(Out.au h).mono λw1 x l1 S1 h1 v1 fN=>⟨w1,x,rfl,S1,fN,h1⟩⟩
theorem ak:PA X [] (tA X.K Ξ ai):=Hi lr fun σ H Q aB=>by
 obtain⟨w,env,eH,S,eo,h⟩:=aB;subst eH;exact aK S h _ rfl
theorem ah (ha:PE X e (tE X.K Ξ f)) (hr:PA X es (tA X.K Ξ fa)) (hs:Zp (e::es) X.env=(false,eval e X.env)::Zp es X.env:=by rfl):PA X (e::es) (tA X.K Ξ (ae f fa)):=Hi (jC ha hr hs) fun σ H Q aB=>by
 obtain⟨w,env,eH,S,eo,h⟩:=aB;subst eH;exact⟨w,env,rfl,S,eo,(Out.au h).mono λw1 x l1 S1 h1 v1 fN=>⟨w1,env,rfl,S1,eo.le l1,(Out.au h1).mono λw2 xs l2 S2 h2 vs ar=>aK S2 h2 _ ⟨v1,vs,rfl,l2 _ _ fN,ar⟩⟩⟩
theorem ra {α:Type} {K:Frag} {w:Wd} {ds:List D} {r:Res α} {k:Wd->α->Prop} (h:Out K Ξ w (iB ds r) k):ds.length<=Zf/\Out K Ξ w r k:=by
 unfold iB at h;split at h
 ·exact⟨by assumption,h⟩
 ·exact h.elim
theorem cA {x1} (ha:PA X es (tA X.K Ξ fa)):PE X (.Tuple es x1 pos) (tE X.K Ξ (bB fa)):=cG (G7 ha) fun σ H Q aB=>by
 obtain⟨w,env,eH,S,eo,h⟩:=aB;subst eH;refine⟨w,env,rfl,S,eo,(Out.au h).mono λw1 ds l1 S1 h1 vs ar=>?_⟩;obtain⟨hl,h2⟩:=ra h1;refine⟨by rw[<- ar.length];exact hl,λp hp=>?_⟩;exact h2 (w1.grow p (.tup vs)) (Fw.grow hp).le (S1.grow hp) rfl (.ref p) ⟨p,vs,rfl,aS.of cF,(Fw.grow hp).le.all ar⟩
theorem lu {K:Frag} {w:Wd} {p:Addr} (S:aN K w) (hp:w.H p=none):¬ w.Z p:=λ⟨k,c,e1,_,_⟩=>S.there k p e1 hp
theorem fX (ha:PA X es (tA X.K Ξ fa)):PE X (.List es pos) (tE X.K Ξ (dR fa)):=cG (G8 ha) fun σ H Q aB=>by
 obtain⟨w,env,eH,S,eo,h⟩:=aB;subst eH;refine⟨w,env,rfl,S,eo,(Out.au h).mono λw1 ds l1 S1 h1 vs ar=>?_⟩;obtain⟨hl,h2⟩:=ra h1;refine⟨by rw[<- ar.length];exact hl,λp hp=>?_⟩;exact h2 (w1.grow p (.lst vs)) (Fw.grow hp).le (S1.grow hp) rfl (.ref p) ⟨p,vs,rfl,⟨(show ¬ w1.Z p from lu S1 hp),cF⟩,(Fw.grow hp).le.all ar⟩
theorem lK (ha:PA X es (tA X.K Ξ fa)):PE X (.List es pos) (tE X.K Ξ (eNew fa)):=cG (G8 ha) fun σ H Q aB=>by
 obtain⟨w,env,eH,S,eo,h⟩:=aB;subst eH;refine⟨w,env,rfl,S,eo,(Out.au h).mono λw1 ds l1 S1 h1 vs ar=>?_⟩;obtain⟨hl,h2⟩:=ra h1;refine⟨by rw[<- ar.length];exact hl,λp hp=>?_⟩;have le:=(Fw.cell (o:=.lst vs) (c:=.lst ds) S1 hp).le;refine h2 (w1.cell p (.lst vs) (.lst ds)) le (S1.wo hp ⟨vs,cF,le.all ar⟩) rfl (.ref p) ⟨p,?_,rfl⟩;show (w1.ρ++[p])[w1.aJ.length]?=some p;rw[<- S1.len];simp
theorem qj (ha:PE X a (tE X.K Ξ f)):PE X a (tE X.K Ξ (jn f)):=cG ha fun σ H Q aB=>by
 obtain⟨w,env,eH,S,eo,h⟩:=aB;subst eH;refine⟨w,env,rfl,S,eo,(Out.au h).mono λw1 x l1 S1 h1 v1 fN=>?_⟩;unfold cE at h1;split at h1
 ·rename_i k
  split at h1
  ·rename_i ds hk
   obtain⟨p,e1,e2⟩:=fN;obtain⟨xs,q1,q2⟩:=S1.cell k p _ e1 hk;exact h1 (w1.freeze k) Fw.freeze.le S1.freeze rfl v1 ⟨p,xs,e2,⟨Wd.Nr S1 e1,q1⟩,Fw.freeze.le.all q2⟩
  ·exact h1.elim
 ·exact h1.elim
theorem oy.of {K:Frag} {w:Wd} {d:D} {v:V} {k:Wd->Bool->Prop} (S:aN K w) (hd:DV K w d v) (h:Out K Ξ w (truth d w.aJ) k):∃b,oy K v w.H b/\k w b:=by
 cases d with
 |aA=>have e:v=.aA:=hd;subst e;exact⟨_,rfl,aK S h⟩
 |bl b=>have e:v=.bl b:=hd;subst e;exact⟨_,rfl,aK S h⟩
 |int i=>have e:v=.int i:=hd;subst e;exact⟨_,rfl,aK S h⟩
 |str x =>
  have e:v=.str x:=hd;subst e;unfold truth at h
  split at h<;>first|contradiction|skip
  all_goals (rename_i e;cases e)
  split at h
  ·exact⟨_,⟨by assumption,rfl⟩,aK S h⟩
  ·exact h.elim
 |tup ds =>
  simp only[DV] at hd;obtain⟨a,xs,rfl,hq,r⟩:=hd;refine⟨_,.inr (.inl ⟨xs,hq,?_⟩),aK S h⟩;have e:=r.length
  cases ds<;>cases xs<;>first|rfl|cases e
 |lst ds =>
  simp only[DV] at hd;obtain⟨a,xs,rfl,hq,r⟩:=hd;refine⟨_,.inl ⟨xs,hq.sq,?_⟩,aK S h⟩;have e:=r.length
  cases ds<;>cases xs<;>first|rfl|cases e
 |aW ao =>
  simp only[DV] at hd;obtain⟨a,rfl,_,hq⟩:=hd;refine⟨_,.inr (.inr ⟨_,hq,?_⟩),aK S h⟩
  cases ao<;>rfl
 |aj j =>
  simp only[DV] at hd;obtain⟨a,e1,rfl⟩:=hd;simp only[truth] at h;split at h
  ·rename_i ds hk
   obtain⟨xs,q1,q2⟩:=S.cell j a _ e1 hk;refine⟨_,.inl ⟨xs,bQ.of q1,?_⟩,aK S h⟩;have e:=q2.length
   cases ds<;>cases xs<;>first|rfl|cases e
  ·rename_i ao hk
   obtain⟨es,q1,q2,q3⟩:=S.cell j a _ e1 hk;refine⟨_,.inr (.inr ⟨es,q1,?_⟩),aK S h⟩;have e:=congrArg List.length q2
   cases ao<;>cases es<;>first|rfl|simp at e
  ·exact h.elim
 |ty n=>exact h.elim
 |bG ns=>exact h.elim
theorem eZ (ha:PE X a (tE X.K Ξ f)) (he:∀whole,isTrue a X.env whole=(do let v <- whole;acL a.pos;abz [v] (truthy v)):=by intro _;rfl):PT X a (tT X.K Ξ (dD f)):=v7 (Oq ha he) fun σ H Q aB=>by
 obtain⟨w,env,eH,S,eo,h⟩:=aB;subst eH;exact⟨w,env,rfl,S,eo,(Out.au h).mono λw1 x l1 S1 h1 v1 fN=>oy.of S1 fN h1⟩
theorem iL (ha:PT X a (tT X.K Ξ ft)):PT X (.UnaryOp .Not a pos) (tT X.K Ξ (fF ft)):=v7 (RM ha) fun σ H Q aB=>by
 obtain⟨w,env,eH,S,eo,h⟩:=aB;subst eH;exact⟨w,env,rfl,S,eo,(Out.au h).mono λw1 b l1 S1 h1=>aK S1 h1⟩
theorem ku (ha:PT X a (tT X.K Ξ ft)):PW X (.BoolOp .And [a] pos) (tT X.K Ξ ft):=P1 ha
theorem jG (ha:PT X a (tT X.K Ξ ft)):PW X (.BoolOp .Or [a] pos) (tT X.K Ξ ft):=RK ha
theorem w_and (ha:PT X a (tT X.K Ξ ft)) (hb:PW X (.BoolOp .And (b::rest) pos) (tT X.K Ξ gt)):PW X (.BoolOp .And (a::b::rest) pos) (tT X.K Ξ (cv ft gt)):=Hh (RL ha hb) fun σ H Q aB=>by
 obtain⟨w,env,eH,S,eo,h⟩:=aB;subst eH;refine⟨w,env,rfl,S,eo,(Out.au h).mono λw1 b l1 S1 h1=>?_⟩
 cases b with
 |true=>exact⟨w1,env,rfl,S1,eo.le l1,h1⟩
 |false=>exact aK S1 h1
theorem w_or (ha:PT X a (tT X.K Ξ ft)) (hb:PW X (.BoolOp .Or (b::rest) pos) (tT X.K Ξ gt)):PW X (.BoolOp .Or (a::b::rest) pos) (tT X.K Ξ (gu ft gt)):=Hh (Tw ha hb) fun σ H Q aB=>by
 obtain⟨w,env,eH,S,eo,h⟩:=aB;subst eH;refine⟨w,env,rfl,S,eo,(Out.au h).mono λw1 b l1 S1 h1=>?_⟩
 cases b with
 |false=>exact⟨w1,env,rfl,S1,eo.le l1,h1⟩
 |true=>exact aK S1 h1
theorem dA {op} (ha:PE X a (tE X.K Ξ f)):PE X (.BoolOp op [a] pos) (tE X.K Ξ f):=RN ha
theorem zf {K:Frag} {w:Wd} {d:D} {v:V} {k:Wd->Bool->Prop} (S:aN K w) (hd:DV K w d v) (h:Out K Ξ w (gf d w.aJ) k):∃b,v=.bl b/\k w b:=by
 cases d with
 |bl b=>exact⟨b,hd,aK S h⟩
 |_=>exact h.elim
theorem dH (ha:PE X a (tE X.K Ξ f)) (hb:PE X (.BoolOp .And (b::rest) pos) (tE X.K Ξ g)):PE X (.BoolOp .And (a::b::rest) pos) (tE X.K Ξ (cT f g)):=cG (RO ha hb) fun σ H Q aB=>by
 obtain⟨w,env,eH,S,eo,h⟩:=aB;subst eH;refine⟨w,env,rfl,S,eo,(Out.au h).mono λw1 x l1 S1 h1 v1 fN=>?_⟩;obtain⟨b,e,h2⟩:=zf S1 fN (Out.au h1);refine⟨b,e,?_⟩
 cases b with
 |true=>exact⟨w1,env,rfl,S1,eo.le l1,h2⟩
 |false=>exact aK S1 h2 _ rfl
theorem lT (ha:PE X a (tE X.K Ξ f)) (hb:PE X (.BoolOp .Or (b::rest) pos) (tE X.K Ξ g)):PE X (.BoolOp .Or (a::b::rest) pos) (tE X.K Ξ (i6 f g)):=cG (TF ha hb) fun σ H Q aB=>by
 obtain⟨w,env,eH,S,eo,h⟩:=aB;subst eH;refine⟨w,env,rfl,S,eo,(Out.au h).mono λw1 x l1 S1 h1 v1 fN=>?_⟩;obtain⟨b,e,h2⟩:=zf S1 fN (Out.au h1);refine⟨b,e,?_⟩
 cases b with
 |false=>exact⟨w1,env,rfl,S1,eo.le l1,h2⟩
 |true=>exact aK S1 h2 _ rfl
theorem qk (ha:PE X a (tE X.K Ξ f)):PE X (.UnaryOp .Not a pos) (tE X.K Ξ (lS f)):=cG (RP ha) fun σ H Q aB=>by
 obtain⟨w,env,eH,S,eo,h⟩:=aB;subst eH;refine⟨w,env,rfl,S,eo,(Out.au h).mono λw1 x l1 S1 h1 v1 fN=>?_⟩;obtain⟨b,e,h2⟩:=zf S1 fN (Out.au h1);exact⟨b,e,aK S1 h2 _ rfl⟩
theorem VH (hc:PT X c (tT X.K Ξ ft)) (ha:PE X a (tE X.K Ξ f)) (hb:PE X b (tE X.K Ξ g)):PE X (.IfExp c a b pos) (tE X.K Ξ (xy ft f g)):=cG (Oi hc ha hb) fun σ H Q aB=>by
 obtain⟨w,env,eH,S,eo,h⟩:=aB;subst eH;refine⟨w,env,rfl,S,eo,(Out.au h).mono λw1 b l1 S1 h1=>?_⟩
 cases b with
 |true=>exact⟨w1,env,rfl,S1,eo.le l1,h1⟩
 |false=>exact⟨w1,env,rfl,S1,eo.le l1,h1⟩
theorem Hl (σ:St) (H:Hp) (Q:VK):tE K Ξ (eB o fa) σ H Q->Bs (rC K Ξ o) (tA K Ξ fa) σ H Q:=by
 rintro ⟨w,env,rfl,S,eo,h⟩;exact⟨w,env,rfl,S,eo,(Out.au h).mono λw1 ds l1 S1 h1 vs ar=>⟨w1,ds,rfl,S1,ar,h1⟩⟩
theorem bE {x:Str} {p:Pos} {id:String} {o:List D->ag->Res D} (hc:cf X (.builtin id) (rC X.K Ξ o)) (hg:Gl X x) (hm:X.mg x=none) (hv:ZL x=some (.builtin id)) (ha:PA X (e::es) (tA X.K Ξ fa)) (hn:x≠"__name__":=by decide) (j4:(x==("__debug__":Str))=false:=by decide)
  (he:Zp (e::es) X.env=(false,eval e X.env)::Zp es X.env:=by rfl) (cZ:(ab5 pos (Zp es X.env)).any (·.1)=false:=by rfl):PE X (.Call (.Name x p) (e::es) [] pos) (tE X.K Ξ (eB o fa)):=cG (vf hc hg hm hv ha hn j4 he cZ) Hl
theorem fy {x:Str} {p:Pos} {T:String} {o:List D->ag->Res D} (hc:cf X (.type T) (rC X.K Ξ o)) (hg:Gl X x) (hm:X.mg x=none) (hv:ZL x=some (.type T)) (ha:PA X (e::es) (tA X.K Ξ fa)) (hn:x≠"__name__":=by decide) (j4:(x==("__debug__":Str))=false:=by decide)
  (he:Zp (e::es) X.env=(false,eval e X.env)::Zp es X.env:=by rfl) (cZ:(ab5 pos (Zp es X.env)).any (·.1)=false:=by rfl):PE X (.Call (.Name x p) (e::es) [] pos) (tE X.K Ξ (eB o fa)):=cG (u0 hc hg hm hv ha hn j4 he cZ) Hl
end
end DI
namespace DI
open PySem L2
set_option genInjectivity true in
inductive Fl where
 |nx (env:Env)|rt (d:D)|bk (env:Env)|ct (env:Env)
noncomputable def A7 (K:Frag) (D:Ends) (w:Wd):Fl->Prop
 | .nx env=>∀ σ,bZ K w env σ->D.nx σ w.H
 | .rt d=>∀v,DV K w d v->D.rt v w.H
 | .bk env=>∀ σ,bZ K w env σ->D.bk σ w.H
 | .ct env=>∀ σ,bZ K w env σ->D.ct σ w.H
noncomputable def tS (K:Frag) (Ξ:Wd->bH->Prop) (f:Env->ag->Res Fl):TS:=λD σ H=>∃w env,w.H=H/\aN K w/\bZ K w env σ/\Out K Ξ w (f env w.aJ) (A7 K D)
noncomputable def bT:Env->ag->Res Fl:=λenv s=>ok (.nx env) s
noncomputable def az (f g:Env->ag->Res Fl):Env->ag->Res Fl:=λenv s=>au (f env s) λfl s=>match fl with
 | .nx env=>g env s
 |fl=>ok fl s
noncomputable def aO (f:Env->ag->Res D):Env->ag->Res Fl:=λenv s=>au (f env s) λd s=>ok (.rt d) s
noncomputable def dI (f:Env->ag->Res D):Env->ag->Res Fl:=λenv s=>au (f env s) λ_ s=>ok (.nx env) s
noncomputable def bR (c:Env->ag->Res Bool) (f g:Env->ag->Res Fl):Env->ag->Res Fl:=λenv s=>au (c env s) λb s=>if b=true then f env s else g env s
noncomputable def Il:Env->ag->Res Fl:=λenv s=>ok (.ct env) s
noncomputable def aP (f:Env->ag->Res D) (g:D->Env->Option Env):Env->ag->Res Fl:=λenv s=>au (f env s) λd s=>match g d env with
 |some env'=>ok (.nx env') s
 |none=>none
noncomputable def gN (i:Nat):D->Env->Option Env:=λd env=>some (env.set i (some d))
noncomputable def gH:List (D->Env->Option Env)->List D->Env->Option Env
 | [],[],env=>some env
 |g::gs,d::ds,env=>match g d env with
  |some env'=>gH gs ds env'
  |none=>none
 |_,_,_=>none
noncomputable def gT (gs:List (D->Env->Option Env)):D->Env->Option Env:=λd env=>match d with
 | .tup ds=>gH gs ds env
 |_=>none
noncomputable def iM (g:D->Env->Option Env) (b:Env->ag->Res Fl):List D->Env->ag->Res Fl
 | [],env,s=>ok (.nx env) s
 |d::ds,env,s=>match g d env with
  |none=>none
  |some env'=>au (b env' s) λfl s=>match fl with
   | .nx e=>iM g b ds e s
   | .ct e=>iM g b ds e s
   | .bk e=>ok (.nx e) s
   | .rt d=>ok (.rt d) s
noncomputable def dh (it:Env->ag->Res (List D)) (g:D->Env->Option Env) (b:Env->ag->Res Fl):Env->ag->Res Fl:=λenv s=>au (it env s) λds s=>iM g b ds env s
noncomputable def ne {α:Type} (r:Res α):Res α:=match r with
 |some (.ok a,s)=>some (.ok a,s)
 |_=>none
@[simp] theorem og {α:Type} {a:α} {s:ag}:ne (some (.ok a,s))=some (.ok a,s):=rfl
noncomputable def gF (cap:List Nat) (env:Env):Env:=cap.map λj=>(env[j]?).getD none
noncomputable def fB (nt:Nat) (caps:Env) (g:D->Env->Option Env) (t:Env->ag->Res Bool) (f:Env->ag->Res D):List D->ag->Res (List D)
 | [],s=>ok [] s
 |d::ds,s=>match g d (Za nt none++caps) with
  |none=>none
  |some env=>au (ne (t env s)) λb s=>if b=true then au (ne (f env s)) λx s=>au (fB nt caps g t f ds s) λxs s=>ok (x::xs) s
   else fB nt caps g t f ds s
noncomputable def ba (nt:Nat) (cap:List Nat) (it:Env->ag->Res (List D)) (g:D->Env->Option Env) (t:Env->ag->Res Bool) (f:Env->ag->Res D):Env->ag->Res D:=λenv s =>
 au (it env s) λds s=>iB ds (au (fB nt (gF cap env) g t f ds s) λxs s=>ok (.lst xs) s)
noncomputable def rG (nt:Nat) (cap:List Nat) (it:Env->ag->Res (List D)) (g:D->Env->Option Env) (t:Env->ag->Res Bool) (f:Env->ag->Res D):Env->ag->Res D:=λenv s =>
 au (it env s) λds s=>iB ds (au (fB nt (gF cap env) g t f ds s) λxs s=>ok (.aj s.length) (s++[.lst xs]))
noncomputable def cC:Env->ag->Res Bool:=λ_ s=>ok true s
noncomputable def bc (np ns:Nat) (b:Env->ag->Res Fl):List D->ag->Res D:=λds s=>if ds.length=np then au (b (ds.map some++Za (ns-np) none) s) λfl s=>match fl with
 | .rt d=>ok d s
 | .nx _=>ok .aA s
 |_=>none else none
noncomputable abbrev cI:Wd->bH->Prop:=λ_ _=>False
noncomputable def bx (K:Frag) (f:List D->ag->Res D):Sp:=λvs H Q _=>∃w ds,w.H=H/\aN K w/\aw K w ds vs/\Out K cI w (f ds w.aJ) λw' d=>∀v,DV K w' d v->Q v w'.H
section
variable {X:Cx} {Ξ:Wd->bH->Prop} {e a b c tg:Expr} {es rest:List Expr} {pos:Pos} {f g h:Env->ag->Res D} {fa:Env->ag->Res (List D)} {ft gt:Env->ag->Res Bool} {st:Stmt} {nu A8:List Stmt} {fs gs:Env->ag->Res Fl}
theorem cR:eD X [] (tS X.K Ξ bT):=Gn P2 λD σ H aB=>by
 obtain⟨w,env,eH,S,eo,h⟩:=aB;subst eH;exact aK S h σ eo
theorem aD (h1:PS X st (tS X.K Ξ fs)) (h2:eD X nu (tS X.K Ξ gs)):eD X (st::nu) (tS X.K Ξ (az fs gs)):=Gn (Ol h1 h2) λD σ H aB=>by
 obtain⟨w,env,eH,S,eo,h⟩:=aB;subst eH;refine⟨w,env,rfl,S,eo,(Out.au h).mono λw1 fl l1 S1 h1=>?_⟩
 cases fl with
 |nx env'=>exact fun bb jy=>⟨w1,env',rfl,S1,jy,h1⟩
 |rt d=>have q:=aK S1 h1;exact q
 |bk env'=>have q:=aK S1 h1;exact q
 |ct env'=>have q:=aK S1 h1;exact q
theorem aH (h1:PS X st (tS X.K Ξ fs)):eD X [st] (tS X.K Ξ fs):=P4 h1
theorem aU (he:PE X e (tE X.K Ξ f)):PS X (.Return (some e) pos) (tS X.K Ξ (aO f)):=je (RQ he) λD σ H aB=>by
 obtain⟨w,env,eH,S,eo,h⟩:=aB;subst eH;exact⟨w,env,rfl,S,eo,(Out.au h).mono λw1 d l1 S1 h1=>aK S1 h1⟩
theorem gY (he:PE X e (tE X.K Ξ f)) (hs:swapsWith e none pos.line X.env=pure false:=by rfl):PS X (.Expr e pos) (tS X.K Ξ (dI f)):=je (P5 he hs) λD σ H aB=>by
 obtain⟨w,env,eH,S,eo,h⟩:=aB;subst eH;exact⟨w,env,rfl,S,eo,(Out.au h).mono λw1 d l1 S1 h1 _ _=>aK S1 h1 σ (eo.le l1)⟩
theorem cU (hc:PT X c (tT X.K Ξ ft)) (ha:eD X nu (tS X.K Ξ fs)) (hb:eD X A8 (tS X.K Ξ gs)):PS X (.If c nu A8 pos) (tS X.K Ξ (bR ft fs gs)):=je (TL hc ha hb) λD σ H aB=>by
 obtain⟨w,env,eH,S,eo,h⟩:=aB;subst eH;refine⟨w,env,rfl,S,eo,(Out.au h).mono λw1 b l1 S1 h1=>?_⟩
 cases b with
 |true=>exact⟨w1,env,rfl,S1,eo.le l1,h1⟩
 |false=>exact⟨w1,env,rfl,S1,eo.le l1,h1⟩
noncomputable def BS:Env->ag->Res Fl:=λ_ _=>none
theorem Fv:eD X nu (tS X.K Ξ BS):=λ_ _ _ _ _ _ h=>by obtain⟨w,env,_,_,_,h⟩:=h;exact h.elim
noncomputable def gD (K:Frag) (g:D->Env->Option Env):TG:=λv σ H Q=>∃w env d env',w.H=H/\aN K w/\bZ K w env σ/\DV K w d v/\g d env=some env'/\∀ bb,bZ K w env' bb->Q bb H
noncomputable def tO (K:Frag) (g:List D->Env->Option Env):jr:=λvs σ H Q=>∃w env ds env',w.H=H/\aN K w/\bZ K w env σ/\aw K w ds vs/\g ds env=some env'/\∀ bb,bZ K w env' bb->Q bb H
theorem Hm {t t':TG} (h:PG X e t) (i:∀v σ H Q,t' v σ H Q->t v σ H Q):PG X e t':=λpins s σ H v u Q I r hq=>h pins s σ H v u Q I r (i v σ H Q hq)
theorem Gq {t t':jr} (h:kI X es t) (i:∀v σ H Q,t' v σ H Q->t v σ H Q):kI X es t':=λpins s σ H v u Q I r hq=>h pins s σ H v u Q I r (i v σ H Q hq)
theorem bK (i:Nat) {x:Str} (hN:X.N.Nodup) (hi:X.N[i]?=some x:=by rfl) (hx:Loc X.env.scope x:=by first|exact aap rfl|exact Or.inr rfl) (hf:X.fn x=true\/X.env.scope.names.lookup x=some .local:=by first|exact .inl rfl|exact .inr rfl):PG X (.Name x pos) (gD X.K (gN i)) :=
 Hm (bp hN hi hx hf) λv σ H Q aB=>by
  obtain⟨w,env,d,env',eH,S,eo,dv,eg,k⟩:=aB;have e:env.set i (some d)=env':=Option.some.inj eg;subst e;exact k _ (eo.set dv i)
theorem lA:kI X [] (tO X.K (gH [])):=Gq nT λvs σ H Q aB=>by
 obtain⟨w,env,ds,env',eH,S,eo,ar,eg,k⟩:=aB
 cases ds with
 |nil =>
  have e:env=env':=Option.some.inj eg;subst e;exact⟨ar,k _ eo⟩
 |cons d ds=>cases eg
theorem dP {g:D->Env->Option Env} {gl:List (D->Env->Option Env)} (h1:PG X e (gD X.K g)) (h2:kI X es (tO X.K (gH gl)))
  (hs:(abg (e::es) X.env).map (·.2)=acZ e X.env::(abg es X.env).map (·.2):=by rfl):kI X (e::es) (tO X.K (gH (g::gl))):=Gq (iI h1 h2 hs) λvs σ H Q aB=>by
 obtain⟨w,env,ds,env',eH,S,eo,ar,eg,k⟩:=aB
 cases ds with
 |nil=>cases eg
 |cons d ds =>
  obtain⟨v,r,rfl,dv,dr⟩:=ar;simp only[gH] at eg
  cases qL:g d env with
  |none=>rw[qL] at eg;cases eg
  |some wO =>
   rw[qL] at eg;refine⟨v,r,rfl,w,env,d,wO,eH,S,eo,dv,qL,fun JA Wx=>⟨w,wO,ds,env',eH,S,Wx,dr,eg,k⟩⟩
theorem yx:∀{gl:List (D->Env->Option Env)} {ds:List D} {env env':Env},gH gl ds env=some env'->ds.length=gl.length
 | [],[],_,_,_=>rfl
 |g::gl,d::ds,env,env',h=>by
  simp only[gH] at h
  cases qL:g d env with
  |none=>rw[qL] at h;cases h
  |some e1=>rw[qL] at h;simp[yx h]
 | [],_::_,_,_,h=>by cases h
 |_::_,[],_,_,h=>by cases h
theorem lL {gl:List (D->Env->Option Env)} {k:Nat} (hc:X.calm=true) (h:kI X es (tO X.K (gH gl))) (hn:(abg es X.env).length=gl.length:=by rfl) (sQ:(abg es X.env).findIdx? (·.1)=none:=by rfl):PG X (.Tuple es k pos) (gD X.K (gT gl)) :=
 Hm (jE hc h hn sQ) λv σ H Q aB=>by
  obtain⟨w,env,d,env',eH,S,eo,dv,eg,k⟩:=aB
  cases d with
  |tup ds =>
   simp only[DV] at dv;obtain⟨p,xs,e1,hq,ar⟩:=dv;subst eH;exact⟨p,xs,e1,hq,by rw[<- ar.length];exact yx eg,w,env,ds,env',rfl,S,eo,ar,eg,k⟩
  |_=>cases eg
theorem zg {K:Frag} {g:D->Env->Option Env} (D:Ends) (σ:St) (H:Hp):tS K Ξ (aP f g) D σ H->qr (tE K Ξ f) (gD K g) D σ H:=by
 rintro ⟨w,env,rfl,S,eo,h⟩;refine⟨w,env,rfl,S,eo,(Out.au h).mono λw1 d l1 S1 h1 v dv=>?_⟩
 cases hg:g d env with
 |none=>rw[hg] at h1;exact h1.elim
 |some env' =>
  rw[hg] at h1;exact⟨w1,env,d,env',rfl,S1,eo.le l1,dv,hg,aK S1 h1⟩
theorem oh {g:D->Env->Option Env} (he:PE X e (tE X.K Ξ f)) (hg:PG X tg (gD X.K g)) (hs:abk [tg] e pos.line X.env=pure false:=by rfl) (hw:abl [tg] e X.env=pure none:=by rfl)
  (h1:(abg [tg] X.env).map (·.2)=[acZ tg X.env]:=by rfl):PS X (.Assign [tg] e pos) (tS X.K Ξ (aP f g)):=je (v5 he hg hs hw h1) zg
theorem EW {K:Frag} {te:TE} {i:Nat} (D:Ends) (σ:St) (H:Hp):qr (tE K Ξ f) (gD K (gN i)) D σ H->qr (tE K Ξ f) (lH i) D σ H:=by
 rintro ⟨w,env,rfl,S,eo,h⟩;refine⟨w,env,rfl,S,eo,h.mono λw1 d l1 S1 h1 v dv=>?_⟩;obtain⟨w',wO,d',env',e',S',jy,oX,eg,k⟩:=h1 v dv;have e:wO.set i (some d')=env':=Option.some.inj eg;subst e;exact k _ (jy.set oX i)
theorem bS (i:Nat) {x:Str} {pos':Pos} (hN:X.N.Nodup) (he:PE X e (tE X.K Ξ f)) (hi:X.N[i]?=some x:=by rfl) (hx:Loc X.env.scope x:=by first|exact aap rfl|exact Or.inr rfl) (hs:swapsWith e (some (.Name x pos')) pos.line X.env=pure false:=by rfl) (hf:X.fn x=true\/X.env.scope.names.lookup x=some .local:=by first|exact .inl rfl|exact .inr rfl) :
  PS X (.Assign [.Name x pos'] e pos) (tS X.K Ξ (aP f (gN i))):=je (RR hN hi hx he hs hf) λD σ H h=>EW (te:=tE X.K Ξ f) D σ H (zg D σ H h)
def nv (K:Frag) (w:Wd) (J:It) (ds:List D):Prop:=∀w',Le K w w'->aN K w'->∀i,
 (∀d,ds[i]?=some d->J.go i w'.H/\∀x H',J.sS i w'.H x H'->∃w2,w2.H=H'/\Le K w' w2/\aN K w2/\w2.aJ=w'.aJ/\DV K w2 d x)/\(ds.length<=i->J.stop i w'.H)
noncomputable def dX (K:Frag) (Ξ:Wd->bH->Prop) (f:Env->ag->Res (List D)):TI:=fun σ H R=>∃w env,w.H=H/\aN K w/\bZ K w env σ/\Out K Ξ w (f env w.aJ) λw' ds=>∀J,nv K w' J ds->R J w'.H
theorem nY {t t':TI} (h:PI X tg e t) (i:∀ σ H R,t' σ H R->t σ H R):PI X tg e t':=λpins s σ H R I hq=>h pins s σ H R I (i σ H R hq)
theorem Qy {K:Frag} {it:Env->ag->Res (List D)} {g:D->Env->Option Env} (D0:Ends) (σ:St) (H:Hp):tS K Ξ (dh it g fs) D0 σ H->Jb (dX K Ξ it) (gD K g) (tS K Ξ fs) D0 σ H:=by
 rintro ⟨w,env,rfl,S,eo,h⟩;refine⟨w,env,rfl,S,eo,(Out.au h).mono λw1 ds l1 S1 h1 J hJ=>?_⟩;refine⟨λi m bb H'=>m=ds.length-i/\i<=ds.length/\∃w' env',w'.H=H'/\Le K w1 w'/\aN K w'/\bZ K w' env' bb/\Out K Ξ w' (iM g fs (ds.drop i) env' w'.aJ) (A7 K D0),
  ⟨ds.length,rfl,aad _,w1,env,rfl,Le.refl _,S1,eo.le l1,h1⟩,?_⟩
 rintro i m bb H' ⟨rfl,hi,w',env',rfl,l',S',jy,h'⟩;by_cases bC:i<ds.length
 ·right
  obtain⟨gy,hy⟩:=(hJ w' l' S' i).1 _ (Y8 bC);rw[acd bC] at h';simp only[iM] at h'
  cases hg:g ds[i] env' with
  |none=>rw[hg] at h';exact h'.elim
  |some jo =>
   rw[hg] at h';refine⟨gy,fun lW H2=>∃w2 wQ,w2.H=H2/\Le K w1 w2/\aN K w2/\bZ K w2 wQ lW/\Out K Ξ w2 (iM g fs (ds.drop (i+1)) wQ w2.aJ) (A7 K D0),fun lW H2 ⟨w2,wQ,q⟩=>⟨ds.length-(i+1),by omega,rfl,bC,w2,wQ,q⟩,λx H2 y=>?_⟩;obtain⟨w2,rfl,l2,S2,es,dv⟩:=hy x H2 y;refine⟨w2,env',ds[i],jo,rfl,S2,jy.le l2,dv,hg,fun lW kO=>⟨w2,jo,rfl,S2,kO,?_⟩⟩;rw[<- es] at h';refine(Out.au (h'.from l2)).mono λw3 fl l3 S3 h3=>?_
   cases fl with
   |nx e3=>exact fun kJ BU=>⟨w3,e3,rfl,l'.trans (l2.trans l3),S3,BU,h3⟩
   |ct e3=>exact fun kJ BU=>⟨w3,e3,rfl,l'.trans (l2.trans l3),S3,BU,h3⟩
   |bk e3=>have q:=aK S3 h3;exact q
   |rt d=>have q:=aK S3 h3;exact q
 ·left
  have e:i=ds.length:=by omega
  subst e;rw[List.drop_length] at h';exact⟨(hJ w' l' S' _).2 (Nat.le_refl _),aK S' h' bb jy⟩
theorem fk {iter:Expr} {it:Env->ag->Res (List D)} {g:D->Env->Option Env} (hp:PassesOwn (model X.prog X.w) X.A X.env X.xe) (hc:X.calm=true) (hi:PI X tg iter (dX X.K Ξ it)) (hg:PG X tg (gD X.K g)) (hb:eD X nu (tS X.K Ξ fs))
  (hs:∀x,ZW iter X.env x=pure x:=by intro _;rfl):PS X (.For tg iter nu [] pos) (tS X.K Ξ (dh it g fs)):=je (RU hp hc hi hg hb hs) Qy
theorem Out.ne {α:Type} {K:Frag} {w:Wd} {r:Res α} {k:Wd->α->Prop} (h:Out K Ξ w (DI.ne r) k):Out K cI w r k:=by
 match r,h with
 |some (.ok a,s),h=>exact h
theorem bZ.block {K:Frag} {w:Wd} {env:Env} {σ:St} (h:bZ K w env σ) (nt:Nat) (cap:List Nat) (o:St) (ho:o.length=nt):bZ K w (Za nt none++gF cap env) (o++mG cap σ):=by
 refine⟨by simp[gF,mG,ho],λi d e=>?_⟩;by_cases hi:i<nt
 ·rw[Zm (by simpa using hi),aaq,if_pos hi] at e
  cases e
 ·rw[ZK (by simpa using abH hi)] at e
  rw[ZK (by omega),ho];simp only[abO] at e;unfold gF at e;unfold mG;rw[Zj] at e |-
  cases ej:cap[i-nt]? with
  |none=>rw[ej] at e;cases e
  |some j =>
   rw[ej] at e;have ev:(env[j]?).getD none=some d:=Option.some.inj e;have tF:env[j]?=some (some d):=by
    cases q:env[j]? with
    |none=>rw[q] at ev;cases ev
    |some z=>rw[q] at ev;exact congrArg some ev
   obtain⟨v,e1,e2⟩:=h.val j d tF;exact⟨v,by rw[aaU,e1];rfl,e2⟩
theorem EX {K:Frag} {nt:Nat} {cap:List Nat} {it:Env->ag->Res (List D)} {g:D->Env->Option Env} {fin:List D->ag->Res D} (σ:St) (H:Hp) (Q:VK)
  (A9:∀(w2:Wd) (xs:List D) (vs:List V),aN K w2->aw K w2 xs vs->Out K Ξ w2 (fin xs w2.aJ) (λw' d=>∀v,DV K w' d v->Q v w'.H)->∀p,w2.H p=none->Q (.ref p) (upd w2.H p (.lst vs))) :
  tE K Ξ (λenv s=>au (it env s) λds s=>iB ds (au (fB nt (gF cap env) g ft f ds s) fin)) σ H Q->lJ (dX K Ξ it) nt cap (gD K g) (tT K cI ft) (tE K cI f) σ H Q:=by
 rintro ⟨w,env,rfl,S,eo,h⟩;refine⟨w,env,rfl,S,eo,(Out.au h).mono λw1 ds l1 S1 h1 J hJ=>?_⟩;obtain⟨hz,h1⟩:=ra h1;refine⟨λi m acc H'=>m=ds.length-i/\i<=ds.length/\acc.length<=i/\∃w' accD,w'.H=H'/\Le K w1 w'/\aN K w'/\aw K w' accD acc/\Out K Ξ w' (fB nt (gF cap env) g ft f (ds.drop i) w'.aJ) λw2 xs=>∀vs,aw K w2 (accD++xs) vs->∀p,w2.H p=none->Q (.ref p) (upd w2.H p (.lst vs)),
  ⟨ds.length,rfl,aad _,aad _,w1,[],rfl,Le.refl _,S1,rfl,(Out.au h1).mono λw2 xs l2 S2 h2 vs ar p hp=>?_⟩,?_⟩
 ·exact A9 w2 xs vs S2 ar h2 p hp
 rintro i m acc H' ⟨rfl,hi,ha,w',accD,rfl,l',S',da,h'⟩;by_cases bC:i<ds.length
 ·right
  obtain⟨gy,hy⟩:=(hJ w' l' S' i).1 _ (Y8 bC);rw[acd bC] at h';simp only[fB] at h'
  cases hg:g ds[i] (Za nt none++gF cap env) with
  |none=>rw[hg] at h';exact h'.elim
  |some jo =>
   rw[hg] at h';refine⟨gy,by omega,λwR H2=>wR.length<=i+1/\∃w' accD,w'.H=H2/\Le K w1 w'/\aN K w'/\aw K w' accD wR/\Out K Ξ w' (fB nt (gF cap env) g ft f (ds.drop (i+1)) w'.aJ) λw2 xs=>∀vs,aw K w2 (accD++xs) vs->∀p,w2.H p=none->Q (.ref p) (upd w2.H p (.lst vs)),
    λwR H2 ⟨BV,q⟩=>⟨ds.length-(i+1),by omega,rfl,bC,BV,q⟩,λo x H3 ho y=>?_⟩
   obtain⟨w2,rfl,l2,S2,es,dv⟩:=hy x H3 y;refine⟨w2,_,ds[i],jo,rfl,S2,(eo.le (l1.trans (l'.trans l2))).block nt cap o ho,dv,hg,fun lW kO=>?_⟩;rw[<- es] at h';refine⟨w2,jo,rfl,S2,kO,(Out.au (h'.from l2)).ne.mono λw3 b l3 S3 h3=>?_⟩
   cases b with
   |true =>
    refine⟨w3,jo,rfl,S3,kO.le l3,(Out.au h3).ne.mono λw4 d l4 S4 h4 v BR=>⟨by rw[Zx];simp;omega,w4,accD++[d],rfl,l'.trans (l2.trans (l3.trans l4)),S4,aw.append ((l2.trans (l3.trans l4)).all da) (aw.one BR),(Out.au h4).mono λw5 xs l5 S5 h5 vs ar p hp=>?_⟩⟩;exact aK S5 h5 vs (by rw[aax] at ar;exact ar) p hp
   |false =>
    exact⟨by omega,w3,accD,rfl,l'.trans (l2.trans l3),S3,(l2.trans l3).all da,h3⟩
 ·left
  have e:i=ds.length:=by omega
  subst e;rw[List.drop_length] at h';refine⟨(hJ w' l' S' _).2 (Nat.le_refl _),by omega,λp hp=>aK S' h' acc (by rw[aa8];exact da) p hp⟩
theorem Fx {K:Frag} {nt:Nat} {cap:List Nat} {it:Env->ag->Res (List D)} {g:D->Env->Option Env} (σ:St) (H:Hp) (Q:VK) :
  tE K Ξ (ba nt cap it g ft f) σ H Q->lJ (dX K Ξ it) nt cap (gD K g) (tT K cI ft) (tE K cI f) σ H Q :=
 EX σ H Q λw2 xs vs S2 ar h2 p hp=>h2 (w2.grow p (.lst vs)) (Fw.grow hp).le (S2.grow hp) rfl (.ref p) ⟨p,vs,rfl,⟨(show ¬ w2.Z p from lu S2 hp),cF⟩,(Fw.grow hp).le.all ar⟩
theorem Nt {K:Frag} {nt:Nat} {cap:List Nat} {it:Env->ag->Res (List D)} {g:D->Env->Option Env} (σ:St) (H:Hp) (Q:VK) :
  tE K Ξ (rG nt cap it g ft f) σ H Q->lJ (dX K Ξ it) nt cap (gD K g) (tT K cI ft) (tE K cI f) σ H Q :=
 EX σ H Q λw2 xs vs S2 ar h2 p hp=>by
  have le:=(Fw.cell (o:=.lst vs) (c:=.lst xs) S2 hp).le;refine h2 (w2.cell p (.lst vs) (.lst xs)) le (S2.wo hp ⟨vs,cF,le.all ar⟩) rfl (.ref p) ⟨p,?_,rfl⟩;show (w2.ρ++[p])[w2.aJ.length]?=some p;rw[<- S2.len];simp
end
end DI
namespace DI
open PySem L2
theorem Gs {o caps:St} {v:V} {i nt:Nat} (ho:o.length=nt) (hi:i<nt):(o++caps).set i (some v)=o.set i (some v)++caps:=by
 rw[List.set_append_left _ _ (by omega)]
theorem Nu {i nt:Nat} (hi:i<nt):lX (lH i) nt:=by
 intro x o caps H R ho h;exact⟨⟨o.set i (some x),by rw[ZU];exact ho,Gs ho hi⟩,h⟩
def sr (g:jr) (nt:Nat):Prop:=∀(xs:List V) (o caps:St) (H:Hp) (R:St->Hp->Prop),o.length=nt->g xs (o++caps) H R->g xs (o++caps) H fun τ H2=>(∃o2:St,o2.length=nt/\τ=o2++caps)/\R τ H2
theorem OR:sr AO nt:=λxs o caps H R ho h=>⟨h.1,⟨o,ho,rfl⟩,h.2⟩
theorem Nv {i nt:Nat} {g:jr} (hi:i<nt) (hg:sr g nt):sr (Af (lH i) g) nt:=by
 rintro xs o caps H R ho ⟨v,r,e,h⟩;refine⟨v,r,e,?_⟩;have h:g r ((o++caps).set i (some v)) H R:=h;show g r ((o++caps).set i (some v)) H _;rw[Gs ho hi] at h |-;exact hg r _ caps H R (by rw[ZU];exact ho) h
theorem OS (hg:sr g nt):lX (AQ K n g) nt:=by
 rintro x o caps H R ho ⟨a,xs,e,hq,hl,h⟩;exact⟨a,xs,e,hq,hl,hg xs o caps H R ho h⟩
structure Tg (K:Frag) (g0:TG) (g:D->Env->Option Env) (nt:Nat):Prop where
 j9:lX g0 nt
 imp:∀v σ H Q,gD K g v σ H Q->g0 v σ H Q
structure xA (K:Frag) (g0:jr) (g:List (D->Env->Option Env)) (nt:Nat):Prop where
 j9:sr g0 nt
 imp:∀v σ H Q,tO K (gH g) v σ H Q->g0 v σ H Q
theorem bU (i:Nat) (hi:i<nt:=by decide):Tg K (lH i) (gN i) nt:=⟨Nu hi,λv σ H Q aB=>by
 obtain⟨w,env,d,env',eH,S,eo,dv,eg,k⟩:=aB;have e:env.set i (some d)=env':=Option.some.inj eg;subst e;exact k _ (eo.set dv i)⟩
theorem rn:xA K AO [] nt:=⟨OR,λvs σ H Q aB=>by
 obtain⟨w,env,ds,env',eH,S,eo,ar,eg,k⟩:=aB
 cases ds with
 |nil =>
  have e:env=env':=Option.some.inj eg;subst e;exact⟨ar,k _ eo⟩
 |cons d ds=>cases eg⟩
theorem km (i:Nat) (h:xA K g0 gl nt) (hi:i<nt:=by decide):xA K (Af (lH i) g0) (gN i::gl) nt:=⟨Nv hi h.j9,λvs σ H Q aB=>by
 obtain⟨w,env,ds,env',eH,S,eo,ar,eg,k⟩:=aB
 cases ds with
 |nil=>cases eg
 |cons d ds =>
  obtain⟨v,r,rfl,dv,dr⟩:=ar;exact⟨v,r,rfl,h.imp _ _ _ _ ⟨w,_,ds,env',eH,S,eo.set dv i,dr,eg,k⟩⟩⟩
theorem rH (h:xA K g0 gl nt) (hn:gl.length=n:=by rfl):Tg K (AQ K n g0) (gT gl) nt:=⟨OS h.j9,λv σ H Q aB=>by
 obtain⟨w,env,d,env',eH,S,eo,dv,eg,k⟩:=aB
 cases d with
 |tup ds =>
  simp only[DV] at dv;obtain⟨p,xs,e1,hq,ar⟩:=dv;subst eH;exact⟨p,xs,e1,hq,by rw[<- ar.length,yx eg];exact hn,h.imp _ _ _ _ ⟨w,env,ds,env',rfl,S,eo,ar,eg,k⟩⟩
 |_=>cases eg⟩
section
variable {X:Cx} {Ξ:Wd->bH->Prop} {e a b c tg el src:Expr} {es rest tests:List Expr} {pos:Pos} {f g h:Env->ag->Res D} {fa:Env->ag->Res (List D)} {ft gt:Env->ag->Res Bool} {st:Stmt} {nu A8:List Stmt} {fs gs:Env->ag->Res Fl}
theorem Sq (h:PF X tests t) (i:∀ σ H Q,t' σ H Q->t σ H Q):PF X tests t':=λpins s σ H Q I hq=>h pins s σ H Q I (i σ H Q hq)
theorem dJ:PF X [] (tT K Ξ cC):=Sq Sa fun σ H Q aB=>by
 obtain⟨w,env,eH,S,eo,h⟩:=aB;subst eH;exact aK S h
theorem fC (h:PT X c (tT K Ξ ft)):PF X [c] (tT K Ξ ft):=Sb h
theorem yk (i_:∀v σ H Q,g1 v σ H Q->g0 v σ H Q) (wm:∀R R':It->Hp->Prop,(∀J H',R J H'->R' J H')->wi σ H R->wi σ H R') (h:lJ wi nt cap g1 tf te σ H Q):lJ wi nt cap g0 tf te σ H Q:=by
 refine wm _ _ (λJ H' hc=>?_) h;obtain⟨W,w0,step⟩:=hc;refine⟨W,w0,λi m acc H2 hw=>?_⟩
 rcases step i m acc H2 hw with q | ⟨q1,q2,N,q3,q4⟩
 ·exact .inl q
 ·exact .inr ⟨q1,q2,N,q3,λo x H3 ho y=>i_ _ _ _ _ (q4 o x H3 ho y)⟩
theorem yy (R R':It->Hp->Prop) (i:∀J H',R J H'->R' J H') (h:dX K Ξ it σ H R):dX K Ξ it σ H R':=by
 obtain⟨w,env,eH,S,eo,h⟩:=h;exact⟨w,env,eH,S,eo,h.mono λw1 ds _ _ h1 J hJ=>i J _ (h1 J hJ)⟩
noncomputable def bh (f:Env->ag->Res D):Env->ag->Res (List D):=λenv s=>au (f env s) λd s=>match d with
 | .lst ds=>ok ds s
 | .tup ds=>ok ds s
 |_=>none
theorem OT {K:Frag} {w:Wd} {a:Addr} {ds:List D} (h:DV K w (.lst ds) (.ref a)):nv K w (Bq K a) ds:=λw' l' S' i=>by
 have h':=l' _ _ h;simp only[DV] at h';obtain⟨p,xs,e,hq,ar⟩:=h';cases e;refine⟨λd ed=>?_,λhl=>⟨xs,hq.sq,by rw[<- ar.length];exact hl⟩⟩;obtain⟨v,ev,dv⟩:=ar.get' i d ed;exact⟨⟨xs,v,hq.sq,ev⟩,λx H' ⟨e1,e2⟩=>⟨w',e1.symm,Le.refl _,S',rfl,by
  have q:=e2 xs hq.sq;rw[ev] at q;cases q;exact dv⟩⟩
theorem Qz {K:Frag} {w:Wd} {a:Addr} {ds:List D} (h:DV K w (.tup ds) (.ref a)):nv K w (Br K a) ds:=λw' l' S' i=>by
 have h':=l' _ _ h;simp only[DV] at h';obtain⟨p,xs,e,hq,ar⟩:=h';cases e;refine⟨λd ed=>?_,λhl=>⟨xs,hq,by rw[<- ar.length];exact hl⟩⟩;obtain⟨v,ev,dv⟩:=ar.get' i d ed;exact⟨⟨xs,v,hq,ev⟩,λx H' ⟨e1,e2⟩=>⟨w',e1.symm,Le.refl _,S',rfl,by
  have q:=e2 xs hq;rw[ev] at q;cases q;exact dv⟩⟩
theorem cH (hl:PE X a (tE X.K Ξ f)):PI X tg a (dX X.K Ξ (bh f)):=by
 have both:PI X tg a (fun σ H R=>Ic X.K (tE X.K Ξ f) σ H R\/Ja X.K (tE X.K Ξ f) σ H R):=λpins s σ H R I h=>h.elim (P6 hl pins s σ H R I) (RT hl pins s σ H R I);refine nY both fun σ H R ⟨w,env,eH,S,eo,h⟩=>?_;subst eH;simp only[bh] at h
 cases hf:f env w.aJ with
 |none=>rw[hf] at h;exact h.elim
 |some r =>
  obtain⟨r,s⟩:=r;rw[hf] at h
  cases r with
  |error x=>exact .inl ⟨w,env,rfl,S,eo,by rw[hf];exact h⟩
  |ok d =>
   rw[fg] at h
   cases d with
   |lst ds =>
    refine .inl ⟨w,env,rfl,S,eo,?_⟩;rw[hf];intro w1 l1 S1 e1 v dv;have oX:=dv;simp only[DV] at dv;obtain⟨p,xs,rfl,hq,ar⟩:=dv;exact⟨p,rfl,⟨xs,hq.sq⟩,h w1 l1 S1 e1 _ (OT oX)⟩
   |tup ds =>
    refine .inr ⟨w,env,rfl,S,eo,?_⟩;rw[hf];intro w1 l1 S1 e1 v dv;have oX:=dv;simp only[DV] at dv;obtain⟨p,xs,rfl,hq,ar⟩:=dv;exact⟨p,rfl,⟨xs,hq⟩,h w1 l1 S1 e1 _ (Qz oX)⟩
   |_=>exact h.elim
noncomputable def cg (lo:Int) (n:Nat):List D:=(Zk n).map λ(i:Nat)=>D.int (lo+(i:Int))
theorem gX:(cg lo n)[i]?=if i<n then some (.int (lo+i)) else none:=by
 unfold cg;rw[Zj];by_cases h:i<n
 ·rw[Z0 h,if_pos h];rfl
 ·rw[ZM (by simp;omega),if_neg h];rfl
theorem df:(cg lo n).length=n:=by simp[cg]
theorem Gu:nv K w (sT lo n) (cg lo n):=λw' l' S' i=>by
 refine⟨λd ed=>?_,λhl=>by rw[df] at hl;exact hl⟩;rw[gX] at ed;split at ed
 ·cases ed
  exact⟨by assumption,λx H' ⟨e1,e2⟩=>⟨w',e1.symm,Le.refl _,S',rfl,e2⟩⟩
 ·cases ed
noncomputable def jg (j:Int):Bool:=decide (-(2 ^ 62)<=j)&&decide (j<2 ^ 62)
noncomputable def cb (fa:Env->ag->Res (List D)):Env->ag->Res (List D):=λenv s=>au (fa env s) λds s=>match ds with
 | [.int j]=>if jg j=true then ok (cg 0 j.toNat) s else none
 |_=>none
noncomputable def qM (fa:Env->ag->Res (List D)):Env->ag->Res (List D):=λenv s=>au (fa env s) λds s=>match ds with
 | [.int i,.int j]=>if (jg i&&jg j)=true then ok (cg i (j-i).toNat) s else none
 |_=>none
theorem dG (hg:Gl X "range") (hm:X.mg "range"=none) (ha:PA X [a] (tA X.K Ξ fa)) (hs:Zp [a] X.env=[(false,eval a X.env)]:=by rfl):PI X tg (.Call (.Name "range" p) [a] [] pos) (dX X.K Ξ (cb fa)) :=
 nY (M9 hg hm ha hs) fun σ H R aB=>by
  obtain⟨w,env,eH,S,eo,h⟩:=aB;subst eH;refine⟨w,env,rfl,S,eo,(Out.au h).mono λw1 ds l1 S1 h1 vs ar=>?_⟩;split at h1
  ·rename_i j
   split at h1
   ·rename_i hj
    simp only[jg,Y3,decide_eq_true_eq] at hj;obtain⟨v,r,rfl,dv,dr⟩:=ar;have e1:v=.int j:=dv;have e2:r=[]:=dr;subst e1 e2;exact⟨j,rfl,hj.1,hj.2,aK S1 h1 _ Gu⟩
   ·exact h1.elim
  ·exact h1.elim
theorem zG {p:Pos} (hg:Gl X "range") (hm:X.mg "range"=none) (ha:PA X [a,b] (tA X.K Ξ fa)) (hs:Zp [a,b] X.env=[(false,eval a X.env),(false,eval b X.env)]:=by rfl) (eG:Zp [b] X.env=[(false,eval b X.env)]:=by rfl):PI X tg (.Call (.Name "range" p) [a,b] [] pos) (dX X.K Ξ (qM fa)) :=
 nY (Na hg hm ha hs eG) fun σ H R aB=>by
  obtain⟨w,env,eH,S,eo,h⟩:=aB;subst eH;refine⟨w,env,rfl,S,eo,(Out.au h).mono λw1 ds l1 S1 h1 vs ar=>?_⟩;split at h1
  ·rename_i i j
   split at h1
   ·rename_i hj
    simp only[jg,Y3,decide_eq_true_eq] at hj;obtain⟨v,r,rfl,dv,v2,r2,rfl,j8,dr⟩:=ar;have e1:v=.int i:=dv;have e2:v2=.int j:=j8;have e3:r2=[]:=dr;subst e1 e2 e3;exact⟨i,j,rfl,⟨hj.1.1,hj.1.2,hj.2.1,hj.2.2⟩,aK S1 h1 _ Gu⟩
   ·exact h1.elim
  ·exact h1.elim
noncomputable def iR (xs ys:List D):List D:=(xs.zip ys).map λp=>.tup [p.1,p.2]
theorem OU {i:Nat} (h:(iR xs ys)[i]?=some d):∃x y,xs[i]?=some x/\ys[i]?=some y/\d=.tup [x,y]:=by
 unfold iR at h;rw[Zj] at h
 cases hz:(xs.zip ys)[i]? with
 |none=>rw[hz] at h;cases h
 |some p =>
  rw[hz] at h;obtain⟨q1,q2⟩:=List.getElem?_zip_eq_some.mp hz;exact⟨p.1,p.2,q1,q2,(Option.some.inj h).symm⟩
theorem yz:(iR xs ys).length=min xs.length ys.length:=by simp[iR]
theorem EY (S':aN K w') (hp:w'.H p=none) (h1:DV K w' d x) (h2:DV K w' d2 y) :
  ∃w2,w2.H=upd w'.H p (.tup [x,y])/\Le K w' w2/\aN K w2/\w2.aJ=w'.aJ/\DV K w2 (.tup [d,d2]) (.ref p) :=
 ⟨w'.grow p (.tup [x,y]),rfl,(Fw.grow hp).le,S'.grow hp,rfl,p,[x,y],rfl,aS.of cF,(Fw.grow hp).le.all (aw.two h1 h2)⟩
theorem OV {K:Frag} {w:Wd} {a b:Addr} {ds es:List D} (h:DV K w (.tup ds) (.ref a)) (g:DV K w (.tup es) (.ref b)):nv K w (A1 K a b) (iR ds es):=λw' l' S' i=>by
 have h':=l' _ _ h;have g':=l' _ _ g;simp only[DV] at h' g';obtain⟨p,xs,e,hq,ar⟩:=h';obtain⟨q,ys,e',gq,JT⟩:=g';cases e;cases e';refine⟨λd ed=>?_,λhl=>⟨xs,ys,hq,gq,?_⟩⟩
 ·obtain⟨x,y,e1,e2,rfl⟩:=OU ed
  obtain⟨v,ev,dv⟩:=ar.get' i x e1;obtain⟨u,eu,du⟩:=JT.get' i y e2;refine⟨⟨xs,ys,v,u,hq,gq,ev,eu⟩,λz H' ⟨r,x1,y1,hr,ez,eH,BW⟩=>?_⟩;obtain⟨q1,q2⟩:=BW xs ys hq gq;rw[ev] at q1;rw[eu] at q2;cases q1;cases q2;subst ez eH;exact EY S' hr dv du
 ·rw[yz] at hl
  have:=ar.length;have:=JT.length;omega
noncomputable def oE (fa:Env->ag->Res (List D)):Env->ag->Res (List D):=λenv s=>au (fa env s) λds s=>match ds with
 | [.tup xs,.tup ys]=>ok (iR xs ys) s
 |_=>none
theorem Im {p:Pos} {elts:List Expr} {kk:Nat} {wI:Pos} (hg:Gl X "zip") (hm:X.mg "zip"=none) (ha:PA X [a,b] (tA X.K Ξ fa)) (hs:Zp [a,b] X.env=[(false,eval a X.env),(false,eval b X.env)]:=by rfl) (eG:Zp [b] X.env=[(false,eval b X.env)]:=by rfl) :
  PI X (.Tuple elts kk wI) (.Call (.Name "zip" p) [a,b] [] pos) (dX X.K Ξ (oE fa)):=by
 refine nY (Qn hg hm ha hs eG) fun σ H R aB=>?_;obtain⟨w,env,eH,S,eo,h⟩:=aB;subst eH;refine⟨w,env,rfl,S,eo,(Out.au h).mono λw1 ds l1 S1 h vs ar=>?_⟩;split at h
 ·obtain⟨v,r,rfl,dv,v2,r2,rfl,j8,dr⟩:=ar
  have e3:r2=[]:=dr;subst e3;have q1:=dv;have q2:=j8;simp only[DV] at q1 q2;obtain⟨p,xs,rfl,hq,_⟩:=q1;obtain⟨q,ys,rfl,gq,_⟩:=q2;exact⟨p,q,xs,ys,rfl,hq,gq,aK S1 h _ (OV dv j8)⟩
 ·exact h.elim
noncomputable def oj (xs:List D):List D:=xs.zipIdx.map λp=>.tup [.int p.2,p.1]
theorem Nw {K:Frag} {w:Wd} {a:Addr} {ds:List D} (h:DV K w (.tup ds) (.ref a)):nv K w (A5 K a) (oj ds):=λw' l' S' i=>by
 have h':=l' _ _ h;simp only[DV] at h';obtain⟨p,xs,e,hq,ar⟩:=h';cases e;refine⟨λd ed=>?_,λhl=>⟨xs,hq,by rw[<- ar.length];simpa [oj] using hl⟩⟩;unfold oj at ed;rw[Zj,List.getElem?_zipIdx] at ed
 cases hx:ds[i]? with
 |none=>rw[hx] at ed;cases ed
 |some x =>
  rw[hx] at ed;have ed:D.tup [.int ((0+i:Nat):Int),x]=d:=Option.some.inj ed;rw[Nat.zero_add] at ed;subst ed;obtain⟨v,ev,dv⟩:=ar.get' i x hx;refine⟨⟨xs,v,hq,ev⟩,λz H' ⟨r,x1,hr,ez,eH,BW⟩=>?_⟩;have q1:=BW xs hq;rw[ev] at q1;cases q1;subst ez eH;exact EY S' hr rfl dv
noncomputable def An (fa:Env->ag->Res (List D)):Env->ag->Res (List D):=λenv s=>au (fa env s) λds s=>match ds with
 | [.tup xs]=>ok (oj xs) s
 |_=>none
theorem Sr (hg:Gl X "enumerate") (hm:X.mg "enumerate"=none) (ha:PA X [a] (tA X.K Ξ fa)) (hs:Zp [a] X.env=[(false,eval a X.env)]:=by rfl) :
  PI X (.Tuple elts kk wI) (.Call (.Name "enumerate" p) [a] [] pos) (dX X.K Ξ (An fa)) :=
 nY (ON hg hm ha hs) fun σ H R aB=>by
  obtain⟨w,env,eH,S,eo,h⟩:=aB;subst eH;refine⟨w,env,rfl,S,eo,(Out.au h).mono λw1 ds l1 S1 h1 vs ar=>?_⟩;split at h1
  ·obtain⟨v,r,rfl,dv,dr⟩:=ar
   have e3:r=[]:=dr;subst e3;have q1:=dv;simp only[DV] at q1;obtain⟨p,xs,rfl,hq,_⟩:=q1;exact⟨p,xs,rfl,hq,aK S1 h1 _ (Nw dv)⟩
  ·exact h1.elim
noncomputable def aC (fn:List D->ag->Res D) (fa:Env->ag->Res (List D)):Env->ag->Res D:=λenv s=>au (fa env s) λds s=>ne (fn ds s)
theorem aL {k:Nat} {fA:Addr} {fd:ZA} {JU:List Str} {fn:List D->ag->Res D} {x:Str} {p:Pos} (F:aV X.prog X.w X.K X.mg X.base aY k fA fd JU (bx X.K fn)) (hr:cM k X.A) (hg:Gl X x) (hm:X.mg x=some (.ref fA)) (hk:abp X.K (.ref fA)=true) (hb:Binds X.K fd JU [])
  (ha:PA X (e::es) (tA X.K Ξ fa)) (j4:(x==("__debug__":Str))=false:=by decide) (he:Zp (e::es) X.env=(false,eval e X.env)::Zp es X.env:=by rfl) (cZ:(ab5 pos (Zp es X.env)).any (·.1)=false:=by rfl) :
  PE X (.Call (.Name x p) (e::es) [] pos) (tE X.K Ξ (aC fn fa)):=cG (Qa F hr hg hm hk hb .nil Ud ha j4 he cZ) fun σ H Q aB=>by
 obtain⟨w,env,eH,S,eo,h⟩:=aB;subst eH;refine⟨w,env,rfl,S,eo,(Out.au h).mono λw1 ds l1 S1 h1 vs ar=>?_⟩;show bx X.K fn (vs++[]) w1.H Q E0;rw[aa8];exact⟨w1,ds,rfl,S1,ar,h1.ne⟩
theorem aw.env (h:aw K w ds vs) (n:Nat):bZ K w (ds.map some++Za (n-ds.length) none) (vs.map some++Za (n-vs.length) none):=by
 have hl:=h.length;refine⟨by simp[hl],λi d e=>?_⟩;by_cases hi:i<ds.length
 ·rw[Zm (by simpa using hi),Zj] at e
  rw[Zm (by simp;omega),Zj]
  cases hd:ds[i]? with
  |none=>rw[hd] at e;cases e
  |some d' =>
   rw[hd] at e;cases e;obtain⟨v,ev,dv⟩:=h.get' i d hd;exact⟨v,by rw[ev];rfl,dv⟩
 ·rw[ZK (by simpa using abH hi),aaq] at e
  split at e<;>cases e
end
theorem bI (F:oS K x qual st f fd) (S:bz N ps (aX st))
 (hb:∀(bg:Value) (A:ZX) (outer:List PySem.Env) (s:Y4) (H:Hp) (E:XK),cM k (A.deeper (PyProof.Rows.envOfC qual (aX st) s.heap.objs.size f bg))->eD (oA aY P w K mg base N qual (aX st) f bg A outer s H E).sP (lg st) (tS K cI b)) :
  aV P w K mg base aY (k+1) f fd ps (bx K (bc ps.length N.length b)):=by
 refine F.ok S (λvs H Q E h=>?_) (λbg A outer s H vs Q E hr h=>?_)
 ·obtain⟨w,ds,rfl,S,ar,h⟩:=h
  rw[<- ar.length];unfold bc at h;split at h
  ·assumption
  ·exact h.elim
 ·obtain⟨w,ds,rfl,S,ar,h⟩:=h
  refine⟨_,hb bg A outer s w.H E hr,?_⟩;unfold bc at h;split at h
  ·rename_i hl
   rw[<- hl] at h;refine⟨w,_,rfl,S,ar.env N.length,(Out.au h).mono λw1 fl l1 S1 h1=>?_⟩
   cases fl with
   |nx env=>intro bb _;exact aK S1 h1 _ rfl
   |rt d=>have q:=aK S1 h1;exact q
   |bk env=>exact h1.elim
   |ct env=>exact h1.elim
  ·exact h.elim
end DI
namespace DI
open PySem L2
mutual
noncomputable def py:D->ab8
 | .aA=>.none
 | .bl b=>.bool b
 | .int i=>.int i
 | .str x=>.str x
 | .tup ds=>.tuple (cy ds)
 | .lst ds=>.list (cy ds)
 | .aW ao=>.dict (ao.map λp=>(qu p.1,PyData.int p.2))
 | .aj _=>.none
 | .ty _=>.none
 | .bG _=>.none
noncomputable def cy:List D->List ab8
 | []=>[]
 |d::ds=>py d::cy ds
end
mutual
noncomputable def plain:D->Bool
 | .aA=>true
 | .bl _=>true
 | .int _=>true
 | .str _=>true
 | .tup ds=>lB ds
 | .lst ds=>lB ds
 | .aW _=>true
 | .aj _=>false
 | .ty _=>false
 | .bG _=>false
noncomputable def lB:List D->Bool
 | []=>true
 |d::ds=>plain d&&lB ds
end
mutual
noncomputable def lay:D->Bool
 | .aA=>true
 | .bl _=>true
 | .int _=>true
 | .str x=>ac5 x
 | .tup ds=>cO ds
 | .lst ds=>cO ds
 | .aW _=>false
 | .aj _=>false
 | .ty _=>false
 | .bG _=>false
noncomputable def cO:List D->Bool
 | []=>true
 |d::ds=>lay d&&cO ds
end
mutual
noncomputable def dep:D->Nat
 | .tup ds=>cB ds+1
 | .lst ds=>cB ds+1
 | .aW ao=>1
 | .aA=>0
 | .bl _=>0
 | .int _=>0
 | .str _=>0
 | .aj _=>0
 | .ty _=>0
 | .bG _=>0
noncomputable def cB:List D->Nat
 | []=>0
 |d::ds=>max (dep d) (cB ds)
end
mutual
noncomputable def beq:D->D->Bool
 | .aA,.aA=>true
 | .bl a,.bl b=>a==b
 | .bl a,.int j=>(if a then 1 else 0)==j
 | .int i,.bl b=>i==(if b then 1 else 0)
 | .int i,.int j=>i==j
 | .str x,.str y=>x==y
 | .tup xs,.tup ys=>fI xs ys
 | .lst xs,.lst ys=>fI xs ys
 |_,_=>false
noncomputable def fI:List D->List D->Bool
 | [],[]=>true
 |x::xs,y::ys=>beq x y&&fI xs ys
 |_,_=>false
end
mutual
theorem nO:∀(d:D),lay d=true->plain d=true
 | .aA,_=>rfl
 | .bl _,_=>rfl
 | .int _,_=>rfl
 | .str _,_=>rfl
 | .tup ds,h=>by simp only[lay,plain] at h |-;exact nL ds h
 | .lst ds,h=>by simp only[lay,plain] at h |-;exact nL ds h
 | .aW _,h=>by simp[lay] at h
 | .aj _,h=>by simp[lay] at h
 | .ty _,h=>by simp[lay] at h
 | .bG _,h=>by simp[lay] at h
theorem nL:∀(ds:List D),cO ds=true->lB ds=true
 | [],_=>rfl
 |d::ds,h=>by
  simp only[cO,lB,Y3] at h |-;exact⟨nO d h.1,nL ds h.2⟩
end
mutual
theorem jF:∀(d:D),lay d=true->(py d).canLay0=true/\(py d).depth=dep d
 | .aA,_=>⟨rfl,by simp[py,dep,PyData.depth]⟩
 | .bl _,_=>⟨rfl,by simp[py,dep,PyData.depth]⟩
 | .int _,_=>⟨rfl,by simp[py,dep,PyData.depth]⟩
 | .str _,h=>⟨h,by simp[py,dep,PyData.depth]⟩
 | .tup ds,h=>by
  obtain⟨h1,h2⟩:=rb ds (by simpa [lay] using h);simp only[py,dep,PyData.depth,PyData.canLay0];exact⟨h1,by rw[h2]⟩
 | .lst ds,h=>by
  obtain⟨h1,h2⟩:=rb ds (by simpa [lay] using h);simp only[py,dep,PyData.depth,PyData.canLay0];exact⟨h1,by rw[h2]⟩
 | .aW _,h=>by simp[lay] at h
 | .aj _,h=>by simp[lay] at h
 | .ty _,h=>by simp[lay] at h
 | .bG _,h=>by simp[lay] at h
theorem rb:∀(ds:List D),cO ds=true->PyData.canLayAll0 (cy ds)=true/\abT (cy ds)=cB ds
 | [],_=>⟨rfl,rfl⟩
 |d::ds,h=>by
  simp only[cO,Y3] at h;obtain⟨a1,a2⟩:=jF d h.1;obtain⟨b1,b2⟩:=rb ds h.2;simp only[cy,cB,PyData.canLayAll0,abT,a1,b1,a2,b2,aay,and_self]
end
mutual
theorem qb:∀(d e:D),lay d=true->lay e=true->aar (py d) (py e)=beq d e
 | .tup xs,.tup ys,h,g=>by
  simp only[py,beq,aar];exact yA xs ys (by simpa [lay] using h) (by simpa [lay] using g)
 | .lst xs,.lst ys,h,g=>by
  simp only[py,beq,aar];exact yA xs ys (by simpa [lay] using h) (by simpa [lay] using g)
 | .aA,e,_,g=>by cases e<;>simp_all [py,beq,aar,lay]
 | .bl _,e,_,g=>by cases e<;>simp_all [py,beq,aar,lay]
 | .int _,e,_,g=>by cases e<;>simp_all [py,beq,aar,lay]
 | .str _,e,_,g=>by cases e<;>simp_all [py,beq,aar,lay]
 | .tup _,.aA,_,_=>by simp[py,beq,aar]
 | .tup _,.bl _,_,_=>by simp[py,beq,aar]
 | .tup _,.int _,_,_=>by simp[py,beq,aar]
 | .tup _,.str _,_,_=>by simp[py,beq,aar]
 | .tup _,.lst _,_,_=>by simp[py,beq,aar]
 | .lst _,.aA,_,_=>by simp[py,beq,aar]
 | .lst _,.bl _,_,_=>by simp[py,beq,aar]
 | .lst _,.int _,_,_=>by simp[py,beq,aar]
 | .lst _,.str _,_,_=>by simp[py,beq,aar]
 | .lst _,.tup _,_,_=>by simp[py,beq,aar]
 | .aW _,_,h,_=>by simp[lay] at h
 | .aj _,_,h,_=>by simp[lay] at h
 | .ty _,_,h,_=>by simp[lay] at h
 | .bG _,_,h,_=>by simp[lay] at h
 |_,.aW _,_,h=>by simp[lay] at h
 |_,.aj _,_,h=>by simp[lay] at h
 |_,.ty _,_,h=>by simp[lay] at h
 |_,.bG _,_,h=>by simp[lay] at h
theorem yA:∀(ds es:List D),cO ds=true->cO es=true->PyData.eqvAll (cy ds) (cy es)=fI ds es
 | [],[],_,_=>rfl
 | [],_::_,_,_=>rfl
 |_::_,[],_,_=>rfl
 |d::ds,e::es,h,g=>by
  simp only[cO,Y3] at h g;simp only[cy,fI,PyData.eqvAll,qb d e h.1 g.1,yA ds es h.2 g.2]
end
mutual
theorem DV.py:∀{d:D} {v:V},DV K w d v->plain d=true->L2.DV K (λ_=>False) w.H (DI.py d) v
 | .aA,_,h,_=>h
 | .bl _,_,h,_=>h
 | .int _,_,h,_=>h
 | .str _,_,h,_=>h
 | .tup ds,v,h,p=>by
  simp only[DV] at h;obtain⟨a,xs,e,hq,r⟩:=h;simp only[DI.py,L2.DV];exact⟨a,xs,e,hq,aw.py r (by simpa [plain] using p)⟩
 | .lst ds,v,h,p=>by
  simp only[DV] at h;obtain⟨a,xs,e,hq,r⟩:=h;simp only[DI.py,L2.DV];exact⟨a,xs,e,not_false,hq.2,aw.py r (by simpa [plain] using p)⟩
 | .aW ao,v,h,p=>by
  simp only[DV] at h;obtain⟨a,e,hz,hq⟩:=h;simp only[DI.py,L2.DV];exact⟨a,_,e,not_false,hq,ao,rfl,rfl⟩
 | .aj _,_,_,p=>by simp[plain] at p
 | .ty _,_,_,p=>by simp[plain] at p
 | .bG _,_,_,p=>by simp[plain] at p
theorem aw.py:∀{ds:List D} {vs:List V},aw K w ds vs->lB ds=true->L2.aw K (λ_=>False) w.H (DI.cy ds) vs
 | [],_,h,_=>h
 |d::ds,vs,h,p=>by
  simp only[aw] at h;obtain⟨v,r,e,h1,h2⟩:=h;simp only[lB,Y3] at p;exact⟨v,r,e,DV.py h1 p.1,aw.py h2 p.2⟩
end
noncomputable def res (d:D) (s:ag):D:=match d with
 | .aj k=>match s[k]? with
  |some (.lst ds)=>.lst ds
  |_=>d
 |_=>d
theorem DV.res (S:aN K w) (h:DV K w d v) (p:plain (DI.res d w.aJ)=true):L2.DV K (λ_=>False) w.H (DI.py (DI.res d w.aJ)) v:=by
 cases d with
 |aj k =>
  unfold DI.res at p |-;simp only at p |-
  split at p<;>rename_i hk
  ·rename_i ds
   obtain⟨a,e1,rfl⟩:=h;obtain⟨xs,q1,q2⟩:=S.cell k a _ e1 hk;simp only[DI.py,L2.DV];exact⟨a,xs,rfl,not_false,q1,q2.py (by simpa [plain] using p)⟩
  ·simp[plain] at p
 |_=>exact h.py p
noncomputable def i7:D->Bool
 | .str _=>true
 |_=>false
theorem Ss (h:i7 d=true):∃x,d=.str x:=by cases d<;>first|exact⟨_,rfl⟩|cases h
noncomputable def fE (x y:D):Option Bool:=if (i7 x&&i7 y)=true then some (beq x y) else if (lay x&&lay y&&decide (min (dep x) (dep y)<=100))=true then some (beq x y) else none
noncomputable def aT (x y:D) (s:ag):Res D:=match fE (res x s) (res y s) with
 |some b=>ok (.bl b) s
 |none=>none
noncomputable def ei (x y:D) (s:ag):Res D:=match fE (res x s) (res y s) with
 |some b=>ok (.bl (!b)) s
 |none=>none
theorem Gv (S:aN K w) (hx:DV K w x v) (hy:DV K w y u) (h:fE (res x w.aJ) (res y w.aJ)=some b) :
  (AU v u=true/\decide (v=u)=b)\/∃(d e:ab8),L2.DV K (λ_=>False) w.H d v/\L2.DV K (λ_=>False) w.H e u/\d.canLay0=true/\e.canLay0=true/\min d.depth e.depth<=100/\aar d e=b:=by
 have str:∀{d:D} {v:V},i7 (res d w.aJ)=true->DV K w d v->∃x,res d w.aJ=.str x/\v=.str x:=λ{d v} hs hd=>by
  obtain⟨x,e⟩:=Ss hs
  cases d with
  |str y=>cases e;exact⟨x,rfl,hd⟩
  |aj k =>
   unfold res at e;simp only at e
   split at e<;>cases e
  |_=>cases e
 unfold fE at h;split at h
 ·rename_i hs
  rw[Y3] at hs;obtain⟨a,ea,rfl⟩:=str hs.1 hx;obtain⟨c,ec,rfl⟩:=str hs.2 hy;rw[ea,ec] at h;exact .inl ⟨rfl,by rw[<- Option.some.inj h];exact yX⟩
 split at h
 ·rename_i hl
  right;simp only[Y3,decide_eq_true_eq] at hl;obtain⟨⟨l1,l2⟩,l3⟩:=hl;obtain⟨p1,p2⟩:=jF _ l1;obtain⟨q1,q2⟩:=jF _ l2;exact⟨_,_,hx.res S (nO _ l1),hy.res S (nO _ l2),p1,q1,by rw[p2,q2];exact l3,by rw[qb _ _ l1 l2];exact Option.some.inj h⟩
 ·cases h
section
variable {X:Cx} {Ξ:Wd->bH->Prop}
theorem cY (hr:cM k X.A):bj X (aag .Eq) (rO X.K Ξ aT):=by
 rintro pins s σ H x y v u Q I rx ry ⟨w,dx,dy,rfl,S,hx,hy,h⟩;unfold aT at h;split at h
 ·rename_i b hb
  rcases Gv S hx hy hb with ⟨h1,h2⟩ | ⟨d,e,h1,h2,h3,h4,h5,h6⟩
  ·exact TR pins s σ w.H x y v u Q I rx ry ⟨h1,by rw[h2];exact aK S h _ rfl⟩
  exact Sf hr pins s σ w.H x y v u Q I rx ry ⟨d,e,_,h1,h2,h3,h4,h5,by simp only[Y2,if_false];rw[h6];exact aK S h _ rfl⟩
 ·exact h.elim
theorem iC (hr:cM k X.A):bj X (aag .NotEq) (rO X.K Ξ ei):=by
 rintro pins s σ H x y v u Q I rx ry ⟨w,dx,dy,rfl,S,hx,hy,h⟩;unfold ei at h;split at h
 ·rename_i b hb
  rcases Gv S hx hy hb with ⟨h1,h2⟩ | ⟨d,e,h1,h2,h3,h4,h5,h6⟩
  ·exact TU pins s σ w.H x y v u Q I rx ry ⟨h1,by rw[h2];exact aK S h _ rfl⟩
  exact Sg hr pins s σ w.H x y v u Q I rx ry ⟨d,e,_,h1,h2,h3,h4,h5,by simp only[if_true];rw[h6];exact aK S h _ rfl⟩
 ·exact h.elim
end
end DI
namespace DI
open PySem L2
noncomputable def bF (r:Option D) (s:ag):Res D:=match r with
 |some d=>ok d s
 |none=>none
theorem ff (h:Out K Ξ w (bF r w.aJ) k):∃d,r=some d/\Out K Ξ w (ok d w.aJ) k:=by
 unfold bF at h;split at h
 ·exact⟨_,rfl,h⟩
 ·exact h.elim
noncomputable def jQ (xs ys:List D):Bool:=decide (xs.length+ys.length<=Zf)
noncomputable def oF:D->D->Option D
 | .int i,.int j=>some (.int (i+j))
 | .tup xs,.tup ys=>if jQ xs ys=true then some (.tup (xs++ys)) else none
 | .lst xs,.lst ys=>if jQ xs ys=true then some (.lst (xs++ys)) else none
 | .str x,.str y=>if decide (x.length+y.length<=Zf)=true then some (.str (x++y)) else none
 |_,_=>none
noncomputable def bY (x y:D) (s:ag):Res D:=bF (oF (res x s) (res y s)) s
noncomputable def Jj:D->D->Option D
 | .int i,.int j=>some (.int (i-j))
 |_,_=>none
noncomputable def ql (x y:D) (s:ag):Res D:=bF (Jj x y) s
noncomputable def rY (i j:Int):Bool:=(decide (-(2 ^ 64)<i)&&decide (i<2 ^ 64))||(decide (-(2 ^ 64)<j)&&decide (j<2 ^ 64))
noncomputable def Ba:D->D->Option D
 | .int i,.int j=>if rY i j=true then some (.int (i*j)) else none
 | .tup xs,.int k=>if (!xs.isEmpty&&decide (1<=k)&&decide (xs.length*k.toNat<=Zf))=true then some (.tup (Za k.toNat xs).flatten) else none
 | .lst xs,.int k=>if (decide (-(2 ^ 63)<=k)&&decide (k<2 ^ 63)&&decide (xs.length*k.toNat<=Zf))=true then some (.lst (Za k.toNat xs).flatten) else none
 |_,_=>none
noncomputable def iN (x y:D) (s:ag):Res D:=bF (Ba x y) s
noncomputable def Bb:D->D->Option D
 | .int i,.int j=>if decide (0<j)=true then some (.int (i % j)) else none
 |_,_=>none
noncomputable def jh (x y:D) (s:ag):Res D:=bF (Bb x y) s
noncomputable def Bc:D->D->Option D
 | .int i,.int j=>if (decide (0<j)&&decide (j<1073741824))=true then some (.int (i / j)) else none
 |_,_=>none
noncomputable def rZ (x y:D) (s:ag):Res D:=bF (Bc x y) s
noncomputable def Bd:D->D->Option D
 | .int i,.int j=>if (decide (0<=j)&&decide (j<=1000000)&&decide (i.natAbs<2 ^ 64))=true then some (.int (i ^ j.toNat)) else none
 |_,_=>none
noncomputable def qm (x y:D) (s:ag):Res D:=bF (Bd x y) s
noncomputable def Jk:D->Option D
 | .int i=>some (.int (-i))
 |_=>none
noncomputable def mH (x:D) (s:ag):Res D:=bF (Jk x) s
theorem aw.flat (h:aw K w ds vs):∀n:Nat,aw K w (Za n ds).flatten (Za n vs).flatten
 |0=>rfl
 |n+1=>by
  rw[aaR,aaR,abu,abu];exact aw.append h (aw.flat h n)
theorem iy (S:aN K w) (h:DV K w d v) (e:res d w.aJ=.lst ds):∃a xs,v=.ref a/\w.H a=some (.lst xs)/\aw K w ds xs:=by
 unfold res at e;split at e
 ·rename_i k
  split at e
  ·rename_i es hk
   cases e;obtain⟨a,e1,rfl⟩:=h;obtain⟨xs,q1,q2⟩:=S.cell k a _ e1 hk;exact⟨a,xs,rfl,q1,q2⟩
  ·cases e
 ·subst e
  simp only[DV] at h;obtain⟨a,xs,e,hq,r⟩:=h;exact⟨a,xs,e,hq.2,r⟩
theorem dZ (h:res d s=e) (hl:∀ds,e≠.lst ds):d=e:=by
 unfold res at h;split at h
 ·split at h
  ·exact absurd h.symm (hl _)
  ·exact h
 ·exact h
section
variable {X:Cx} {Ξ:Wd->bH->Prop}
theorem mQ (S:aN K w) (ar:aw K w ds vs) (h:Out K Ξ w (ok (D.tup ds) w.aJ) λw' d=>∀v,DV K w' d v->Q v w'.H):lR K w.H vs Q:=λa H' e hq =>
 h (w.same H') (Fw.same e).le (S.same e) rfl (.ref a) ⟨a,vs,rfl,hq,(Fw.same e).le.all ar⟩
theorem qw {K:Frag} {w:Wd} {ds:List D} {vs:List V} {Q:VK} (S:aN K w) (ar:aw K w ds vs) (h:Out K Ξ w (ok (D.lst ds) w.aJ) λw' d=>∀v,DV K w' d v->Q v w'.H):∀p,w.H p=none->Q (.ref p) (upd w.H p (.lst vs)):=λp hp =>
 h (w.grow p (.lst vs)) (Fw.grow hp).le (S.grow hp) rfl (.ref p) ⟨p,vs,rfl,⟨(show ¬ w.Z p from lu S hp),cF⟩,(Fw.grow hp).le.all ar⟩
theorem Su {K:Frag} {w:Wd} {ds:List D} {vs:List V} {Q:VK} (S:aN K w) (ar:aw K w ds vs) (h:Out K Ξ w (ok (D.tup ds) w.aJ) λw' d=>∀v,DV K w' d v->Q v w'.H):∀p,w.H p=none->Q (.ref p) (upd w.H p (.tup vs)):=λp hp =>
 h (w.grow p (.tup vs)) (Fw.grow hp).le (S.grow hp) rfl (.ref p) ⟨p,vs,rfl,aS.of cF,(Fw.grow hp).le.all ar⟩
theorem fm:bj X (aaO .Add) (rO X.K Ξ bY):=by
 rintro pins s σ H x y v u Q I rx ry ⟨w,dx,dy,rfl,S,hx,hy,h⟩;obtain⟨d,e,h⟩:=ff h;unfold oF at e;split at e
 ·rename_i i j e1 e2
  rw[dZ e1 (by intro _ z;cases z)] at hx;rw[dZ e2 (by intro _ z;cases z)] at hy;cases e;cases hx;cases hy;exact RV pins s σ w.H _ _ v u Q I rx ry ⟨i,j,rfl,rfl,aK S h _ rfl⟩
 ·rename_i xs ys e1 e2
  rw[dZ e1 (by intro _ z;cases z)] at hx;rw[dZ e2 (by intro _ z;cases z)] at hy;split at e
  ·rename_i hl
   cases e;simp only[DV] at hx hy;obtain⟨a,as,rfl,ha,gP⟩:=hx;obtain⟨b,bs,rfl,hb,ny⟩:=hy;exact Ql pins s σ w.H _ _ v u Q I rx ry ⟨a,b,as,bs,rfl,rfl,ha,hb,by rw[<- gP.length,<- ny.length];exact of_decide_eq_true hl,mQ S (gP.append ny) h⟩
  ·cases e
 ·rename_i xs ys e1 e2
  split at e
  ·rename_i hl
   cases e;obtain⟨a,as,rfl,ha,gP⟩:=iy S hx e1;obtain⟨b,bs,rfl,hb,ny⟩:=iy S hy e2;exact G9 pins s σ w.H _ _ v u Q I rx ry ⟨a,b,as,bs,rfl,rfl,ha,hb,by rw[<- gP.length,<- ny.length];exact of_decide_eq_true hl,qw S (gP.append ny) h⟩
  ·cases e
 ·rename_i i j e1 e2
  rw[dZ e1 (by intro _ z;cases z)] at hx;rw[dZ e2 (by intro _ z;cases z)] at hy;split at e
  ·rename_i hl
   cases e;cases hx;cases hy;exact Md pins s σ w.H _ _ v u Q I rx ry ⟨i,j,rfl,rfl,of_decide_eq_true hl,aK S h _ rfl⟩
  ·cases e
 ·cases e
theorem Ao:bj X (aaO .Sub) (rO X.K Ξ ql):=by
 rintro pins s σ H x y v u Q I rx ry ⟨w,dx,dy,rfl,S,hx,hy,h⟩;obtain⟨d,e,h⟩:=ff h;unfold Jj at e;split at e
 ·rename_i i j
  cases e;cases hx;cases hy;exact RW pins s σ w.H _ _ v u Q I rx ry ⟨i,j,rfl,rfl,aK S h _ rfl⟩
 ·cases e
theorem r6:bj X (aaO .Mult) (rO X.K Ξ iN):=by
 rintro pins s σ H x y v u Q I rx ry ⟨w,dx,dy,rfl,S,hx,hy,h⟩;obtain⟨d,e,h⟩:=ff h;unfold Ba at e;split at e
 ·rename_i i j
  split at e
  ·rename_i hm
   cases e;cases hx;cases hy;refine RX pins s σ w.H _ _ v u Q I rx ry ⟨i,j,rfl,rfl,?_,aK S h _ rfl⟩;unfold wH;simpa [rY] using hm
  ·cases e
 ·rename_i xs k
  split at e
  ·rename_i hm
   cases e;cases hy;simp only[Y3,decide_eq_true_eq] at hm;simp only[DV] at hx;obtain⟨a,as,rfl,ha,gP⟩:=hx;have hl:=gP.length;refine Qt pins s σ w.H _ _ v u Q I rx ry ⟨a,as,k,rfl,rfl,ha,?_,hm.1.2,by rw[<- hl];exact hm.2,mQ S (gP.flat _) h⟩;intro z;subst z
   cases xs with
   |nil=>simp at hm
   |cons _ _=>cases hl
  ·cases e
 ·rename_i xs k
  split at e
  ·rename_i hm
   cases e;cases hy;simp only[Y3,decide_eq_true_eq] at hm;simp only[DV] at hx;obtain⟨a,as,rfl,ha,gP⟩:=hx;exact R9 pins s σ w.H _ _ v u Q I rx ry ⟨a,k,as,rfl,rfl,ha.2,hm.1.1,hm.1.2,by rw[<- gP.length];exact hm.2,qw S (gP.flat _) h⟩
  ·cases e
 ·cases e
theorem om:bj X (aaO .Mod) (rO X.K Ξ jh):=by
 rintro pins s σ H x y v u Q I rx ry ⟨w,dx,dy,rfl,S,hx,hy,h⟩;obtain⟨d,e,h⟩:=ff h;unfold Bb at e;split at e
 ·rename_i i j
  split at e
  ·rename_i hm
   cases e;cases hx;cases hy;exact RY pins s σ w.H _ _ v u Q I rx ry ⟨i,j,rfl,rfl,of_decide_eq_true hm,aK S h _ rfl⟩
  ·cases e
 ·cases e
theorem Io:bj X (aaO .FloorDiv) (rO X.K Ξ rZ):=by
 rintro pins s σ H x y v u Q I rx ry ⟨w,dx,dy,rfl,S,hx,hy,h⟩;obtain⟨d,e,h⟩:=ff h;unfold Bc at e;split at e
 ·rename_i i j
  split at e
  ·rename_i hm
   simp only[Y3,decide_eq_true_eq] at hm;cases e;cases hx;cases hy;exact P7 pins s σ w.H _ _ v u Q I rx ry ⟨i,j,rfl,rfl,hm,aK S h _ rfl⟩
  ·cases e
 ·cases e
theorem Ap:bj X (aaO .Pow) (rO X.K Ξ qm):=by
 rintro pins s σ H x y v u Q I rx ry ⟨w,dx,dy,rfl,S,hx,hy,h⟩;obtain⟨d,e,h⟩:=ff h;unfold Bd at e;split at e
 ·rename_i i j
  split at e
  ·rename_i hm
   simp only[Y3,decide_eq_true_eq] at hm;cases e;cases hx;cases hy;exact RZ pins s σ w.H _ _ v u Q I rx ry ⟨i,j,rfl,rfl,⟨hm.1.1,hm.1.2,hm.2⟩,aK S h _ rfl⟩
  ·cases e
 ·cases e
theorem r9:sW X (unaryOp .USub) (rU X.K Ξ mH):=by
 rintro pins s σ H x v Q I rx ⟨w,dx,rfl,S,hx,h⟩;obtain⟨d,e,h⟩:=ff h;unfold Jk at e;split at e
 ·rename_i i
  cases e;cases hx;exact G4 pins s σ w.H _ v Q I rx ⟨i,rfl,aK S h _ rfl⟩
 ·cases e
noncomputable def qx (p:Int->Int->Bool):D->D->Option D
 | .int i,.int j=>some (.bl (p i j))
 |_,_=>none
noncomputable def mR (x y:D) (s:ag):Res D:=bF (qx (λi j=>decide (i<=j)) x y) s
noncomputable def wU (x y:D) (s:ag):Res D:=bF (qx (λi j=>decide (j<i)) x y) s
noncomputable def wV (x y:D) (s:ag):Res D:=bF (qx (λi j=>decide (j<=i)) x y) s
theorem su:bj X (aag .LtE) (rO X.K Ξ mR):=by
 rintro pins s σ H x y v u Q I rx ry ⟨w,dx,dy,rfl,S,hx,hy,h⟩;obtain⟨d,e,h⟩:=ff h;unfold qx at e;split at e
 ·rename_i i j
  cases e;cases hx;cases hy;exact TV pins s σ w.H _ _ v u Q I rx ry ⟨i,j,rfl,rfl,aK S h _ rfl⟩
 ·cases e
theorem VI:bj X (aag .Gt) (rO X.K Ξ wU):=by
 rintro pins s σ H x y v u Q I rx ry ⟨w,dx,dy,rfl,S,hx,hy,h⟩;obtain⟨d,e,h⟩:=ff h;unfold qx at e;split at e
 ·rename_i i j
  cases e;cases hx;cases hy;exact TX pins s σ w.H _ _ v u Q I rx ry ⟨i,j,rfl,rfl,aK S h _ rfl⟩
 ·cases e
theorem VJ:bj X (aag .GtE) (rO X.K Ξ wV):=by
 rintro pins s σ H x y v u Q I rx ry ⟨w,dx,dy,rfl,S,hx,hy,h⟩;obtain⟨d,e,h⟩:=ff h;unfold qx at e;split at e
 ·rename_i i j
  cases e;cases hx;cases hy;exact TY pins s σ w.H _ _ v u Q I rx ry ⟨i,j,rfl,rfl,aK S h _ rfl⟩
 ·cases e
noncomputable def ic (d i:D) (s:ag):Option D:=match res d s,i with
 | .lst ds,.int i=>eI ds i
 | .tup ds,.int i=>eI ds i
 | .bG ns,.int i=>(eI ns i).map D.int
 | .str x,.int i=>if decide (x.length<=Zf)=true then (eI x.cps.toList i).map λc=>.str ⟨#[c]⟩ else none
 |_,_=>none
noncomputable def aq (x y:D) (s:ag):Res D:=bF (ic x y s) s
theorem aw.at (h:aw K w ds vs) (e:eI ds i=some d):∃v,eI vs i=some v/\DV K w d v:=by
 unfold eI at e |-;rw[h.length] at e
 cases hi:fq vs.length i with
 |none=>rw[hi] at e;cases e
 |some j =>
  rw[hi] at e;exact h.get' j d e
theorem VL:tw X (rO X.K Ξ aq):=by
 rintro value slice pins s σ H x y v u Q I rx ry ⟨w,dx,dy,rfl,S,hx,hy,h⟩ hs;obtain⟨d,e,h2⟩:=ff h;clear h;unfold ic at e;split at e
 ·rename_i ds i e1
  cases hy;obtain⟨a,xs,rfl,ha,ar⟩:=iy S hx e1;obtain⟨z,ez,dz⟩:=ar.at e;exact Gb value slice pins s σ w.H _ _ v u Q I rx ry ⟨a,xs,i,z,rfl,rfl,bQ.of ha,ez,aK S h2 _ dz⟩ hs
 ·rename_i ds i e1
  cases hy;rw[dZ e1 (by intro _ z;cases z)] at hx;simp only[DV] at hx;obtain⟨a,xs,rfl,ha,ar⟩:=hx;obtain⟨z,ez,dz⟩:=ar.at e;exact R5 value slice pins s σ w.H _ _ v u Q I rx ry ⟨a,xs,i,z,rfl,rfl,ha,ez,aK S h2 _ dz⟩ hs
 ·rename_i ns i e1
  cases hy;rw[dZ e1 (by intro _ z;cases z)] at hx;simp only[DV] at hx;obtain⟨a,rfl,ha⟩:=hx
  cases hn:eI ns i with
  |none=>rw[hn] at e;cases e
  |some n =>
   rw[hn] at e;cases e;refine Gb value slice pins s σ w.H _ _ v u Q I rx ry ⟨a,ns.map V.int,i,.int n,rfl,rfl,ha.sq,?_,aK S h2 _ rfl⟩ hs;unfold eI at hn |-;rw[Y1]
   cases hj:fq ns.length i with
   |none=>rw[hj] at hn;cases hn
   |some j =>
    rw[hj] at hn;show (ns.map V.int)[j]?=some (.int n);rw[Zj,show ns[j]?=some n from hn];rfl
 ·rename_i z i e1
  cases hy;rw[dZ e1 (by intro _ z;cases z)] at hx;cases hx;split at e
  ·rename_i hl
   cases hc:eI z.cps.toList i with
   |none=>rw[hc] at e;cases e
   |some c =>
    rw[hc] at e;cases e;exact R6 value slice pins s σ w.H _ _ v u Q I rx ry ⟨z,i,c,rfl,rfl,of_decide_eq_true hl,hc,aK S h2 _ rfl⟩ hs
  ·cases e
 ·cases e
theorem aQ (ha:PE X a (tE X.K Ξ f)) (hb:PE X b (tE X.K Ξ g)) (hs:Ga b:=by intro _ _;rfl):PE X (.Subscript a b pos) (tE X.K Ξ (e2 aq f g)):=cG (T9 VL ha hb hs) vA
noncomputable def wW (d:D) (s:ag):Option D:=match res d s with
 | .lst ds=>some (.int ds.length)
 | .tup ds=>some (.int ds.length)
 | .bG ns=>some (.int ns.length)
 | .str x=>if decide (x.length<=Zf)=true then some (.int x.length) else none
 |_=>none
noncomputable def dj (ds:List D) (s:ag):Res D:=match ds with
 | [d]=>bF (wW d s) s
 |_=>none
theorem lC (h:aw K w [d] vs):∃v,vs=[v]/\DV K w d v:=by
 obtain⟨v,r,rfl,dv,dr⟩:=h;have e:r=[]:=dr;subst e;exact⟨v,rfl,dv⟩
theorem rJ (h:aw K w [d,e] vs):∃v u,vs=[v,u]/\DV K w d v/\DV K w e u:=by
 obtain⟨v,r,rfl,dv,h⟩:=h;obtain⟨u,rfl,du⟩:=lC h;exact⟨v,u,rfl,dv,du⟩
theorem kB:cf X (.builtin "len") (rC X.K Ξ dj):=by
 rintro pins s σ H xs us Q I r ⟨w,ds,rfl,S,ar,h⟩;unfold dj at h;split at h
 ·obtain⟨v,rfl,dv⟩:=lC ar
  obtain⟨d,e,h⟩:=ff h;unfold wW at e;split at e
  ·rename_i ys e1
   cases e;obtain⟨a,xs,rfl,ha,ar⟩:=iy S dv e1;exact xX pins s σ w.H _ us Q I r ⟨a,xs,rfl,.inl (bQ.of ha),by rw[<- ar.length];exact aK S h _ rfl⟩
  ·rename_i ys e1
   cases e;rw[dZ e1 (by intro _ z;cases z)] at dv;simp only[DV] at dv;obtain⟨a,xs,rfl,ha,ar⟩:=dv;exact xX pins s σ w.H _ us Q I r ⟨a,xs,rfl,.inr ha,by rw[<- ar.length];exact aK S h _ rfl⟩
  ·rename_i ns e1
   cases e;rw[dZ e1 (by intro _ z;cases z)] at dv;simp only[DV] at dv;obtain⟨a,rfl,ha⟩:=dv;exact xX pins s σ w.H _ us Q I r ⟨a,ns.map V.int,rfl,.inl ha.sq,by rw[Y1];exact aK S h _ rfl⟩
  ·rename_i z e1
   rw[dZ e1 (by intro _ z;cases z)] at dv;cases dv;split at e
   ·rename_i hl
    cases e;exact K6 pins s σ w.H _ us Q I r ⟨z,rfl,of_decide_eq_true hl,aK S h _ rfl⟩
   ·cases e
  ·cases e
 ·exact h.elim
noncomputable def ie:List D->Option (List Bool)
 | []=>some []
 | .bl b::ds=>(ie ds).map λr=>b::r
 |_::_=>none
theorem zH:∀{ds:List D} {bs:List Bool},ie ds=some bs->ds=bs.map D.bl
 | [],bs,h=>by cases h;rfl
 | .bl b::ds,bs,h=>by
  simp only[ie] at h
  cases hd:ie ds with
  |none=>rw[hd] at h;cases h
  |some r=>rw[hd] at h;cases h;rw[zH hd];rfl
 | .aA::_,_,h=>by cases h
 | .int _::_,_,h=>by cases h
 | .str _::_,_,h=>by cases h
 | .tup _::_,_,h=>by cases h
 | .lst _::_,_,h=>by cases h
 | .aW _::_,_,h=>by cases h
 | .aj _::_,_,h=>by cases h
 | .ty _::_,_,h=>by cases h
 | .bG _::_,_,h=>by cases h
theorem QA:ie (bs.map D.bl)=some bs:=by
 induction bs with
 |nil=>rfl
 |cons b bs ih=>simp only[Zl,ie,ih,aaU]
noncomputable def jR (ds:List D) (s:ag):Res D:=match ds with
 | [d]=>match res d s with
  | .lst es=>bF ((ie es).map λbs=>.bl (bs.all id)) s
  |_=>none
 |_=>none
noncomputable def oG (ds:List D) (s:ag):Res D:=match ds with
 | [d]=>match res d s with
  | .lst es=>bF ((ie es).map λbs=>.bl (bs.any id)) s
  |_=>none
 |_=>none
theorem mI (hc:X.calm=true):cf X (.builtin "all") (rC X.K Ξ jR):=by
 rintro pins s σ H xs us Q I r ⟨w,ds,rfl,S,ar,h⟩;unfold jR at h;split at h
 ·obtain⟨v,rfl,dv⟩:=lC ar
  split at h
  ·rename_i es e1
   obtain⟨d,e,h⟩:=ff h
   cases hb:ie es with
   |none=>rw[hb] at e;cases e
   |some bs =>
    rw[hb] at e;cases e;obtain⟨a,xs,rfl,ha,ar⟩:=iy S dv e1;rw[zH hb] at ar;rw[ar.ze] at ha;exact Oy hc pins s σ w.H _ us Q I r ⟨a,bs,rfl,bQ.of ha,aK S h _ rfl⟩
  ·exact h.elim
 ·exact h.elim
theorem Aq (hc:X.calm=true):cf X (.builtin "any") (rC X.K Ξ oG):=by
 rintro pins s σ H xs us Q I r ⟨w,ds,rfl,S,ar,h⟩;unfold oG at h;split at h
 ·obtain⟨v,rfl,dv⟩:=lC ar
  split at h
  ·rename_i es e1
   obtain⟨d,e,h⟩:=ff h
   cases hb:ie es with
   |none=>rw[hb] at e;cases e
   |some bs =>
    rw[hb] at e;cases e;obtain⟨a,xs,rfl,ha,ar⟩:=iy S dv e1;rw[zH hb] at ar;rw[ar.ze] at ha;exact Oz hc pins s σ w.H _ us Q I r ⟨a,bs,rfl,bQ.of ha,aK S h _ rfl⟩
  ·exact h.elim
 ·exact h.elim
noncomputable def kC (ds:List D) (s:ag):Res D:=match ds with
 | [.int i,.int j]=>ok (.int (if j > i then j else i)) s
 |_=>none
noncomputable def wq (ds:List D) (s:ag):Res D:=match ds with
 | [.int i,.int j]=>ok (.int (if j<i then j else i)) s
 |_=>none
theorem zI (hc:X.calm=true):cf X (.builtin "max") (rC X.K Ξ kC):=by
 rintro pins s σ H xs us Q I r ⟨w,ds,rfl,S,ar,h⟩;unfold kC at h;split at h
 ·rename_i i j
  obtain⟨v,u,rfl,dv,du⟩:=rJ ar;cases dv;cases du;exact Nb hc pins s σ w.H _ us Q I r ⟨i,j,rfl,aK S h _ rfl⟩
 ·exact h.elim
theorem Sv (hc:X.calm=true):cf X (.builtin "min") (rC X.K Ξ wq):=by
 rintro pins s σ H xs us Q I r ⟨w,ds,rfl,S,ar,h⟩;unfold wq at h;split at h
 ·rename_i i j
  obtain⟨v,u,rfl,dv,du⟩:=rJ ar;cases dv;cases du;exact Nc hc pins s σ w.H _ us Q I r ⟨i,j,rfl,aK S h _ rfl⟩
 ·exact h.elim
noncomputable def cj (ds:List D) (s:ag):Res D:=match ds with
 | [d]=>match res d s with
  | .lst es=>ok (.tup es) s
  | .tup es=>ok (.tup es) s
  |_=>none
 |_=>none
theorem iJ:cf X (.type "tuple") (rC X.K Ξ cj):=by
 rintro pins s σ H xs us Q I r ⟨w,ds,rfl,S,ar,h⟩;unfold cj at h;split at h
 ·obtain⟨v,rfl,dv⟩:=lC ar
  split at h
  ·rename_i es e1
   obtain⟨a,xs,rfl,ha,ar⟩:=iy S dv e1;exact DE pins s σ w.H _ us Q I r ⟨a,xs,rfl,.inl ⟨bQ.of ha,Su S ar h⟩⟩
  ·rename_i es e1
   rw[dZ e1 (by intro _ z;cases z)] at dv;have oX:=dv;simp only[DV] at dv;obtain⟨a,xs,rfl,ha,ar⟩:=dv;exact DE pins s σ w.H _ us Q I r ⟨a,xs,rfl,.inr ⟨ha,aK S h _ oX⟩⟩
  ·exact h.elim
 ·exact h.elim
noncomputable def jH (ds:List D) (s:ag):Res D:=match ds with
 | [d]=>match res d s with
  | .lst es=>ok (.lst es) s
  | .tup es=>ok (.lst es) s
  |_=>none
 |_=>none
theorem v8:cf X (.type "list") (rC X.K Ξ jH):=by
 rintro pins s σ H xs us Q I r ⟨w,ds,rfl,S,ar,h⟩;unfold jH at h;split at h
 ·obtain⟨v,rfl,dv⟩:=lC ar
  split at h
  ·rename_i es e1
   obtain⟨a,xs,rfl,ha,ar⟩:=iy S dv e1;exact xY pins s σ w.H _ us Q I r ⟨a,xs,rfl,.inl (bQ.of ha),qw S ar h⟩
  ·rename_i es e1
   rw[dZ e1 (by intro _ z;cases z)] at dv;simp only[DV] at dv;obtain⟨a,xs,rfl,ha,ar⟩:=dv;exact xY pins s σ w.H _ us Q I r ⟨a,xs,rfl,.inr ha,qw S ar h⟩
  ·exact h.elim
 ·exact h.elim
end
end DI
namespace DI
open PySem L2
noncomputable def mJ (n:Nat) (x:D) (ds:List D):Bool:=lay x&&cO ds&&decide (dep x<=n)
noncomputable def inD (x:D) (ds:List D):Option Bool:=if mJ 100 x ds=true then some (ds.any λy=>beq y x) else none
noncomputable def lM (d:D) (s:ag):Option (List D):=match res d s with
 | .lst ds=>some ds
 | .tup ds=>some ds
 |_=>none
noncomputable def bN (x y:D) (s:ag):Res D:=match lM y s with
 |some ds=>bF ((inD x ds).map D.bl) s
 |none=>none
noncomputable def dg (x y:D) (s:ag):Res D:=match lM y s with
 |some ds=>bF ((inD x ds).map λb=>D.bl (!b)) s
 |none=>none
theorem Fy (S:aN K w) (h:DV K w d v) (e:lM d w.aJ=some ds):∃a xs,v=.ref a/\(w.H a=some (.lst xs)\/aS K w.H a xs)/\aw K w ds xs:=by
 unfold lM at e;split at e
 ·rename_i es e1
  cases e;obtain⟨a,xs,rfl,ha,ar⟩:=iy S h e1;exact⟨a,xs,rfl,.inl ha,ar⟩
 ·rename_i es e1
  cases e;rw[dZ e1 (by intro _ z;cases z)] at h;simp only[DV] at h;obtain⟨a,xs,rfl,ha,ar⟩:=h;exact⟨a,xs,rfl,.inr ha,ar⟩
 ·cases e
section
variable {X:Cx} {Ξ:Wd->bH->Prop} {pins:List (Addr×Obj)} {σ:St} {s:Y4}
theorem zJ (lx:lay x=true):∀{ds:List D},cO ds=true->((cy ds).any λy=>aar y (py x))=ds.any λy=>beq y x
 | [],_=>rfl
 |d::ds,h=>by
  simp only[cO,Y3] at h;simp only[cy,adf,qb d x h.1 lx,zJ lx h.2]
theorem Hn (h:inD x ds=some b):lay x=true/\cO ds=true/\dep x<=100/\(ds.any λy=>beq y x)=b:=by
 unfold inD mJ at h;split at h
 ·rename_i hl
  simp only[Y3,decide_eq_true_eq] at hl;exact⟨hl.1.1,hl.1.2,hl.2,Option.some.inj h⟩
 ·cases h
theorem dE (hr:cM k X.A):bj X (aag .In) (rO X.K Ξ bN):=by
 rintro pins s σ H x y v u Q I rx ry ⟨w,dx,dy,rfl,S,hx,hy,h⟩;unfold bN at h;split at h
 ·rename_i ds hd
  obtain⟨d,e,h⟩:=ff h
  cases hb:inD dx ds with
  |none=>rw[hb] at e;cases e
  |some b =>
   rw[hb] at e;cases e;obtain⟨l1,l2,l3,l4⟩:=Hn hb;obtain⟨p1,p2⟩:=jF _ l1;obtain⟨q1,q2⟩:=rb _ l2;obtain⟨bs,rd⟩:=(hx.py (nO _ l1)).reads I rx;have hu:X.A.units+1+min (abT (cy ds)) (py dx).depth<cLine:=by
    have:=hr.un;rw[p2];omega
   obtain⟨a,xs,rfl,ha,ar⟩:=Fy S hy hd;have fin:EP X pins σ Q (.bool ((cy ds).any λy=>aar y (py dx))) s:=⟨.bl b,w.H,I,by rw[zJ l1 l2,l4];rfl,aK S h _ rfl⟩
   rcases ha with ha|ha
   ·obtain⟨cs,rc⟩:=(show L2.DV X.K (λ_=>False) w.H (.list (cy ds)) (.ref a) by simp only[L2.DV];exact⟨a,xs,rfl,not_false,ha,ar.py (nL _ l2)⟩).reads I ry
    exact SeqAt.in_list_reads rc rd q1 p1 hu fin
   ·obtain⟨cs,rc⟩:=(show L2.DV X.K (λ_=>False) w.H (.tuple (cy ds)) (.ref a) by simp only[L2.DV];exact⟨a,xs,rfl,ha,ar.py (nL _ l2)⟩).reads I ry
    exact SeqAt.in_tuple_reads rc rd q1 p1 hu fin
 ·exact h.elim
theorem lh (hr:cM k X.A):bj X (aag .NotIn) (rO X.K Ξ dg):=by
 rintro pins s σ H x y v u Q I rx ry ⟨w,dx,dy,rfl,S,hx,hy,h⟩;unfold dg at h;split at h
 ·rename_i ds hd
  obtain⟨d,e,h⟩:=ff h
  cases hb:inD dx ds with
  |none=>rw[hb] at e;cases e
  |some b =>
   rw[hb] at e;cases e;obtain⟨l1,l2,l3,l4⟩:=Hn hb;obtain⟨p1,p2⟩:=jF _ l1;obtain⟨q1,q2⟩:=rb _ l2;obtain⟨bs,rd⟩:=(hx.py (nO _ l1)).reads I rx;have hu:X.A.units+1+min (abT (cy ds)) (py dx).depth<cLine:=by
    have:=hr.un;rw[p2];omega
   obtain⟨a,xs,rfl,ha,ar⟩:=Fy S hy hd;have fin:EP X pins σ Q (.bool (!(cy ds).any λy=>aar y (py dx))) s:=⟨.bl (!b),w.H,I,by rw[zJ l1 l2,l4];rfl,aK S h _ rfl⟩
   rcases ha with ha|ha
   ·obtain⟨cs,rc⟩:=(show L2.DV X.K (λ_=>False) w.H (.list (cy ds)) (.ref a) by simp only[L2.DV];exact⟨a,xs,rfl,not_false,ha,ar.py (nL _ l2)⟩).reads I ry
    exact SeqAt.notIn_list_reads rc rd q1 p1 hu fin
   ·obtain⟨cs,rc⟩:=(show L2.DV X.K (λ_=>False) w.H (.tuple (cy ds)) (.ref a) by simp only[L2.DV];exact⟨a,xs,rfl,ha,ar.py (nL _ l2)⟩).reads I ry
    exact SeqAt.notIn_tuple_reads rc rd q1 p1 hu fin
 ·exact h.elim
noncomputable def tP (K:Frag) (Ξ:Wd->bH->Prop) (f:Env->ag->Res (Option Int)):TO:=fun σ H Q=>∃w env,w.H=H/\aN K w/\bZ K w env σ/\Out K Ξ w (f env w.aJ) λw' i=>Q i w'.H
noncomputable def ka:Env->ag->Res (Option Int):=λ_ s=>ok none s
noncomputable def jS (f:Env->ag->Res D):Env->ag->Res (Option Int):=λenv s=>au (f env s) λd s=>match d with
 | .int i=>ok (some i) s
 |_=>none
variable {e a b:Expr} {lo hi:Option Expr} {pos p2 p3 p4:Pos} {f g:Env->ag->Res D}
theorem Ho (h:PO X lo t) (i:∀ σ H Q,t' σ H Q->t σ H Q):PO X lo t':=λpins s σ H Q I hq=>h pins s σ H Q I (i σ H Q hq)
theorem qy:PO X none (tP X.K Ξ ka):=Ho Qe fun σ H Q aB=>by
 obtain⟨w,env,eH,S,eo,h⟩:=aB;subst eH;exact aK S h
theorem qo (he:PE X e (tE X.K Ξ f)):PO X (some e) (tP X.K Ξ (jS f)):=Ho (Qf he) fun σ H Q aB=>by
 obtain⟨w,env,eH,S,eo,h⟩:=aB;subst eH;refine⟨w,env,rfl,S,eo,(Out.au h).mono λw1 d l1 S1 h1 v dv=>?_⟩
 cases d with
 |int i=>exact⟨i,dv,aK S1 h1⟩
 |_=>exact h1.elim
noncomputable def cutD (xs:List D) (lo hi:Option Int):List D:=(xs.drop (HT.aR xs.length 0 lo)).take (HT.aR xs.length xs.length hi-HT.aR xs.length 0 lo)
noncomputable def jf (d:D) (lo hi:Option Int) (s:ag):Res D:=match res d s with
 | .tup ds=>ok (.tup (cutD ds lo hi)) s
 | .lst ds=>ok (.lst (cutD ds lo hi)) s
 |_=>none
noncomputable def kb (f:Env->ag->Res D) (l h:Env->ag->Res (Option Int)):Env->ag->Res D:=λenv s=>au (f env s) λd s=>au (l env s) λlo s=>au (h env s) λhi s=>jf d lo hi s
noncomputable def Wy (K:Frag) (Ξ:Wd->bH->Prop):V->Option Int->Option Int->Hp->VK->Prop:=λx lo hi H Q=>∃w dx,w.H=H/\aN K w/\DV K w dx x/\Out K Ξ w (jf dx lo hi w.aJ) λw' d=>∀v,DV K w' d v->Q v w'.H
theorem Sw:tu X (Wy X.K Ξ):=by
 rintro pins s σ H x v vl vu lo hi sl Q I rx hs pl pu ⟨w,dx,rfl,S,hx,h⟩;unfold jf at h;split at h
 ·rename_i ds e1
  rw[dZ e1 (by intro _ z;cases z)] at hx;simp only[DV] at hx;obtain⟨a,xs,rfl,ha,ar⟩:=hx;refine Qk pins s σ w.H _ v vl vu lo hi sl Q I rx hs pl pu ⟨a,xs,rfl,ha,mQ S ?_ h⟩;unfold cutD jN;rw[ar.length];exact(ar.drop _).take _
 ·rename_i ds e1
  obtain⟨a,xs,rfl,ha,ar⟩:=iy S hx e1;refine Qh pins s σ w.H _ v vl vu lo hi sl Q I rx hs pl pu ⟨a,xs,rfl,bQ.of ha,qw S ?_ h⟩;unfold cutD jN;rw[ar.length];exact(ar.drop _).take _
 ·exact h.elim
theorem qz (he:PE X e (tE X.K Ξ f)) (hl:PO X lo (tP X.K Ξ fl)) (hu:PO X hi (tP X.K Ξ fh)):PE X (.Subscript e (.Slice lo hi none p2) pos) (tE X.K Ξ (kb f fl fh)) :=
 cG (Ou Sw he hl hu) fun σ H Q aB=>by
  obtain⟨w,env,eH,S,eo,h⟩:=aB;subst eH;exact⟨w,env,rfl,S,eo,(Out.au h).mono λw1 d l1 S1 h1 v dv=>⟨w1,env,rfl,S1,eo.le l1,(Out.au h1).mono λw2 i l2 S2 h2=>⟨w2,env,rfl,S2,eo.le (l1.trans l2),(Out.au h2).mono λw3 j l3 S3 h3=>⟨w3,d,rfl,S3,(l2.trans l3) _ _ dv,h3⟩⟩⟩⟩
noncomputable def wX (d:D) (s:ag):Res D:=match d with
 | .tup ds=>ok (.tup ds.reverse) s
 |_=>none
theorem Ut (he:PE X e (tE X.K Ξ f)):PE X (.Subscript e (.Slice none none (some (.UnaryOp .USub (.Constant (.int 1) 0 p4) p3)) p2) pos) (tE X.K Ξ (e1 wX f)):=cG (Sh he) fun σ H Q aB=>by
 obtain⟨w,env,eH,S,eo,h⟩:=aB;subst eH;refine⟨w,env,rfl,S,eo,(Out.au h).mono λw1 d l1 S1 h1 v dv=>?_⟩;unfold wX at h1;split at h1
 ·simp only[DV] at dv
  obtain⟨a,xs,rfl,ha,ar⟩:=dv;exact⟨a,xs,rfl,ha,mQ S1 ar.reverse h1⟩
 ·exact h1.elim
noncomputable def gI (d x:D) (s:ag):Res D:=match d with
 | .aj k=>match s[k]? with
  |some (.lst ds)=>if decide (ds.length<Zf)=true then ok .aA (s.set k (.lst (ds++[x]))) else none
  |_=>none
 |_=>none
noncomputable def gJ (d:D) (s:ag):Bool:=match d with
 | .aj k=>match s[k]? with
  |some (.lst _)=>true
  |_=>false
 |_=>false
noncomputable def fJ (f g:Env->ag->Res D):Env->ag->Res D:=λenv s=>au (f env s) λd s=>if gJ d s=true then au (g env s) λx s=>gI d x s else none
theorem QC (S:aN K w) (dv:DV K w d v) (h:gJ d w.aJ=true):∃k a ds xs,d=.aj k/\v=.ref a/\w.ρ[k]?=some a/\w.aJ[k]?=some (.lst ds)/\w.H a=some (.lst xs)/\aw K w ds xs:=by
 unfold gJ at h;split at h
 ·rename_i k
  split at h
  ·rename_i ds hk
   obtain⟨a,e1,rfl⟩:=dv;obtain⟨xs,q1,q2⟩:=S.cell k a _ e1 hk;exact⟨k,a,ds,xs,rfl,rfl,e1,hk,q1,q2⟩
  ·cases h
 ·cases h
theorem Sx (S:aN K w) (dv:DV K w d v) (du:DV K w y u) (h:Out K Ξ w (gI d y w.aJ) q):∃a xs,v=.ref a/\w.H a=some (.lst xs)/\xs.length<Zf/\∃w',w'.H=upd w.H a (.lst (xs++[u]))/\q w' .aA:=by
 unfold gI at h;split at h
 ·rename_i k
  split at h
  ·rename_i ds hk
   split at h
   ·rename_i hl
    obtain⟨a,e1,rfl⟩:=dv;obtain⟨xs,q1,q2⟩:=S.cell k a _ e1 hk;have nd:(Cell.lst ds)≠.dead:=by intro z;cases z
    have le:=(Fw.put (K:=K) (o:=.lst (xs++[u])) (c:=.lst (ds++[y])) S e1 hk nd).le;refine⟨a,xs,rfl,q1,by rw[<- q2.length];exact of_decide_eq_true hl,w.put k a (.lst (xs++[u])) (.lst (ds++[y])),rfl,?_⟩;exact h _ le (S.A6 e1 hk nd ⟨_,cF,le.all (q2.append (aw.one du))⟩) rfl
   ·exact h.elim
  ·exact h.elim
 ·exact h.elim
theorem lO {o:Expr} {apos dQ:Pos} (ho:PE X o (tE X.K Ξ f)) (ha:PE X a (tE X.K Ξ g))
  (Ai:attributeBase o "append" X.env (eval o X.env)=eval o X.env:=by rfl)
  (AV:((ab5 dQ (Zp [a] X.env)).all (λx=>!x.1)&&(backToKw dQ (keywordEach [] X.env)).all (λx=>x.1.isSome)
   && decide (([a]:List Expr).length+([]:List Keyword).length+(if ([]:List Keyword).isEmpty then 0 else 1)<30))=true:=by rfl)
  (Aj:(apos.endLine==dQ.line)=true:=by rfl) (hs:Zp [a] X.env=(false,eval a X.env)::Zp [] X.env:=by rfl) (zD:(ab5 dQ (Zp [] X.env)).any (·.1)=false:=by rfl) :
  PE X (.Call (.Attribute o "append" apos) [a] [] dQ) (tE X.K Ξ (fJ f g)) :=
 cG (Ua PySem.F.plainAttrs_list PySem.F.slot_list_append PySem.F.type_list_append Nf ho (jC ha lr hs) Ai AV Aj hs zD) fun σ H Q aB=>by
  obtain⟨w,env,eH,S,eo,h⟩:=aB;subst eH;refine⟨w,env,rfl,S,eo,(Out.au h).mono λw1 d l1 S1 h1 v dv=>?_⟩;split at h1
  ·rename_i hl
   obtain⟨k,p,ds,xs,rfl,rfl,e1,e2,e3,e4⟩:=QC S1 dv hl;refine⟨.inl ⟨rfl,xs,bQ.of e3⟩,w1,env,rfl,S1,eo.le l1,(Out.au h1).mono λw2 y l2 S2 h2 u du=>?_⟩;obtain⟨a',ys,ea,q1,q2,w3,eH,q3⟩:=Sx S2 (l2 _ _ dv) du h2;refine⟨a',ys,u,ea,rfl,q1,q2,?_⟩;rw[<- eH];exact q3 _ rfl
  ·exact h1.elim
noncomputable def eR (d i x:D) (s:ag):Option ag:=match d,i with
 | .aj k,.int n=>match s[k]? with
  |some (.lst ds)=>(fq ds.length n).map λj=>s.set k (.lst (ds.set j x))
  |_=>none
 |_,_=>none
noncomputable def fS (f o i:Env->ag->Res D):Env->ag->Res Fl:=λenv s=>au (f env s) λx s=>au (o env s) λd s=>au (i env s) λn s=>match eR d n x s with
 |some s'=>ok (.nx env) s'
 |none=>none
theorem Hq (S:aN K w) (dv:DV K w d v) (dn:DV K w i n) (du:DV K w x u) (h:eR d i x w.aJ=some s'):∃a xs k j,v=.ref a/\n=.int k/\w.H a=some (.lst xs)/\fq xs.length k=some j/\∃w',w'.H=upd w.H a (.lst (xs.set j u))/\w'.aJ=s'/\Le K w w'/\aN K w':=by
 unfold eR at h;split at h
 ·rename_i k m
  split at h
  ·rename_i ds hk
   cases hj:fq ds.length m with
   |none=>rw[hj] at h;cases h
   |some j =>
    rw[hj] at h;cases h;obtain⟨a,e1,rfl⟩:=dv;obtain⟨xs,q1,q2⟩:=S.cell k a _ e1 hk;have nd:(Cell.lst ds)≠.dead:=by intro z;cases z
    have le:=(Fw.put (K:=K) (o:=.lst (xs.set j u)) (c:=.lst (ds.set j x)) S e1 hk nd).le;exact⟨a,xs,m,j,rfl,dn,q1,by rw[<- q2.length];exact hj,w.put k a (.lst (xs.set j u)) (.lst (ds.set j x)),rfl,rfl,le,S.A6 e1 hk nd ⟨_,cF,le.all (q2.set du j)⟩⟩
  ·cases h
 ·cases h
theorem mK (he:PE X e (tE X.K Ξ f)) (ho:PE X o (tE X.K Ξ fo)) (hi:PE X i (tE X.K Ξ fi))
 (ha:∀v,acZ (.Subscript o i hU) X.env v=(do
   let ov <- abz [v] (eval o X.env)
   let iv <- abz [v,ov] (eval i X.env)
   acL hU
   abz [v,ov,iv] (setItem ov iv v)
   release [v,ov,iv] []):=by intro _;rfl)
 (hs:abk [.Subscript o i hU] e pos.line X.env=pure false:=by rfl) (hw:abl [.Subscript o i hU] e X.env=pure none:=by rfl)
 (h1:(abg [.Subscript o i hU] X.env).map (·.2)=[acZ (.Subscript o i hU) X.env]:=by rfl):PS X (.Assign [.Subscript o i hU] e pos) (tS X.K Ξ (fS f fo fi)) :=
 je (v5 he (vZ ho hi set_list ha) hs hw h1) λD0 σ H aB=>by
  obtain⟨w,env,eH,S,eo,h⟩:=aB;subst eH;refine⟨w,env,rfl,S,eo,(Out.au h).mono λw1 x l1 S1 h1 u du=>?_⟩;refine⟨w1,env,rfl,S1,eo.le l1,(Out.au h1).mono λw2 d l2 S2 h2 v dv=>?_⟩;refine⟨w2,env,rfl,S2,eo.le (l1.trans l2),(Out.au h2).mono λw3 n l3 S3 h3 m dm=>?_⟩
  cases hd:eR d n x w3.aJ with
  |none=>rw[hd] at h3;exact h3.elim
  |some s' =>
   rw[hd] at h3;obtain⟨a,xs,k,j,e1,e2,q1,q2,w4,eH,es,le,S4⟩:=Hq S3 (l3 _ _ dv) dm ((l2.trans l3) _ _ du) hd;refine⟨a,xs,k,j,e1,e2,q1,q2,?_⟩;rw[<- eH];exact h3 w4 le S4 es σ (eo.le (l1.trans (l2.trans (l3.trans le))))
end
end DI
namespace DI
open PySem L2
noncomputable def kd (d:D) (s:ag):Option Kn:=match res d s with
 | .aA=>some .aA
 | .bl _=>some .bl
 | .int _=>some .int
 | .str _=>some .str
 | .tup _=>some .tup
 | .lst _=>some .lst
 | .aW _=>some .aW
 |_=>none
theorem Ip (S:aN K w) (h:DV K w d v) (e:kd d w.aJ=some k):m8 K w.H v k:=by
 unfold kd at e
 split at e<;>rename_i e1<;>first | (cases e;done) | (try cases e)
 ·rw[dZ e1 (by intro _ z;cases z)] at h;cases h;trivial
 ·rw[dZ e1 (by intro _ z;cases z)] at h;cases h;trivial
 ·rw[dZ e1 (by intro _ z;cases z)] at h;cases h;trivial
 ·rw[dZ e1 (by intro _ z;cases z)] at h;cases h;trivial
 ·rw[dZ e1 (by intro _ z;cases z)] at h
  simp only[DV] at h;obtain⟨a,xs,rfl,ha,_⟩:=h;exact⟨xs,ha⟩
 ·obtain⟨a,xs,rfl,ha,_⟩:=iy S h e1
  exact⟨xs,bQ.of ha⟩
 ·rw[dZ e1 (by intro _ z;cases z)] at h
  simp only[DV] at h;obtain⟨a,rfl,_,ha⟩:=h;exact⟨_,ha⟩
noncomputable def Iq (T:String):Bool:=T=="int"||T=="bool"||T=="str"||T=="tuple"||T=="list"
noncomputable def cx (ds:List D) (s:ag):Res D:=match ds with
 | [d,.ty T]=>if Iq T=true then bF ((kd d s).map λk=>.bl (qt k T)) s else none
 |_=>none
section
variable {X:Cx} {Ξ:Wd->bH->Prop} {e a b:Expr} {es:List Expr} {pos:Pos} {f g:Env->ag->Res D} {fa:Env->ag->Res (List D)}
theorem fY:cf X (.builtin "isinstance") (rC X.K Ξ cx):=by
 rintro pins s σ H xs us Q I r ⟨w,ds,rfl,S,ar,h⟩;unfold cx at h;split at h
 ·rename_i d T
  obtain⟨v,u,rfl,dv,du⟩:=rJ ar;have eu:u=.ty T:=du;subst eu;split at h
  ·rename_i hT
   obtain⟨d',e,h⟩:=ff h
   cases hk:kd d w.aJ with
   |none=>rw[hk] at e;cases e
   |some k =>
    rw[hk] at e;cases e;have tQ:=Ip S dv hk;simp only[Iq,aa9,beq_iff_eq] at hT
    rcases hT with (((rfl|rfl)|rfl)|rfl)|rfl
    ·exact K7 pins s σ w.H _ us Q I r ⟨v,k,rfl,tQ,aK S h _ rfl⟩
    ·exact KR pins s σ w.H _ us Q I r ⟨v,k,rfl,tQ,aK S h _ rfl⟩
    ·exact K8 pins s σ w.H _ us Q I r ⟨v,k,rfl,tQ,aK S h _ rfl⟩
    ·exact KH pins s σ w.H _ us Q I r ⟨v,k,rfl,tQ,aK S h _ rfl⟩
    ·exact KS pins s σ w.H _ us Q I r ⟨v,k,rfl,tQ,aK S h _ rfl⟩
  ·exact h.elim
 ·exact h.elim
theorem gg (hv:ZL x=some (.type T)) (hg:Gl X x) (hm:X.mg x=none) (hn:x≠"__name__":=by decide) (hd:(x==("__debug__":Str))=false:=by decide):PE X (.Name x pos) (tE X.K Ξ (eC (.ty T))):=qi (v:=.ty T) (yW hg hm hv rfl hn hd) λ_=>rfl
theorem dS (g:∃t,X.mg x=some (.int i t)) (hg:Gl X x) (hd:(x==("__debug__":Str))=false:=by decide):PE X (.Name x pos) (tE X.K Ξ (eC (.int i))):=by
 obtain⟨t,e⟩:=g;exact qi (v:=.int i) (P0 hg e ⟨t,rfl⟩ hd) λ_=>rfl
noncomputable def Jl (d:D) (s:ag):Res D:=bF ((kd d s).map λk=>.bl (decide (k=.tup)||decide (k=.lst))) s
theorem QD {x1} (ha:PE X a (tE X.K Ξ f)) (hg:Gl X "isinstance") (hm:X.mg "isinstance"=none) (hv:ZL "isinstance"=some (.builtin "isinstance")) (h1:PE X (.Name "tuple" p1) (tC (.ty "tuple"))) (h2:PE X (.Name "list" p2) (tC (.ty "list")))
 (he:Zp (a::[.Tuple [.Name "tuple" p1,.Name "list" p2] x1 p3]) X.env=(false,eval a X.env)::Zp [.Tuple [.Name "tuple" p1,.Name "list" p2] x1 p3] X.env:=by rfl) :
  PE X (.Call (.Name "isinstance" p) [a,.Tuple [.Name "tuple" p1,.Name "list" p2] x1 p3] [] pos) (tE X.K Ξ (e1 Jl f)) :=
 cG (vf LC hg hm hv (jC ha (jC (Ox (jC h1 (jC h2 lr))) lr) he) (by decide) (by decide) he) fun σ H Q aB=>by
  obtain⟨w,env,eH,S,eo,h⟩:=aB;subst eH;refine⟨w,env,rfl,S,eo,(Out.au h).mono λw1 d l1 S1 h1 v dv=>?_⟩;refine⟨["tuple","list"],rfl,(by show 2<=Zf;decide),λp hp=>?_⟩;obtain⟨d',e,h1⟩:=ff h1
  cases hk:kd d w1.aJ with
  |none=>rw[hk] at e;cases e
  |some k =>
   rw[hk] at e;cases e;have S2:=S1.grow (o:=.ext (qh p ["tuple","list"])) hp;have l2:=(Fw.grow (K:=X.K) (o:=.ext (qh p ["tuple","list"])) hp).le;exact⟨v,k,p,rfl,Ip (w:=w1.grow p _) S2 (l2 _ _ dv) hk,cF,h1 _ l2 S2 rfl _ rfl⟩
noncomputable def oo (d:D):Bool:=plain d&&(py d).showable&&(!(py d).hasDict||(match py d with | .tuple ds=>qv ds | .dict _=>true | _=>false))&&decide ((py d).depth<=100)&&decide ((py d).shown.length<=Zf)
noncomputable def sd (ds:List D) (s:ag):Res D:=match ds with
 | [d]=>if oo (res d s)=true then ok (.str (py (res d s)).shown) s else none
 |_=>none
theorem Hs (hr:cM k X.A):cf X (.builtin "repr") (rC X.K Ξ sd):=by
 rintro pins s σ H xs us Q I r ⟨w,ds,rfl,S,ar,h⟩;unfold sd at h;split at h
 ·rename_i d
  obtain⟨v,rfl,dv⟩:=lC ar;split at h
  ·rename_i hk
   simp only[oo,Y3,decide_eq_true_eq] at hk;obtain⟨⟨⟨⟨h1,h2⟩,h3⟩,h4⟩,h5⟩:=hk;have dp:=dv.res S h1;have fin:=aK S h _ rfl;generalize hp:py (res d w.aJ)=P at *
   cases P with
   |tuple ps =>
    refine Mu hr pins s σ w.H _ us Q I r ⟨v,ps,_,rfl,dp,h2,?_,h4,h5,fin⟩;simpa using h3
   |dict ao=>exact EM hr pins s σ w.H _ us Q I r ⟨v,_,_,rfl,dp,h2,.inr rfl,h4,h5,fin⟩
   |_ =>
    refine EM hr pins s σ w.H _ us Q I r ⟨v,_,_,rfl,dp,h2,.inl ?_,h4,h5,fin⟩;simpa using h3
  ·exact h.elim
 ·exact h.elim
noncomputable def mL:List D->Option (List Int)
 | []=>some []
 | .int i::ds=>(mL ds).map λr=>i::r
 |_::_=>none
theorem yB:∀{ds:List D} {ns:List Int},mL ds=some ns->ds=ns.map D.int
 | [],ns,h=>by cases h;rfl
 | .int b::ds,ns,h=>by
  simp only[mL] at h
  cases hd:mL ds with
  |none=>rw[hd] at h;cases h
  |some r=>rw[hd] at h;cases h;rw[yB hd];rfl
 | .aA::_,_,h=>by cases h
 | .bl _::_,_,h=>by cases h
 | .str _::_,_,h=>by cases h
 | .tup _::_,_,h=>by cases h
 | .lst _::_,_,h=>by cases h
 | .aW _::_,_,h=>by cases h
 | .aj _::_,_,h=>by cases h
 | .ty _::_,_,h=>by cases h
 | .bG _::_,_,h=>by cases h
theorem EZ:mL (ns.map D.int)=some ns:=by
 induction ns with
 |nil=>rfl
 |cons b bs ih=>simp only[Zl,mL,ih,aaU]
noncomputable def jT (i:Int):List Int->List Int
 | []=>[i]
 |j::r=>if i<j then i::j::r else if i=j then j::r else j::jT i r
noncomputable def dB:List Int->List Int
 | []=>[]
 |i::r=>jT i (dB r)
theorem yC:∀{l:List Int},k∈jT i l↔k=i\/k∈l
 | []=>by simp[jT]
 |j::r=>by
  unfold jT;split
  ·simp
  ·split
   ·rename_i h;subst h;simp
   ·rw[Zh,yC,Zh]
    constructor
    ·rintro (h|h|h)
     ·exact .inr (.inl h)
     ·exact .inl h
     ·exact .inr (.inr h)
    ·rintro (h|h|h)
     ·exact .inr (.inl h)
     ·exact .inl h
     ·exact .inr (.inr h)
theorem D7:∀{l:List Int},l.Pairwise (· < ·)->(jT i l).Pairwise (· < ·)
 | [],_=>by simp[jT]
 |j::r,h=>by
  obtain⟨h1,h2⟩:=ZN.mp h;unfold jT;split
  ·rename_i eT
   refine ZN.mpr ⟨λk hk=>?_,h⟩
   rcases Zh.mp hk with rfl|hk
   ·exact eT
   ·have:=h1 k hk;omega
  ·split
   ·exact h
   ·refine ZN.mpr ⟨λk hk=>?_,D7 h2⟩
    rcases yC.mp hk with rfl|hk
    ·omega
    ·exact h1 k hk
theorem nP:∀{l:List Int},k∈dB l↔k∈l
 | []=>by simp[dB]
 |i::r=>by simp[dB,yC,nP]
theorem uB:∀(l:List Int),(dB l).Pairwise (· < ·)
 | []=>List.Pairwise.nil
 |i::r=>D7 (uB r)
theorem xU:∀{l m:List Int},l.Pairwise (· < ·)->m.Pairwise (· < ·)->(∀k,k∈l↔k∈m)->l=m
 | [],[],_,_,_=>rfl
 | [],j::m,_,_,h=>by have:=(h j).mpr Zb;cases this
 |i::l,[],_,_,h=>by have:=(h i).mp Zb;cases this
 |i::l,j::m,hl,hm,h=>by
  obtain⟨l1,l2⟩:=ZN.mp hl;obtain⟨m1,m2⟩:=ZN.mp hm;have e:i=j:=by
   rcases Zh.mp ((h i).mp Zb) with e|e
   ·exact e
   ·rcases Zh.mp ((h j).mpr Zb) with e'|e'
    ·exact e'.symm
    ·have:=m1 i e;have:=l1 j e';omega
  subst e;congr 1;refine xU l2 m2 λk=>?_;constructor
  ·intro hk
   rcases Zh.mp ((h k).mp (Zd _ hk)) with e|e
   ·subst e;have:=l1 k hk;omega
   ·exact e
  ·intro hk
   rcases Zh.mp ((h k).mpr (Zd _ hk)) with e|e
   ·subst e;have:=m1 k hk;omega
   ·exact e
noncomputable def pO (d:D) (s:ag):Res D:=match d with
 | .lst ds=>match mL ds with
  |some ns=>if decide (ns.length<64)=true then ok (.lst ((dB ns).map D.int)) s else none
  |none=>none
 |_=>none
theorem My {p p2 gK:Pos} (ha:PE X a (tE X.K Ξ f)) (hc:X.calm=true) (hg:Gl X "sorted") (hm:X.mg "sorted"=none) (hv:ZL "sorted"=some (.builtin "sorted")) (tR:Gl X "set") (tU:X.mg "set"=none) (BX:ZL "set"=some (.type "set"))
  (he:Zp [a] X.env=(false,eval a X.env)::Zp [] X.env:=by rfl) (cZ:(ab5 gK (Zp [] X.env)).any (·.1)=false:=by rfl)
  (oY:Zp [.Call (.Name "set" p2) [a] [] gK] X.env=(false,eval (.Call (.Name "set" p2) [a] [] gK) X.env)::Zp [] X.env:=by rfl) (Be:(ab5 pos (Zp [] X.env)).any (·.1)=false:=by rfl) :
  PE X (.Call (.Name "sorted" p) [.Call (.Name "set" p2) [a] [] gK] [] pos) (tE X.K Ξ (e1 pO f)) :=
 cG (vf (DM hc) hg hm hv (jC (u0 (Ms hc) tR tU BX (jC ha lr he) (by decide) (by decide) he cZ) lr oY) (by decide) (by decide) oY Be) fun σ H Q aB=>by
  obtain⟨w,env,eH,S,eo,h⟩:=aB;subst eH;refine⟨w,env,rfl,S,eo,(Out.au h).mono λw1 d l1 S1 h1 v dv=>?_⟩;unfold pO at h1;split at h1
  ·rename_i ds
   split at h1
   ·rename_i ns hn
    split at h1
    ·rename_i hl
     have hl:=of_decide_eq_true hl;simp only[DV] at dv;obtain⟨p,xs,rfl,hp,ar⟩:=dv;rw[yB hn] at ar;rw[ar.yv] at hp;refine⟨p,ns,rfl,hp.sq,by omega,λq hq=>?_⟩;refine⟨q,ns,rfl,cF,hl,λl ms xn hs hk=>?_⟩;have e:=xU hs (uB ns) λk=>(hk k).trans nP.symm;subst e;have oZ:(w1.grow q (.ext (gZ X.prog X.w q ns))).H l=none:=xn;have S2:=S1.grow (o:=.ext (gZ X.prog X.w q ns)) hq;exact h1 ((w1.grow q (.ext (gZ X.prog X.w q ns))).grow l (.lst ((dB ns).map V.int))) ((Fw.grow hq).le.trans (Fw.grow oZ).le) (S2.grow oZ) rfl (.ref l) ⟨l,_,rfl,⟨(show ¬ (w1.grow q (.ext (gZ X.prog X.w q ns))).Z l from lu S2 oZ),cF⟩,aw.ints _⟩
    ·exact h1.elim
   ·exact h1.elim
  ·exact h1.elim
noncomputable def rf (d:D) (s:ag):Res D:=match d with
 | .tup ds=>match mL ds with
  |some ns=>if decide (ns.length<64)=true then ok (.lst ((dB ns).map D.int)) s else none
  |none=>none
 |_=>none
theorem Mz {p p2 gK:Pos} (ha:PE X a (tE X.K Ξ f)) (hc:X.calm=true) (hg:Gl X "sorted") (hm:X.mg "sorted"=none) (hv:ZL "sorted"=some (.builtin "sorted")) (tR:Gl X "set") (tU:X.mg "set"=none) (BX:ZL "set"=some (.type "set"))
  (he:Zp [a] X.env=(false,eval a X.env)::Zp [] X.env:=by rfl) (cZ:(ab5 gK (Zp [] X.env)).any (·.1)=false:=by rfl)
  (oY:Zp [.Call (.Name "set" p2) [a] [] gK] X.env=(false,eval (.Call (.Name "set" p2) [a] [] gK) X.env)::Zp [] X.env:=by rfl) (Be:(ab5 pos (Zp [] X.env)).any (·.1)=false:=by rfl) :
  PE X (.Call (.Name "sorted" p) [.Call (.Name "set" p2) [a] [] gK] [] pos) (tE X.K Ξ (e1 rf f)) :=
 cG (vf (DM hc) hg hm hv (jC (u0 (Mt hc) tR tU BX (jC ha lr he) (by decide) (by decide) he cZ) lr oY) (by decide) (by decide) oY Be) fun σ H Q aB=>by
  obtain⟨w,env,eH,S,eo,h⟩:=aB;subst eH;refine⟨w,env,rfl,S,eo,(Out.au h).mono λw1 d l1 S1 h1 v dv=>?_⟩;unfold rf at h1;split at h1
  ·rename_i ds
   split at h1
   ·rename_i ns hn
    split at h1
    ·rename_i hl
     have hl:=of_decide_eq_true hl;simp only[DV] at dv;obtain⟨p,xs,rfl,hp,ar⟩:=dv;rw[yB hn] at ar;rw[ar.yv] at hp;refine⟨p,ns,rfl,hp,by omega,λq hq=>?_⟩;refine⟨q,ns,rfl,cF,hl,λl ms xn hs hk=>?_⟩;have e:=xU hs (uB ns) λk=>(hk k).trans nP.symm;subst e;have oZ:(w1.grow q (.ext (gZ X.prog X.w q ns))).H l=none:=xn;have S2:=S1.grow (o:=.ext (gZ X.prog X.w q ns)) hq;exact h1 ((w1.grow q (.ext (gZ X.prog X.w q ns))).grow l (.lst ((dB ns).map V.int))) ((Fw.grow hq).le.trans (Fw.grow oZ).le) (S2.grow oZ) rfl (.ref l) ⟨l,_,rfl,⟨(show ¬ (w1.grow q (.ext (gZ X.prog X.w q ns))).Z l from lu S2 oZ),cF⟩,aw.ints _⟩
    ·exact h1.elim
   ·exact h1.elim
  ·exact h1.elim
noncomputable def sv (i j:Nat) (fa:Env->ag->Res (List D)):Env->ag->Res Fl:=λenv s=>au (fa env s) λds s=>match ds with
 | [x,y]=>ok (.nx ((env.set i (some x)).set j (some y))) s
 |_=>none
theorem Ht (i j:Nat) {x y:Str} {px py pt:Pos} {kt k2 hZ} (hc:X.calm=true) (hN:X.N.Nodup) (ha:PA X [a,b] (tA X.K Ξ fa)) (hi:X.N[i]?=some x:=by rfl) (hj:X.N[j]?=some y:=by rfl) (eT:i≠j:=by decide)
  (hx:X.env.scope.names.lookup x=some .local:=by rfl) (hy:X.env.scope.names.lookup y=some .local:=by rfl)
  (hw:abl [.Tuple [.Name x px,.Name y py] kt pt] (.Tuple [a,b] k2 hZ) X.env=pure (some [x,y]):=by rfl)
  (hs:abk [.Tuple [.Name x px,.Name y py] kt pt] (.Tuple [a,b] k2 hZ) pos.line X.env=pure false:=by rfl) :
  PS X (.Assign [.Tuple [.Name x px,.Name y py] kt pt] (.Tuple [a,b] k2 hZ) pos) (tS X.K Ξ (sv i j fa)):=je (RS hc hN hi hj eT hx hy ha hw hs) λD0 σ H aB=>by
 obtain⟨w,env,eH,S,eo,h⟩:=aB;subst eH;refine⟨w,env,rfl,S,eo,(Out.au h).mono λw1 ds l1 S1 h1 vs ar=>?_⟩;split at h1
 ·obtain⟨v,u,rfl,dv,du⟩:=rJ ar
  exact⟨v,u,rfl,aK S1 h1 _ (((eo.le l1).set dv i).set du j)⟩
 ·exact h1.elim
end
end DI
namespace L2
open PySem PySem.Spec PyProof.Rows
structure DS (Y:Cx) (D:Addr) (pins:List (Addr×Obj)):Prop where
 loc:D≠Y.env.locals
 fs:D∉Y.fs
 new:Y.dC.heap.objs.size<=D
 cell:∀x c,Y.env.cells.lookup x=some c->c≠D
 pin:∀p∈Y.pn++pins,p.1≠D
structure o7 (Y:Cx) (D:Addr) (nt:Nat) (caps:St) (pins:List (Addr×Obj)) (o:St) (H:Hp) (s:Y4) (acc:List V):Prop where
 inv:Inv Y pins (o++caps) H s
 len:o.length=nt
 lst:∃ys,s.heap.PlainList D ys/\Vals acc ys.toList
 free:H D=none
 kL:acc.length<=Zf
noncomputable abbrev jU:=St->Hp->List V->(St->List V->Hp->Prop)->Prop
def sx (Y:Cx) (D:Addr) (nt:Nat) (caps:St) (c:Code) (m:Sem PySem.Fin) (ta:jU):Prop :=
 ∀(pins:List (Addr×Obj)) (o:St) (H:Hp) (s:Y4) (acc:List V) (Q:St->List V->Hp->Prop),DS Y D pins->o7 Y D nt caps pins o H s acc->ta (o++caps) H acc Q ->
  wpAny (model Y.prog Y.w) Y.A m (λfn s'=>fn=.again c/\∃o' H' fG,o7 Y D nt caps pins o' H' s' fG/\Q (o'++caps) fG H') (λ_ _=>False) s
def CA (J:It) (g:TG) (tf:TT) (ta:jU) (τ:St) (acc:List V) (H:Hp) (Q:St->List V->Hp->Prop):Prop:=∃W:Nat->Nat->St->List V->Hp->Prop,(∃m,W 0 m τ acc H) /\
 ∀i m τ acc H2,W i m τ acc H2->(J.stop i H2/\Q τ acc H2) \/
  (J.go i H2/\∃N:St->List V->Hp->Prop,(∀ cV fG H',N cV fG H'->∃m',m' < m/\W (i+1) m' cV fG H') /\
   ∀x H3,J.sS i H2 x H3->g x τ H3 fun oT H4=>tf oT H4 λb H5=>if b=true then ta oT H5 acc N else N oT acc H5)
noncomputable def Ir (te:TE):jU:=fun τ H acc Q=>acc.length+1<=Zf/\te τ H λv H'=>Q τ (acc++[v]) H'
noncomputable def Iu (wi:TI) (g:TG) (tf:TT) (ta:jU):jU:=fun τ H acc Q=>wi τ H λJ H1=>CA J g tf ta τ acc H1 Q
section
variable {Y:Cx} {D:Addr} {nt:Nat} {caps:St}
theorem DS.obj (ds:DS Y D pins) (B:o7 Y D nt caps pins o H s acc):∃oD ys nn,s.heap.get? D=some oD/\oD={ cls:=.type "list",data:=.seq ys nn }/\Vals acc ys.toList/\Inv Y (pins++[(D,oD)]) (o++caps) H s:=by
 obtain⟨ys,⟨nn,ho⟩,rv⟩:=B.lst;refine⟨_,ys,nn,ho,rfl,rv,B.inv.k9 λp hp=>?_⟩
 rcases Zq.mp hp with z|z
 ·exact B.inv.pin p (Zc _ z)
 ·have e:p=(D,{ cls:=.type "list",data:=.seq ys nn }):=by simpa using z
  subst e;exact⟨ho,B.free,ds.loc,ds.fs,λv z=>by cases z⟩
theorem Fz (hx:Y.xe=λ_ _=>False) (hE:PE Y el te):sx Y D nt caps c ((do let _ <- call (.builtin "list.append") [.ref D,<- eval el Y.env]:Sem Unit) >>= λ_=>again c) (Ir te):=by
 intro pins o H s acc Q ds B h;obtain⟨hz,h⟩:=h;obtain⟨oD,ys,nn,ho,eo,rv,I⟩:=ds.obj B;have q:=hE _ s _ H _ I h;rw[hx] at q;refine YX (YX (aF q λy s8 h8=>?_));obtain⟨v,H8,I8,r8,q9⟩:=h8;have pD:=I8.pin (D,oD) (Zc _ (Zc _ (by simp)));have BY:s8.heap.PlainList D ys:=⟨nn,by rw[<- eo];exact pD.1⟩;have BZ:ys.size<=Zf:=by
  have e:=rv.length;simp only[ZH] at e;omega
 refine YX (wpAny_list_append_plain (hsz:=BZ) BY λh9 B0 xB=>YZ (YZ ⟨rfl,?_⟩));have B7:Inv Y pins (o++caps) H8 s8:=I8.kY
 have I9:Inv Y pins (o++caps) H8 { s8 with heap:=h9,toks:=s8.toks }:=B7.turned (it:=D) (λb o hb e=>(xB.2 b hb).trans e) pD.2.1 ds.loc (.inr ds.new) ds.cell ds.pin
 refine⟨o,H8,acc++[v],⟨I9,B.len,⟨ys.push y,B0,?_⟩,pD.2.1,by rw[Zx];simpa using hz⟩,q9⟩;rw[acR];exact Vals.append rv (.cons r8 .nil)
theorem Ep (hx:Y.xe=λ_ _=>False) (hc:Y.calm=true)
 (T:Turn Y.prog Y.w Y.K tg J fp it tn) (Wz:tn 0 s.heap) (hf:∀b∈fp,gb Y pins H b) (l0:D∉fp) (hG:PG Y tg g) (gy:lX g nt) (hF:PF Y tests tf) (hA:sx Y D nt caps (.compLoop e d (.ref it) (.ref D) Y.env) act ta) (ds:DS Y D pins) (B:o7 Y D nt caps pins o H s acc) (hq:(Code.compLoop e d (.ref it) (.ref D) Y.env).quiet=true)
 (VM:∀(M:Model) (A:ZX) (Q':Fin->Y4->Prop) (E':Value->Y4->Prop) (s':Y4),wpAny (model Y.prog Y.w) A (compTurn e d (.ref it) (.ref D) Y.env) Q' (λ_ _=>False) s'->wpAny (model Y.prog Y.w) (A.under (.compLoop e d (.ref it) (.ref D) Y.env)) ((model Y.prog Y.w).den (.compLoop e d (.ref it) (.ref D) Y.env)) Q' E' s')
 (ht:compTurn e d (.ref it) (.ref D) Y.env=(do
   acL p0
   match <- abr (.ref it) with
   |none=>pure (.done .next)
   |some v =>
    abt tg (.ref it) v
    acZ tg Y.env v
    let mut ok:=true
    for c in tests do
     if ok then ok <- isTrue c Y.env (eval c Y.env)
    if ok then act else again (.compLoop e d (.ref it) (.ref D) Y.env)))
 (h:CA J g tf ta (o++caps) acc H Q) :
  adk (model Y.prog Y.w) Y.A (.compLoop e d (.ref it) (.ref D) Y.env) (λr s'=>r=.ok .next/\∃o' H' fG,o7 Y D nt caps pins o' H' s' fG/\Q (o'++caps) fG H') s:=by
 obtain⟨W,⟨m0,w0⟩,turn⟩:=h;have l7:∀{H':Hp} {pl:List (Addr×Obj)},(∀b∈fp,H' b=none)->(∀p∈pl,p.1∉fp)->∀b∈fp,gb Y (pins++pl) H' b:=λ{H' pl} hn hp b hb=>by
  obtain⟨_,f1,o9,f3,f4,f5⟩:=hf b hb;refine⟨hn b hb,f1,o9,f3,f4,λp tV=>?_⟩
  rcases Zq.mp tV with z|z
  ·exact f5 p (aaj _ z)
  ·rcases Zq.mp z with z|z
   ·exact f5 p (Zc _ z)
   ·exact λe=>hp p z (e ▸ hb)
 refine codeAny_loop hq (λn s'=>∃i acc o H',o7 Y D nt caps pins o H' s' acc/\tn i s'.heap/\(∀b∈fp,H' b=none)/\W i n (o++caps) acc H') (λn s3 hJ=>?_) m0 ⟨0,acc,o,H,B,Wz,λb hb=>(hf b hb).1,w0⟩;obtain⟨i,acc,o3,H3,B3,j0,mV,w3⟩:=hJ;refine VM (model Y.prog Y.w) _ _ _ _ ?_;rw[ht];obtain⟨oD,ys,nn,ho,eo,nA,tW⟩:=ds.obj B3;have pb:∀p∈[(D,oD)],p.1∉fp:=λp hp=>by
  have e:p=(D,oD):=by simpa using hp
  subst e;exact l0
 have qN:∀{pl:List (Addr×Obj)} {cV:St} {H':Hp} {s':Y4},Inv Y (pins++[(D,oD)]++pl) cV H' s'->s'.heap.PlainList D ys/\H' D=none:=λ{pl cV H' s'} I'=>by
  have q:=I'.pin (D,oD) (Zc _ (aaj _ (Zc _ (by simp))));exact⟨⟨nn,by rw[<- eo];exact q.1⟩,q.2.1⟩
 refine YX (abA (YX ?_))
 rcases turn i n _ acc H3 w3 with ⟨stop,q⟩ | ⟨go,N',hN,step⟩
 ·have hd:=T.done Y rfl rfl rfl hc i _ s3 _ H3 (λ_ _=>False) tW (l7 mV pb) j0 stop
  refine aF hd λr s4 h4=>?_;obtain⟨hr,I4⟩:=h4;subst hr;obtain⟨B9,n4⟩:=qN (pl:=[]) (by simpa using I4);exact YZ ⟨rfl,o3,H3,acc,⟨I4.kY,B3.len,⟨ys,B9,nA⟩,n4,B3.kL⟩,q⟩
 ·have hd:=T.item Y rfl rfl rfl hc i _ s3 _ H3 (λ_ _=>False) tW (l7 mV pb) j0 go
  refine aF hd λr s4 h4=>?_;obtain⟨u,hr,h4⟩:=h4;subst hr;refine YX (aF h4 λ_ s5 h5=>?_);obtain⟨x,H5,I5,r5,y5,gO,sU⟩:=h5;have sV:=I5.pinned (l7 sU pb) (T.obj _ _ gO);have q5:=hG _ s5 _ H5 x u _ sV r5 (gy x o3 _ H5 _ B3.len (step x H5 y5));rw[hx] at q5;refine YX (aF q5 λ_ s6 h6=>?_);obtain⟨qO,H6,I6,⟨o6,tX,wY⟩,q6⟩:=h6;have q7:=hF _ s6 qO H6 _ I6 q6;rw[hx] at q7;refine YX (aF q7 λb s7 h7=>?_);obtain⟨H7,I7,q7⟩:=h7;subst wY;obtain⟨xC,n7⟩:=qN I7;have Ca:Inv Y (pins++mw fp s5.heap) (o6++caps) H7 s7:=I7.k9 λp hp=>by
   rcases Zq.mp hp with z|z
   ·exact I7.pin p (Zc _ (aaj _ (aaj _ z)))
   ·exact I7.pin p (Zc _ (Zc _ z))
  have sy:∀{cV:St} {H':Hp} {s':Y4},Inv Y (pins++mw fp s5.heap) cV H' s'->tn (i+1) s'.heap/\∀b∈fp,H' b=none:=λ{cV H' s'} I'=>by
   refine⟨T.keep _ _ _ gO λb hb o e=>(I'.pin (b,o) (Zc _ (Zc _ (pK hb e)))).1,λb hb=>?_⟩;obtain⟨o,e,_⟩:=T.obj _ _ gO b hb;exact(I'.pin (b,o) (Zc _ (Zc _ (pK hb e)))).2.1
  cases b with
  |false =>
   rw[if_neg Y7] at q7;obtain⟨m',hm,w7⟩:=hN _ _ _ q7;obtain⟨t7,f7⟩:=sy Ca;exact YZ ⟨rfl,m',hm,i+1,acc,o6,H7,⟨Ca.kY,tX,⟨ys,xC,nA⟩,n7,B3.kL⟩,t7,f7,w7⟩
  |true =>
   rw[if_pos rfl] at q7;have WA:DS Y D (pins++mw fp s5.heap):=⟨ds.loc,ds.fs,ds.new,ds.cell,λp hp=>by
    rcases Zq.mp hp with z|z
    ·exact ds.pin p (aaj _ z)
    ·rcases Zq.mp z with z|z
     ·exact ds.pin p (Zc _ z)
     ·exact λe=>l0 (e ▸ (EG z).1)⟩
   refine aF (hA _ o6 H7 s7 acc N' WA ⟨Ca,tX,⟨ys,xC,nA⟩,n7,B3.kL⟩ q7) λfn s8 h8=>?_;obtain⟨WB,o8,H8,VN,B8,q8⟩:=h8;subst WB;obtain⟨m',hm,w8⟩:=hN _ _ _ q8;obtain⟨t8,f8⟩:=sy B8.inv;exact⟨rfl,m',hm,i+1,VN,o8,H8,⟨B8.inv.kY,B8.len,B8.lst,B8.free,B8.kL⟩,t8,f8,w8⟩
end
end L2
namespace L2
open PySem PySem.Spec PyProof.Rows
theorem Hu (A:ZX) (Q':Fin->Y4->Prop) (E':Value->Y4->Prop) (s':Y4)
 (h:wpAny (model P w) A (compTurn (.ListComp el gens sc ps) d iX av ce) Q' (λ_ _=>False) s'):wpAny (model P w) (A.under (.compLoop (.ListComp el gens sc ps) d iX av ce)) ((model P w).den (.compLoop (.ListComp el gens sc ps) d iX av ce)) Q' E' s':=by
 show wpAny _ A ((compTurn (.ListComp el gens sc ps) d iX av ce).onRaise (λx=>do noteFrame x ce;theTreesLotGoes x)) _ _ s'
 exact wpAny_noted (aaQ h (λ_ _ q=>q) λ_ _ z=>z.elim)
theorem OW (hd:gens[d]?=some ⟨target,iter,ifs,0⟩)
 (h0:adk (model P w) A (.compLoop (.ListComp el gens sc ps) d it acc env) R s)
 (h:wpAny (model P w) A (pyIter it) (λnB s'=>adk (model P w) A (.compLoop (.ListComp el gens sc ps) d nB acc env) R s') (λ_ _=>False) s) :
  adk (model P w) A (.compStart (.ListComp el gens sc ps) d it acc env) R s:=by
 refine acA ?_
 show wpAny _ _ ((compStart (.ListComp el gens sc ps) d it acc env).onRaise (λx=>do noteFrame x env;acL theWindowsPlace)) _ _ s
 refine wpAny_notedAt ?_;have gp:(clausesOf (.ListComp el gens sc ps))[d]?=some ⟨target,iter,ifs,0⟩:=hd;unfold compStart;rw[gp];show wpAny _ _ (ask >>= _) _ _ s;refine YX (abi (wpAny_ite ?_));split
 ·first
   |exact YX (YZ (YZ (And.intro rfl h0)))
   |exact YZ (And.intro rfl h0)
 ·refine YX (aa5 ?_)
  show wpAny _ _ (acL iter.pos >>= _) _ _ s;exact YX (abA (YX (aaQ h (λnB s' h'=>YZ (And.intro rfl h')) λ_ _ x=>x.elim)))
section
variable {Y:Cx} {D:Addr} {nt:Nat} {caps:St}
theorem yD {el tg src:Expr} {gens:List Comprehension} {sc:Scope} {ps:Pos} {tests:List Expr} {d:Nat} {wi:TI} {g:TG} {tf:TT} {ta:jU} {act:Addr->Sem PySem.Fin} {c:Code} (hx:Y.xe=λ_ _=>False) (hc:Y.calm=true) (hd:gens[d]?=some ⟨tg,src,tests,0⟩)
  (hi:PI Y tg src wi) (hG:PG Y tg g) (gy:lX g nt) (hF:PF Y tests tf) (hA:∀it:Addr,sx Y D nt caps (.compLoop (.ListComp el gens sc ps) d (.ref it) (.ref D) Y.env) (act it) ta)
  (ht:∀it:Addr,compTurn (.ListComp el gens sc ps) d (.ref it) (.ref D) Y.env=(do
   acL src.pos
   match <- abr (.ref it) with
   |none=>pure (.done .next)
   |some v =>
    abt tg (.ref it) v
    acZ tg Y.env v
    let mut ok:=true
    for c in tests do
     if ok then ok <- isTrue c Y.env (eval c Y.env)
    if ok then act it else again (.compLoop (.ListComp el gens sc ps) d (.ref it) (.ref D) Y.env)))
  (hs:∀x,ZW src Y.env x=pure x) :
  sx Y D nt caps c (do
   let x <- eval src Y.env
   acL src.pos
   let x <- ZW src Y.env x
   let _ <- runOwn (.compStart (.ListComp el gens sc ps) d (<- abz [x] (pyIter x)) (.ref D) Y.env) Y.env
   again c) (Iu wi g tf ta):=by
 intro pins o H s acc Q ds B h;obtain⟨oD,ys,nn,ho,eo,rv,I⟩:=ds.obj B;have q:=hi _ s _ H _ I h;rw[hx] at q;refine YX (aF q λv s1 h1=>YX (abA ?_));rw[hs];refine YX (YZ (YX (aat (aF h1 λiX s2 h2=>?_))));obtain⟨it,fp,tn,J,H2,e,I2,T,gv,f2,ca⟩:=h2;subst e;have pD:=I2.pin (D,oD) (Zc _ (Zc _ (by simp)));have l0:D∉fp:=λz=>(f2 D z).2.2.2.2.2 (D,oD) (Zc _ (Zc _ (by simp))) rfl;have o9:∀b∈fp,gb Y pins H2 b:=λb hb=>by
  obtain⟨a1,a2,a3,a4,a5,a6⟩:=f2 b hb;refine⟨a1,a2,a3,a4,a5,λp hp=>a6 p ?_⟩
  rcases Zq.mp hp with z|z
  ·exact aaj _ z
  ·exact Zc _ (aaj _ z)
 have B2:o7 Y D nt caps pins o H2 s2 acc:=⟨I2.kY,B.len,⟨ys,⟨nn,by rw[<- eo];exact pD.1⟩,rv⟩,pD.2.1,B.kL⟩;have loop:=Ep (e:=.ListComp el gens sc ps) (d:=d) hx hc T gv o9 l0 hG gy hF (hA it) ds B2 rfl (λ_ A Q' E' s' h=>Hu A Q' E' s' h) (ht it) ca;refine YX (wpAny_runOwn ?_);refine aa3 (OW hd loop (T.self _ _ _ _ _ gv loop)) λr s' hr=>?_;obtain⟨e,q⟩:=hr;subst e;exact YZ ⟨rfl,q⟩
end
noncomputable def Hv (wi:TI) (nt:Nat) (cap:List Nat) (g:TG) (tf:TT) (ta:jU):TE:=fun σ H Q=>wi σ H λJ H1=>CA J g tf ta (Za nt none++mG cap σ) [] H1 λ_ acc H2=>∀D,H2 D=none->Q (.ref D) (upd H2 D (.lst acc))
section
variable {X:Cx}
theorem FA {el tg src:Expr} {tests:List Expr} {rest:List Comprehension} {sc:Scope} {ps:Pos} {N:List Str} {nt:Nat} {cap:List Nat} {wi:TI} {g:TG} {tf:TT} {ta:jU} {act:Env->Addr->Addr->Sem PySem.Fin} (hc:X.calm=true) (S:rD X sc N nt cap) (gy:lX g nt) (hi:PI X tg src wi)
  (hY:∀(cl:List (Str×Addr)) (C:Addr) (s:Y4) (H:Hp) (ex:List Addr) (pn:List (Addr×Obj)),PG (dW X N sc cl C s H ex pn) tg g/\PF (dW X N sc cl C s H ex pn) tests tf/\∀D caps it,sx (dW X N sc cl C s H ex pn) D nt caps (.compLoop (.ListComp el (⟨tg,src,tests,0⟩::rest) sc ps) 0 (.ref it) (.ref D) (compEnvC sc cl C X.env)) (act (compEnvC sc cl C X.env) D it) ta)
  (ht:∀(it D:Addr) (ce:Env),compTurn (.ListComp el (⟨tg,src,tests,0⟩::rest) sc ps) 0 (.ref it) (.ref D) ce=(do
   acL src.pos
   match <- abr (.ref it) with
   |none=>pure (.done .next)
   |some v =>
    abt tg (.ref it) v
    acZ tg ce v
    let mut ok:=true
    for c in tests do
     if ok then ok <- isTrue c ce (eval c ce)
    if ok then act ce D it else again (.compLoop (.ListComp el (⟨tg,src,tests,0⟩::rest) sc ps) 0 (.ref it) (.ref D) ce)))
  (hs:∀x,ZW src X.env x=pure x:=by intro _;rfl):PE X (.ListComp el (⟨tg,src,tests,0⟩::rest) sc ps) (Hv wi nt cap g tf ta):=by
 intro pins s σ H Q I h;obtain⟨cl,Ar,dO⟩:=Hb (env:=X.env) (sc:=sc) λn hn=>I.ok.has n (S.frees _ hn rfl).2;rw[eval_ListComp];refine wpAny_comprehension_free (use:=none) rfl hs Ar S.kind S.names (aF (hi pins s σ H _ I h) λxv s1 h1=>aF h1 λiX s2 h2=>?_);obtain⟨it,fp,tn,J,H2,e,I2,T,gv,f2,ca⟩:=h2;subst e;refine Zt (wpAny_newFunctionEnv S.Hc (by intro y hy;simp at hy) (λh3 jV qA=>?_) S.kind);dsimp only at jV qA |-;generalize hD:s2.heap.objs.size=D at jV qA |-;generalize hG:s2.heap.push { cls:=.type "list",dict:=none,data:=.seq ([]:List Value).toArray }=G at jV qA |-;generalize Cb:G.objs.size=C at jV qA |-;have hC:C=D+1:=by rw[<- Cb,<- hG,ZP,hD]
 have pd:D≠C:=by omega
 have gj:s2.heap.objs.size<=D:=Nat.le_of_eq hD;have hV:s2.heap.objs.size<=C:=by omega
 have old:∀b o,s2.heap.get? b=some o->h3.get? b=some o:=λb o e=>qA.extBut b o (Zn (Y5 (Y9 e) hV)) (YY _ (hG ▸ YY _ e));have kG:h3.PlainList D #[]:=⟨_,qA.extBut _ _ pd (YY _ (hG ▸ hD ▸ Y6 _ rfl))⟩;have iZ:∀b∈fp,b<s2.heap.objs.size:=λb hb=>by
  obtain⟨o,e,_⟩:=T.obj _ _ gv b hb;exact Y9 e
 have IB:=I2.block (t':=s2.toks+([]:List (Str×Value)).length) S dO f2 iZ old hV ⟨_,jV⟩;have Cc:D∉gM X.stack:=λz=>by
  rcases Zh.mp (I2.lp D z) with e|e
  ·exact absurd (Y5 I2.lt gj) (by rw[e];exact ZF _)
  ·exact I2.sk gj e
 have l0:D∉fp:=λz=>absurd (Y5 (iZ D z) gj) (ZF _);have zK:∀x c,cl.lookup x=some c->c≠D:=λx c e z=>by
  obtain⟨v,o,ho,_⟩:=I2.cell x c ((dO x c).mp e).2;exact absurd (Y5 (Y9 ho) (by rw[z];exact gj)) (ZF _)
 have As:∀p∈X.pn++pins,p.1≠D:=λp hp z=>absurd (Y5 (Y9 (I2.pin p hp).1) (by rw[z];exact gj)) (ZF _);have fin:∀(s':Y4) (τ:St) (H':Hp) (acc:List V) (ys:Array Value),Inv (dW X N sc cl C s2 H2 fp (X.pn++pins)) [] τ H' s'->s'.heap.PlainList D ys->Vals acc ys.toList->H' D=none->acc.length<=Zf->(∀D,H' D=none->Q (.ref D) (upd H' D (.lst acc))) ->
   compPost (model X.prog X.w) X.A X.xe none (EP X pins σ Q) (.ref D) C (.ok .next) s':=by
  intro s' τ H' acc ys I' pl rv hn hz q;obtain⟨m,hm,_⟩:=id I'.loc;refine⟨m,hm,λh' sb=>?_⟩;have Bf:cm X.prog X.w H' h':=I'.aG.but I'.free sb;obtain⟨n,ho⟩:=pl;have cP:h'.get? D=some { cls:=.type "list",data:=.seq ys n }:=(sb.2 D pd).trans ho;have new:cL X.prog X.w (upd H' D (.lst acc)) h' D (.lst acc):=⟨hz,ys.toList,n,rv,by simpa using cP⟩;have u:=(I'.base.but hV sb).adopt (o:=.lst acc) gj hn
  refine⟨.ref D,upd H' D (.lst acc),I2.Ae (s':={ s' with heap:=h' }) (ch:=fp) I'.os u (Bf.adopt hn new) I'.bare (λb hb=>?_),rfl,q D hn⟩
  obtain⟨_,f1,_,f3,f4,f5⟩:=f2 b hb;exact⟨f3,f1,f4,f5⟩
 have l7:∀b∈fp,gb (dW X N sc cl C s2 H2 fp (X.pn++pins)) [] H2 b:=λb hb=>by
  obtain⟨f0,f1,o9,f3,f4,f5⟩:=f2 b hb;refine⟨f0,Zn (Y5 (iZ b hb) hV),λz=>?_,.inl hb,λx c e=>f4 x c ((dO x c).mp e).2,λp tV=>?_⟩
  ·rcases Zh.mp (I2.lp b z) with e|e
   ·exact f1 e
   ·exact o9 e
  ·exact f5 p (by simpa using tV)
 obtain⟨Cd,Ce,WC⟩:=hY cl C s2 H2 fp (X.pn++pins);have loop:=Ep (Y:=dW X N sc cl C s2 H2 fp (X.pn++pins)) (D:=D) (nt:=nt) (caps:=mG cap σ) (e:=.ListComp el (⟨tg,src,tests,0⟩::rest) sc ps) (d:=0) (pins:=[]) (o:=Za nt none) (acc:=[]) rfl hc T
  (T.keep _ _ _ gv λb _ o e=>old b o e) l7 l0 Cd gy Ce (WC D _ it) ⟨pd,Cc,gj,zK,λp hp=>As p (by simpa using hp)⟩ ⟨IB,by simp,⟨#[],kG,.nil⟩,I2.aG.fresh gj,aad _⟩ rfl (λ_ A Q' E' s' h=>Hu A Q' E' s' h) (ht it D _) ca
 have Iv:=aa3 loop (R':=compPost (model X.prog X.w) X.A X.xe none (EP X pins σ Q) (.ref D) C) λr s' hr=>by
  obtain⟨e,o',H',fG,B',q'⟩:=hr;subst e;obtain⟨ys,pl,rv⟩:=B'.lst;exact fin s' _ H' fG ys B'.inv pl rv B'.free B'.kL q'
 exact codeAny_compStart_list Iv (T.self _ _ _ _ _ (T.keep _ _ _ gv λb _ o e=>old b o e) Iv)
end
end L2
namespace DI
open PySem L2
theorem fR:ZL "isinstance"=some (.builtin "isinstance"):=by decide +kernel
theorem Iw:ZL "int"=some (.type "int"):=by decide +kernel
theorem v9:ZL "bool"=some (.type "bool"):=by decide +kernel
theorem ef:ZL "tuple"=some (.type "tuple"):=by decide +kernel
theorem lD:ZL "list"=some (.type "list"):=by decide +kernel
theorem Iy:ZL "set"=some (.type "set"):=by decide +kernel
theorem mM:ZL "all"=some (.builtin "all"):=by decide +kernel
theorem Au:ZL "any"=some (.builtin "any"):=by decide +kernel
theorem kD:ZL "len"=some (.builtin "len"):=by decide +kernel
theorem Hw:ZL "repr"=some (.builtin "repr"):=by decide +kernel
theorem Av:ZL "max"=some (.builtin "max"):=by decide +kernel
theorem Uu:ZL "min"=some (.builtin "min"):=by decide +kernel
theorem yE:ZL "sorted"=some (.builtin "sorted"):=by decide +kernel
structure Gd (K:Frag) (mg:Str->Option Value) (x:Str) (st:Stmt) (ps:List Str) (f:Addr) (fd:ZA):Prop where
 mg:mg x=some (.ref f)
 fn:oS K x x st f fd
 b:Binds K fd ps []
theorem Uv {P:ZE} {w:World} {K:Frag} {mg:Str->Option Value} {base:Heap} {k:Nat} {f:Addr} {fd:ZA} {ps:List Str} {g:List D->ag->Res D} (h:∀ds s,g ds s=none):aV P w K mg base aY k f fd ps (bx K g) :=
 ⟨λvs H Q E h'=>by obtain⟨w,ds,_,_,_,q⟩:=h';rw[h] at q;exact q.elim,λA outer s H args us vs Q E _ _ _ _ h'=>by obtain⟨w,ds,_,_,_,q⟩:=h';rw[h] at q;exact q.elim⟩
noncomputable def wu (K:Frag):Sp:=λvs H Q _=>∃(a:Addr) (ns:List Int),vs=[.ref a]/\bQ K H a (ns.map V.int)/\ns.length<=63/\∀H',Q (.bl true) H'
theorem Sy (F:aV P w K mg base aY k f fd [x] (bx K g))
 (h:∀ns:List Int,ns.length<=63->∃s,g [.bG ns] []=some (.ok (.bl true),s)):aV P w K mg base aY k f fd [x] (wu K):=F.imp λvs H Q E ⟨a,ns,e,hS,hl,q⟩=>by
 subst e;obtain⟨s,hs⟩:=h ns hl;have nz:∀b,¬ (⟨[],[],H⟩:Wd).Z b:=λb ⟨k,c,e1,_,_⟩=>by simp at e1
 refine⟨⟨[],[],H⟩,[.bG ns],rfl,⟨rfl,adv,λk a e=>by simp at e,λk a c e=>by simp at e⟩,aw.one ⟨a,rfl,?_⟩,?_⟩
 ·rcases hS with hS|hS
  ·exact .inl ⟨nz a,hS⟩
  ·exact .inr hS
 ·show Out K cI _ (g [.bG ns] []) _
  rw[hs];intro w' _ _ _ v dv;have e:v=.bl true:=dv;subst e;exact q _
end DI
namespace DI
open PySem L2
noncomputable def jq (g:D->Env->Option Env) (t:Env->ag->Res Bool) (act:Env->ag->Res (List D)) (oz:Env):List D->ag->Res (List D)
 | [],s=>ok [] s
 |d::ds,s=>match g d oz with
  |none=>none
  |some env=>au (ne (t env s)) λb s=>if b=true then au (ne (act env s)) λxs s=>au (jq g t act oz ds s) λys s=>ok (xs++ys) s
   else jq g t act oz ds s
noncomputable def emit (f:Env->ag->Res D):Env->ag->Res (List D):=λenv s=>au (f env s) λx s=>ok [x] s
noncomputable def more (it:Env->ag->Res (List D)) (g:D->Env->Option Env) (t:Env->ag->Res Bool) (act:Env->ag->Res (List D)):Env->ag->Res (List D):=λenv s=>au (it env s) λds s=>jq g t act env ds s
noncomputable def rK (nt:Nat) (cap:List Nat) (it:Env->ag->Res (List D)) (g:D->Env->Option Env) (t:Env->ag->Res Bool) (act:Env->ag->Res (List D)):Env->ag->Res D:=λenv s =>
 au (it env s) λds s=>au (ne (jq g t act (Za nt none++gF cap env) ds s)) λxs s=>iB xs (ok (.lst xs) s)
def Sl (g:D->Env->Option Env) (sl:List Nat):Prop:=∀d env env',g d env=some env'->env'.length=env.length/\∀i,i∉sl->env'[i]?=env[i]?
theorem vB (i:Nat):Sl (gN i) [i]:=λd env env' h=>by
 have e:env.set i (some d)=env':=Option.some.inj h;subst e;refine⟨ZU ..,λj hj=>?_⟩;rw[Ze (λz=>hj (by simp[z]))]
theorem Iz:∀(is:List Nat) (ds:List D) (env env':Env),gH (is.map gN) ds env=some env'->env'.length=env.length/\∀i,i∉is->env'[i]?=env[i]?
 | [],[],env,env',h=>by
  have e:env=env':=Option.some.inj h;rw[e];exact⟨rfl,λ_ _=>rfl⟩
 | [],_::_,_,_,h=>by cases h
 |_::_,[],_,_,h=>by cases h
 |j::is,d::ds,env,env',h=>by
  have h':gH (is.map gN) ds (env.set j (some d))=some env':=h;obtain⟨h1,h2⟩:=Iz is ds _ env' h';refine⟨by rw[h1,ZU],λi hi=>?_⟩;rw[h2 i (λz=>hi (Zd _ z)),Ze (λz=>hi (by rw[z];exact Zb ..))]
theorem zC (is:List Nat):Sl (gT (is.map gN)) is:=λd env env' h=>by
 cases d with
 |tup ds=>exact Iz is ds env env' h
 |_=>cases h
theorem len_same {g:D->Env->Option Env} {sl:List Nat} {d:D} {env env':Env} (hs:Sl g sl) (hg:g d env=some env'):env'.length=env.length:=(hs d env env' hg).1
def gQ (sl:List Nat) (env:Env):Prop:=∀i∈sl,∀d,env[i]?≠some (some d)
theorem bZ.back {K:Frag} {w:Wd} {env env':Env} {σ:St} {g:D->Env->Option Env} {sl:List Nat} {d:D} (hs:Sl g sl) (hf:gQ sl env) (hg:g d env=some env') (hl:env.length=σ.length) (h:bZ K w env' σ):bZ K w env σ :=
 ⟨hl,λi x e=>by
  by_cases hi:i∈sl
  ·exact absurd e (hf i hi x)
  ·exact h.val i x (by rw[(hs d env env' hg).2 i hi];exact e)⟩
def se (K:Frag) (Pre:Env->Prop) (ta:jU) (act:Env->ag->Res (List D)):Prop:=∀(w:Wd) (env:Env) (τ:St) (acc:List V) (accD xs:List D) (s':ag) (Q:St->List V->Hp->Prop),Pre env->aN K w->bZ K w env τ->aw K w accD acc ->
 act env w.aJ=some (.ok xs,s')->acc.length+xs.length<=Zf->(∀w' cV vs,Le K w w'->aN K w'->w'.aJ=s'->bZ K w' env cV->aw K w' (accD++xs) vs->Q cV vs w'.H)->ta τ w.H acc Q
theorem pP {α β:Type} {r:Res α} {k:α->ag->Res β} {b:β} {s':ag} (h:au r k=some (.ok b,s')):∃a s,r=some (.ok a,s)/\k a s=some (.ok b,s'):=by
 match r,h with
 |some (.ok a,s),h=>exact⟨a,s,rfl,h⟩
theorem zh {α:Type} {r:Res α} {a:α} {s:ag} (h:ne r=some (.ok a,s)):r=some (.ok a,s):=by
 match r,h with
 |some (.ok b,s2),h=>exact h
theorem D8 {K:Frag} {f:Env->ag->Res D}:se K (λ_=>True) (Ir (tE K cI f)) (emit f):=by
 intro w env τ acc accD xs s' Q _ S eo da h hl hQ;obtain⟨x,s1,h1,h2⟩:=pP h;cases h2;refine⟨by simpa using hl,w,env,rfl,S,eo,?_⟩;rw[h1];intro w' le S' e' v dv;exact hQ w' τ (acc++[v]) le S' e' (eo.le le) (aw.append (le.all da) (aw.one dv))
theorem E1 {K:Frag} {Pre:Env->Prop} {g0:TG} {g:D->Env->Option Env} {nt:Nat} {sl:List Nat} {t:Env->ag->Res Bool} {act:Env->ag->Res (List D)} {ta:jU} {env:Env} {w1:Wd} {J:It} {ds xs accD:List D} {s':ag} {τ:St} {acc:List V} {Q:St->List V->Hp->Prop}
  (T:Tg K g0 g nt) (hs:Sl g sl) (hf:gQ sl env) (hp:∀d env',g d env=some env'->Pre env') (hA:se K Pre ta act) (hJ:nv K w1 J ds) (S1:aN K w1) (eo:bZ K w1 env τ) (da:aw K w1 accD acc)
  (h:jq g t act env ds w1.aJ=some (.ok xs,s')) (hl:acc.length+xs.length<=Zf) (hQ:∀w' cV vs,Le K w1 w'->aN K w'->w'.aJ=s'->bZ K w' env cV->aw K w' (accD++xs) vs->Q cV vs w'.H) :
  CA J g0 (tT K cI t) ta τ acc w1.H Q:=by
 refine⟨λi m τ acc H'=>m=ds.length-i/\i<=ds.length/\∃w' accD xs,w'.H=H'/\Le K w1 w'/\aN K w'/\bZ K w' env τ/\aw K w' accD acc/\jq g t act env (ds.drop i) w'.aJ=some (.ok xs,s')/\acc.length+xs.length<=Zf /\
   (∀w2 cV vs,Le K w' w2->aN K w2->w2.aJ=s'->bZ K w2 env cV->aw K w2 (accD++xs) vs->Q cV vs w2.H),
  ⟨ds.length,rfl,aad _,w1,accD,xs,rfl,Le.refl _,S1,eo,da,h,hl,hQ⟩,?_⟩
 rintro i m τ acc H' ⟨rfl,hi,w',accD,xs,rfl,l',S',jy,xD,h',l8,m9⟩;by_cases bC:i<ds.length
 ·right
  obtain⟨gy,hy⟩:=(hJ w' l' S' i).1 _ (Y8 bC);rw[acd bC] at h';simp only[jq] at h'
  cases hg:g ds[i] env with
  |none=>rw[hg] at h';cases h'
  |some jo =>
   rw[hg] at h';obtain⟨b,s2,hb,h2⟩:=pP h';have hb:=zh hb;refine⟨gy,fun τ acc H2=>∃w' accD xs,w'.H=H2/\Le K w1 w'/\aN K w'/\bZ K w' env τ/\aw K w' accD acc/\jq g t act env (ds.drop (i+1)) w'.aJ=some (.ok xs,s')/\acc.length+xs.length<=Zf /\
    (∀w2 cV vs,Le K w' w2->aN K w2->w2.aJ=s'->bZ K w2 env cV->aw K w2 (accD++xs) vs->Q cV vs w2.H),fun oT wR H2 q=>⟨ds.length-(i+1),by omega,rfl,bC,q⟩,λx H3 y=>?_⟩
   obtain⟨w2,rfl,l2,S2,es,dv⟩:=hy x H3 y;refine T.imp _ _ _ _ ⟨w2,env,ds[i],jo,rfl,S2,jy.le l2,dv,hg,fun lW kO=>⟨w2,jo,rfl,S2,kO,?_⟩⟩;have hlen:∀{kJ:St},kJ.length=lW.length->jo.length=kJ.length:=λe=>by rw[kO.len,e]
   have el:env.length=jo.length\/True:=.inr trivial;rw[es,hb];intro w3 l3 S3 e3
   cases b with
   |true =>
    rw[if_pos rfl] at h2 |-;obtain⟨ys,s3,xE,h3⟩:=pP h2;have xE:=zh xE;obtain⟨zs,s4,hz,h4⟩:=pP h3;cases h4;rw[<- e3] at xE;refine hA w3 jo lW acc accD ys s3 _ (hp _ _ hg) S3 (kO.le l3) ((l2.trans l3).all xD) xE (by rw[Zx] at l8;omega) λw4 YL vs l4 S4 e4 JV Jm=>?_;have lv:=Jm.length;refine⟨w4,accD++ys,zs,rfl,l'.trans (l2.trans (l3.trans l4)),S4,JV.back hs hf hg ?_,Jm,by rw[e4];exact hz,?_,λw5 Cf Cg l5 S5 e5 Ci Bg=>m9 w5 Cf Cg (l2.trans (l3.trans (l4.trans l5))) S5 e5 Ci (by rw[<- aax];exact Bg)⟩
    ·rw[<- JV.len]
     exact(len_same hs hg).symm
    ·rw[Zx] at l8 lv
     have:=xD.length;omega
   |false =>
    rw[if_neg Y7] at h2 |-;exact⟨w3,accD,xs,rfl,l'.trans (l2.trans l3),S3,(kO.le l3).back hs hf hg (by rw[<- kO.len];exact(len_same hs hg).symm),(l2.trans l3).all xD,by rw[e3];exact h2,l8,λw5 Cf Cg l5 S5 e5 Ci Bg=>m9 w5 Cf Cg (l2.trans (l3.trans l5)) S5 e5 Ci Bg⟩
 ·left
  have e:i=ds.length:=by omega
  subst e;rw[List.drop_length] at h';cases h';exact⟨(hJ w' l' S' _).2 (Nat.le_refl _),m9 w' τ acc (Le.refl _) S' rfl jy (by rw[aa8];exact xD)⟩
theorem yd {K:Frag} {Pre Pre':Env->Prop} {g0:TG} {g:D->Env->Option Env} {nt:Nat} {sl:List Nat} {it:Env->ag->Res (List D)} {t:Env->ag->Res Bool} {act:Env->ag->Res (List D)} {ta:jU} (T:Tg K g0 g nt) (hs:Sl g sl) (hA:se K Pre ta act)
  (h1:∀env,Pre' env->gQ sl env) (h2:∀d env env',Pre' env->g d env=some env'->Pre env'):se K Pre' (Iu (dX K cI it) g0 (tT K cI t) ta) (more it g t act):=by
 intro w env τ acc accD xs s' Q hp S eo da h hl hQ;obtain⟨ds,s1,hd,h3⟩:=pP h;refine⟨w,env,rfl,S,eo,?_⟩;rw[hd];intro w1 l1 S1 e1 J hJ;exact E1 T hs (h1 env hp) (λd env' hg=>h2 d env env' hp hg) hA hJ S1 (eo.le l1) (l1.all da) (by rw[e1];exact h3) hl λw' cV vs l' S' e' jy ar=>hQ w' cV vs (l1.trans l') S' e' jy ar
theorem E2 (T:Tg K g0 g nt) (hs:Sl g sl) (ng:∀i∈sl,i<nt) (hA:se K Pre ta act)
 (hp:∀d caps env',g d (Za nt none++caps)=some env'->Pre env') (σ:St) (H:Hp) (Q:VK) :
  tE K Ξ (rK nt cap it g t act) σ H Q->Hv (dX K Ξ it) nt cap g0 (tT K cI t) ta σ H Q:=by
 rintro ⟨w,env,rfl,S,eo,h⟩;refine⟨w,env,rfl,S,eo,(Out.au h).mono λw1 ds l1 S1 h1 J hJ=>?_⟩
 cases hr:jq g t act (Za nt none++gF cap env) ds w1.aJ with
 |none=>rw[hr] at h1;exact h1.elim
 |some r =>
  obtain⟨r,s'⟩:=r;rw[hr] at h1
  cases r with
  |error x=>exact h1.elim
  |ok xs =>
   have h1:Out K Ξ w1 (iB xs (ok (D.lst xs) s')) (λw' d=>∀v,DV K w' d v->Q v w'.H):=h1;obtain⟨hz,h1⟩:=ra h1;have eb:=(eo.le l1).block nt cap (Za nt none) (by simp);refine E1 T hs (λi hi d e=>?_) (λd env' hg=>hp d _ env' hg) hA hJ S1 eb (accD:=[]) rfl hr (by simpa using hz) λw' cV vs l' S' e' jy ar p xF=>?_
   ·rw[Zm (by simpa using ng i hi),aaq,if_pos (ng i hi)] at e
    cases e
   ·exact h1 (w'.grow p (.lst vs)) (l'.trans (Fw.grow xF).le) (S'.grow xF) e' (.ref p) ⟨p,vs,rfl,⟨(show ¬ w'.Z p from lu S' xF),cF⟩,(Fw.grow xF).le.all ar⟩
theorem gQ.of {nt:Nat} {g:D->Env->Option Env} {sl dF:List Nat} (hs:Sl g sl) (hd:∀i∈dF,i<nt/\i∉sl) {d:D} {caps env':Env} (hg:g d (Za nt none++caps)=some env'):gQ dF env':=λi hi x e=>by
 obtain⟨h1,h2⟩:=hd i hi;rw[(hs _ _ _ hg).2 i h2,Zm (by simpa using h1),aaq,if_pos h1] at e;cases e
theorem gQ.on (hs:Sl g sl) (hd:∀i∈dF,i∉sl) (hf:gQ dF env) (hg:g d env=some env'):gQ dF env':=λi hi x e=>by
 rw[(hs _ _ _ hg).2 i (hd i hi)] at e;exact hf i hi x e
section
variable {X:Cx} {Ξ:Wd->bH->Prop} {el tg src kc iS qP oH:Expr} {tests lE rL:List Expr} {sc:Scope} {ps pos:Pos} {N:List Str} {nt:Nat} {cap:List Nat} {it i4 xG:Env->ag->Res (List D)} {gd qQ Cj:D->Env->Option Env} {g0 xH JW:TG} {sl dF tY:List Nat} {ft j7 JX:Env->ag->Res Bool} {f:Env->ag->Res D}
noncomputable abbrev Hx (nt:Nat) (cap:List Nat) (it:Env->ag->Res (List D)) (g:D->Env->Option Env) (t:Env->ag->Res Bool) (i4:Env->ag->Res (List D)) (g2:D->Env->Option Env) (t2:Env->ag->Res Bool) (f:Env->ag->Res D):Env->ag->Res D:=rK nt cap it g t (more i4 g2 t2 (emit f))
noncomputable abbrev Hy (nt:Nat) (cap:List Nat) (it:Env->ag->Res (List D)) (g:D->Env->Option Env) (t:Env->ag->Res Bool) (i4:Env->ag->Res (List D)) (g2:D->Env->Option Env) (t2:Env->ag->Res Bool) (xG:Env->ag->Res (List D)) (g3:D->Env->Option Env) (t3:Env->ag->Res Bool) (f:Env->ag->Res D):Env->ag->Res D:=rK nt cap it g t (more i4 g2 t2 (more xG g3 t3 (emit f)))
noncomputable def apart (nt:Nat) (sl dF:List Nat):Bool:=dF.all (λi=>decide (i<nt)&&!sl.contains i)
theorem pQ (h:apart nt sl dF=true):∀i∈dF,i<nt/\i∉sl:=λi hi=>by
 have:=Zu.mp h i hi;simp only[Y3,decide_eq_true_eq,Z4,List.contains_eq_mem,decide_eq_false_iff_not] at this;exact this
noncomputable abbrev Jn (e el:Expr) (d:Nat):PySem.Env->Addr->Addr->Sem PySem.Fin:=λce D it=>(do let _ <- call (.builtin "list.append") [.ref D,<- eval el ce]:Sem Unit) >>= λ_=>again (.compLoop e d (.ref it) (.ref D) ce)
noncomputable abbrev Bh (e src:Expr) (d:Nat):PySem.Env->Addr->Addr->Sem PySem.Fin:=λce D it=>do
 let x <- eval src ce
 acL src.pos
 let x <- ZW src ce x
 let _ <- runOwn (.compStart e (d+1) (<- abz [x] (pyIter x)) (.ref D) ce) ce
 again (.compLoop e d (.ref it) (.ref D) ce)
theorem QE (hc:X.calm=true) (S:rD X sc N nt cap) (T:Tg X.K g0 gd nt) (gw:Sl gd sl) (T2:Tg X.K xH qQ nt) (eG:Sl qQ dF) (hi:PI X tg src (dX X.K Ξ it))
  (hY:∀(cl:List (Str×Addr)) (C:Addr) (s:Y4) (H:Hp) (ex:List Addr) (pn:List (Addr×Obj)),PG (dW X N sc cl C s H ex pn) tg g0/\PF (dW X N sc cl C s H ex pn) tests (tT X.K cI ft)/\PI (dW X N sc cl C s H ex pn) kc iS (dX X.K cI i4)/\PG (dW X N sc cl C s H ex pn) kc xH/\PF (dW X N sc cl C s H ex pn) lE (tT X.K cI j7)/\PE (dW X N sc cl C s H ex pn) el (tE X.K cI f))
  (ni:apart nt sl dF=true:=by rfl) (nj:apart nt [] sl=true:=by rfl)
  (hs:∀x,ZW src X.env x=pure x:=by intro _;rfl) (Ck:∀ce x,ZW iS ce x=pure x:=by intro _ _;rfl):PE X (.ListComp el [⟨tg,src,tests,0⟩,⟨kc,iS,lE,0⟩] sc ps) (tE X.K Ξ (Hx nt cap it gd ft i4 qQ j7 f)) :=
 cG (FA (act:=Bh (.ListComp el [⟨tg,src,tests,0⟩,⟨kc,iS,lE,0⟩] sc ps) iS 0) hc S T.j9 hi (λcl C s H ex pn=>by
   obtain⟨y1,y2,y3,y4,y5,y6⟩:=hY cl C s H ex pn;exact⟨y1,y2,λD caps it=>yD (d:=1) (act:=λnB=>Jn (.ListComp el [⟨tg,src,tests,0⟩,⟨kc,iS,lE,0⟩] sc ps) el 1 _ D nB) rfl hc rfl y3 y4 T2.j9 y5 (λnB=>Fz rfl y6) (λ_=>rfl) (Ck _)⟩) (λ_ _ _=>rfl) hs)
  (E2 (Pre:=gQ dF) T gw (λi hi=>(pQ nj i hi).1) (yd T2 eG D8 (λ_ h=>h) (λ_ _ _ _ _=>trivial)) λd caps env' hg=>gQ.of gw (pQ ni) hg)
theorem QG (hc:X.calm=true) (S:rD X sc N nt cap) (T:Tg X.K g0 gd nt) (gw:Sl gd sl) (T2:Tg X.K xH qQ nt) (eG:Sl qQ dF) (T3:Tg X.K JW Cj nt) (WD:Sl Cj tY) (hi:PI X tg src (dX X.K Ξ it))
  (hY:∀(cl:List (Str×Addr)) (C:Addr) (s:Y4) (H:Hp) (ex:List Addr) (pn:List (Addr×Obj)),PG (dW X N sc cl C s H ex pn) tg g0/\PF (dW X N sc cl C s H ex pn) tests (tT X.K cI ft)/\PI (dW X N sc cl C s H ex pn) kc iS (dX X.K cI i4)/\PG (dW X N sc cl C s H ex pn) kc xH/\PF (dW X N sc cl C s H ex pn) lE (tT X.K cI j7) /\
   PI (dW X N sc cl C s H ex pn) qP oH (dX X.K cI xG)/\PG (dW X N sc cl C s H ex pn) qP JW/\PF (dW X N sc cl C s H ex pn) rL (tT X.K cI JX)/\PE (dW X N sc cl C s H ex pn) el (tE X.K cI f))
  (ni:apart nt sl dF=true:=by rfl) (Cm:apart nt sl tY=true:=by rfl) (WE:apart nt dF tY=true:=by rfl) (nj:apart nt [] sl=true:=by rfl)
  (hs:∀x,ZW src X.env x=pure x:=by intro _;rfl) (Ck:∀ce x,ZW iS ce x=pure x:=by intro _ _;rfl) (WG:∀ce x,ZW oH ce x=pure x:=by intro _ _;rfl):PE X (.ListComp el [⟨tg,src,tests,0⟩,⟨kc,iS,lE,0⟩,⟨qP,oH,rL,0⟩] sc ps) (tE X.K Ξ (Hy nt cap it gd ft i4 qQ j7 xG Cj JX f)) :=
 cG (FA (act:=Bh (.ListComp el [⟨tg,src,tests,0⟩,⟨kc,iS,lE,0⟩,⟨qP,oH,rL,0⟩] sc ps) iS 0) hc S T.j9 hi (λcl C s H ex pn=>by
   obtain⟨y1,y2,y3,y4,y5,y6,y7,y8,y9⟩:=hY cl C s H ex pn;exact⟨y1,y2,λD caps it=>yD (d:=1) (act:=λnB=>Bh (.ListComp el [⟨tg,src,tests,0⟩,⟨kc,iS,lE,0⟩,⟨qP,oH,rL,0⟩] sc ps) oH 1 _ D nB) rfl hc rfl y3 y4 T2.j9 y5 (λnB=>yD (d:=2) (act:=λi4=>Jn (.ListComp el [⟨tg,src,tests,0⟩,⟨kc,iS,lE,0⟩,⟨qP,oH,rL,0⟩] sc ps) el 2 _ D i4) rfl hc rfl y6 y7 T3.j9 y8 (λi4=>Fz rfl y9) (λ_=>rfl) (WG _)) (λ_=>rfl) (Ck _)⟩) (λ_ _ _=>rfl) hs)
  (E2 (Pre:=λenv=>gQ dF env/\gQ tY env) T gw (λi hi=>(pQ nj i hi).1) (yd T2 eG (yd (Pre':=gQ tY) T3 WD D8 (λ_ h=>h) (λ_ _ _ _ _=>trivial)) (λ_ h=>h.1) (λd env env' h hg=>gQ.on eG (λi hi=>(pQ WE i hi).2) h.2 hg)) λd caps env' hg=>⟨gQ.of gw (pQ ni) hg,gQ.of gw (pQ Cm) hg⟩)
end
end DI
namespace L2
open PySem PySem.Spec PyProof.Rows
end L2
namespace HT
open PySem PyProof.Rows
def Bi (A:ZX) (s:Y4) (y x:Value) (b:Bool):Prop:=∀(prog:ZE) (w:World) (E:Value->Y4->Prop) (Q:Value->Y4->Prop),Q (.bool b) s->wpAny (model prog w) A (richCompare .Lt y x) Q E s
inductive iK (A:ZX) (s:Y4):List Value->List Value->Bool->Prop where
 |nn:iK A s [] [] false
 |nc (y:Value) (ys:List Value):iK A s [] (y::ys) true
 |cn (x:Value) (xs:List Value):iK A s (x::xs) [] false
 |eq {x y:Value} {xs ys:List Value} {b:Bool}:SeqAt.EqAt A s x y true->iK A s xs ys b->iK A s (x::xs) (y::ys) b
 |lt {x y:Value} {xs ys:List Value} {b:Bool}:SeqAt.EqAt A s x y false->Bi A s x y b->iK A s (x::xs) (y::ys) b
section
open PySem.SeqAt
open PySem.AutoSeq1 (wpAny_loadPart')
open PySem.MeetsSeq PySem.MeetsSeq2 PySem.MeetsSeq3
theorem MA (l b:Addr) (items my:Array Value) (n n2:Nat) (dd mZ:Option Addr) (sl dF:Array (Option Value)) (l9:Bool) :
  Meets (aaY.«tuple.__lt__» ⟨[.ref l,.ref b],[]⟩)
   (λA R s=>s.heap.get? l=some { cls:=.type "tuple",dict:=dd,data:=.seq items n,slots:=sl }/\s.heap.get? b=some { cls:=.type "tuple",dict:=mZ,data:=.seq my n2,slots:=dF } /\
    iK A.in1 s items.toList my.toList l9/\R (.ok (.ret (.bool l9))) s) :=
 .of_wp λprog w A R s h=>by
  obtain⟨hp,g,d,tk,os⟩:=s;obtain⟨hl,hb,hA,h⟩:=h;have f2:=AutoSeq1.sub_tuple_tuple
  wp_walk using abR hl,abR hb,wpAny_forIn_list _ (λrest b s'=>b.1=none/\s'=⟨hp,g,d,tk,os⟩/\∃(vs ws:List Value),rest=vs.zip ws /\
   iK A.in1 ⟨hp,g,d,tk,os⟩ vs ws l9/\vs.length+my.size=ws.length+items.size) _
  case turn =>
   rintro ⟨y,x⟩ rest b s' ⟨fu,rfl,vs,ws,hz,ha,hlen⟩
   cases ha with
   |nn=>cases hz
   |nc _ _=>cases hz
   |cn _ _=>cases hz
   |eq he hr =>
    rw[aau] at hz
    injection hz with pf IA
    injection pf with hy hx
    subst hy hx;simp only[Zz] at hlen;refine YX (he prog w _ _ ?_)
    wp_walk
    exact⟨rfl,rfl,_,_,IA,hr,by omega⟩
   |lt he hr =>
    rw[aau] at hz
    injection hz with pf IA
    injection pf with hy hx
    subst hy hx;refine YX (he prog w _ _ ?_);have WH:=hr prog w
    wp_walk using WH
    exact⟨_,rfl,by simpa using h⟩
  case fin =>
   rintro ⟨b1,b2⟩ s' ⟨fu,rfl,vs,ws,hz,ha,hlen⟩;simp only at fu;subst fu;have hv:l9=decide (items.size<my.size):=by
    cases ha with
    |nn=>simp only[ZY] at hlen;exact(decide_eq_false (by omega)).symm
    |nc _ _=>simp only[ZY,Zz] at hlen;exact(decide_eq_true (by omega)).symm
    |cn _ _=>simp only[ZY,Zz] at hlen;exact(decide_eq_false (by omega)).symm
    |eq _ _=>rw[aau] at hz;cases hz
    |lt _ _=>rw[aau] at hz;cases hz
   rw[hv] at h
   wp_walk
   exact⟨_,rfl,by simpa [Builtin.Tuple.tupleCompareSizes] using h⟩
  case h =>
   exact⟨rfl,rfl,items.toList,my.toList,rfl,hA,by simp only[ZH];omega⟩
end
end HT
namespace HT
open PySem PyProof.Rows PySem.SeqAt PySem.MeetsSeq
section
variable {prog:ZE} {w:World} {A:ZX} {E:Value->Y4->Prop} {s:Y4}
theorem Gw (hl:IsTup s.heap l items) (hb:IsTup s.heap b my) (hA:∀A':ZX,A'.units<=A.units+4->iK A' s items.toList my.toList l9)
 (hu:A.units<cLine) (h:Q (.bool l9) s):wpAny (model prog w) A (richCompare .Lt (.ref l) (.ref b)) Q E s:=by
 obtain⟨⟨cls,dd,data,sl⟩,ho,hc,n,hd⟩:=id hl;obtain⟨⟨Jd,mZ,data2,dF⟩,jt,m7,n2,hd2⟩:=id hb;simp only at hc hd m7 hd2;subst hc hd m7 hd2;refine richCompare_meets_room (op:=.Lt) ⟨_,ho,rfl⟩ ⟨_,jt,rfl⟩ PySem.F.slot_tuple_lt PySem.F.entry_tuple_lt (PySem.F.args_tuple_lt_2 _ _) (MA l b items my n n2 dd mZ sl dF l9)
  ⟨ho,jt,hA _ ?_,show Value.bool l9≠Value.notImplemented/\Q (.bool l9) s from ⟨(λx=>nomatch x),h⟩⟩ hu
 show A.units+1<=A.units+4;omega
end
end HT
namespace DI
open PySem L2 HT
mutual
noncomputable def iE:D->D->Option Bool
 | .int i,.int j=>some (decide (i<j))
 | .str x,.str y=>some (decide (x.cps.toList<y.cps.toList))
 | .tup xs,.tup ys=>iT xs ys
 |_,_=>none
noncomputable def iT:List D->List D->Option Bool
 | [],[]=>some false
 | [],_::_=>some true
 |_::_,[]=>some false
 |x::xs,y::ys=>if beq x y=true then iT xs ys else iE x y
end
section
variable {X:Cx} {Ξ:Wd->bH->Prop} {pins:List (Addr×Obj)} {σ:St} {s:Y4} {w:Wd}
theorem Uw (I:Inv X pins σ w.H s) (A:ZX) (lx:lay x=true) (ly:lay y=true) (hu:A.units+dep x<cLine) (hx:DV X.K w x v) (hy:DV X.K w y u) (rx:RelV v vx) (ry:RelV u vy):SeqAt.EqAt A s vx vy (beq x y):=by
 obtain⟨as,r1⟩:=(hx.py (nO _ lx)).reads I rx;obtain⟨bs,r2⟩:=(hy.py (nO _ ly)).reads I ry;obtain⟨p1,p2⟩:=jF _ lx;obtain⟨q1,q2⟩:=jF _ ly;have:=SeqAt.eqAt_reads _ _ A s vx vy as bs r1 r2 p1 q1 (by rw[p2];omega);rw[qb _ _ lx ly] at this;exact this
mutual
theorem IC (I:Inv X pins σ w.H s):∀(A:ZX) (x y:D) (b:Bool) (v u:V) (vx vy:Value),iE x y=some b->lay x=true->lay y=true->A.units+5*dep x+5<cLine->DV X.K w x v->DV X.K w y u->RelV v vx->RelV u vy->Bi A s vx vy b
 |A,.int i,.int j,b,v,u,vx,vy,h,_,_,_,hx,hy,rx,ry=>by
  cases h;cases hx;cases hy;obtain⟨t,rfl⟩:=rx;obtain⟨t',rfl⟩:=ry;intro prog w E Q q;exact Fj A s i t j t' prog w E Q q
 |A,.str i,.str j,b,v,u,vx,vy,h,_,_,hu,hx,hy,rx,ry=>by
  cases h;cases hx;cases hy;obtain⟨t,rfl⟩:=rx;obtain⟨t',rfl⟩:=ry;intro prog w E Q q;exact(PyProof.Rows.lt_str q:wpAny (model prog w) A (aag .Lt (.str i t) (.str j t')) Q E s)
 |A,.tup xs,.tup ys,b,v,u,vx,vy,h,lx,ly,hu,hx,hy,rx,ry=>by
  simp only[iE] at h;simp only[DV] at hx hy;obtain⟨a,as,rfl,ha,gP⟩:=hx;obtain⟨c,cs,rfl,hc,WI⟩:=hy;cases rx;cases ry;obtain⟨its,r1,p1,_⟩:=I.tuple ha;obtain⟨oB,r2,p2,_⟩:=I.tuple hc;intro prog w' E Q q;simp only[dep] at hu;exact Gw p1 p2 (λA' YM=>by
   have:=Hz I A' xs ys b as cs its oB h (by simpa [lay] using lx) (by simpa [lay] using ly) (by omega) gP WI r1 r2;simpa using this) (by omega) q
 |_,.aA,_,_,_,_,_,_,h,_,_,_,_,_,_,_=>by cases h
 |_,.bl _,_,_,_,_,_,_,h,_,_,_,_,_,_,_=>by cases h
 |_,.lst _,_,_,_,_,_,_,h,_,_,_,_,_,_,_=>by cases h
 |_,.aW _,_,_,_,_,_,_,h,_,_,_,_,_,_,_=>by cases h
 |_,.aj _,_,_,_,_,_,_,h,_,_,_,_,_,_,_=>by cases h
 |_,.ty _,_,_,_,_,_,_,h,_,_,_,_,_,_,_=>by cases h
 |_,.bG _,_,_,_,_,_,_,h,_,_,_,_,_,_,_=>by cases h
 |_,.int _,.aA,_,_,_,_,_,h,_,_,_,_,_,_,_=>by cases h
 |_,.int _,.bl _,_,_,_,_,_,h,_,_,_,_,_,_,_=>by cases h
 |_,.int _,.str _,_,_,_,_,_,h,_,_,_,_,_,_,_=>by cases h
 |_,.int _,.tup _,_,_,_,_,_,h,_,_,_,_,_,_,_=>by cases h
 |_,.int _,.lst _,_,_,_,_,_,h,_,_,_,_,_,_,_=>by cases h
 |_,.int _,.aW _,_,_,_,_,_,h,_,_,_,_,_,_,_=>by cases h
 |_,.int _,.aj _,_,_,_,_,_,h,_,_,_,_,_,_,_=>by cases h
 |_,.int _,.ty _,_,_,_,_,_,h,_,_,_,_,_,_,_=>by cases h
 |_,.int _,.bG _,_,_,_,_,_,h,_,_,_,_,_,_,_=>by cases h
 |_,.str _,.aA,_,_,_,_,_,h,_,_,_,_,_,_,_=>by cases h
 |_,.str _,.bl _,_,_,_,_,_,h,_,_,_,_,_,_,_=>by cases h
 |_,.str _,.int _,_,_,_,_,_,h,_,_,_,_,_,_,_=>by cases h
 |_,.str _,.tup _,_,_,_,_,_,h,_,_,_,_,_,_,_=>by cases h
 |_,.str _,.lst _,_,_,_,_,_,h,_,_,_,_,_,_,_=>by cases h
 |_,.str _,.aW _,_,_,_,_,_,h,_,_,_,_,_,_,_=>by cases h
 |_,.str _,.aj _,_,_,_,_,_,h,_,_,_,_,_,_,_=>by cases h
 |_,.str _,.ty _,_,_,_,_,_,h,_,_,_,_,_,_,_=>by cases h
 |_,.str _,.bG _,_,_,_,_,_,h,_,_,_,_,_,_,_=>by cases h
 |_,.tup _,.aA,_,_,_,_,_,h,_,_,_,_,_,_,_=>by cases h
 |_,.tup _,.bl _,_,_,_,_,_,h,_,_,_,_,_,_,_=>by cases h
 |_,.tup _,.int _,_,_,_,_,_,h,_,_,_,_,_,_,_=>by cases h
 |_,.tup _,.str _,_,_,_,_,_,h,_,_,_,_,_,_,_=>by cases h
 |_,.tup _,.lst _,_,_,_,_,_,h,_,_,_,_,_,_,_=>by cases h
 |_,.tup _,.aW _,_,_,_,_,_,h,_,_,_,_,_,_,_=>by cases h
 |_,.tup _,.aj _,_,_,_,_,_,h,_,_,_,_,_,_,_=>by cases h
 |_,.tup _,.ty _,_,_,_,_,_,h,_,_,_,_,_,_,_=>by cases h
 |_,.tup _,.bG _,_,_,_,_,_,h,_,_,_,_,_,_,_=>by cases h
theorem Hz (I:Inv X pins σ w.H s):∀(A:ZX) (xs ys:List D) (b:Bool) (vs us:List V) (ps qs:List Value),iT xs ys=some b->cO xs=true->cO ys=true->A.units+5*cB xs+5<cLine->aw X.K w xs vs->aw X.K w ys us->Vals vs ps->Vals us qs->iK A s ps qs b
 |A,[],[],b,vs,us,ps,qs,h,_,_,_,hx,hy,rx,ry=>by
  cases h;cases hx;cases hy;cases rx;cases ry;exact .nn
 |A,[],y::ys,b,vs,us,ps,qs,h,_,_,_,hx,hy,rx,ry=>by
  cases h;cases hx;cases rx;obtain⟨u,r,rfl,_,_⟩:=hy;cases ry;exact .nc _ _
 |A,x::xs,[],b,vs,us,ps,qs,h,_,_,_,hx,hy,rx,ry=>by
  cases h;cases hy;cases ry;obtain⟨u,r,rfl,_,_⟩:=hx;cases rx;exact .cn _ _
 |A,x::xs,y::ys,b,vs,us,ps,qs,h,lx,ly,hu,hx,hy,rx,ry=>by
  obtain⟨v,r,rfl,dx,dr⟩:=hx;obtain⟨u,r',rfl,dy,WJ⟩:=hy;simp only[cO,Y3] at lx ly;simp only[cB] at hu;have m1:=Nat.le_max_left (dep x) (cB xs);have m2:=ac8 (dep x) (cB xs)
  cases rx with
  |cons rx WK =>
   cases ry with
   |cons ry WL =>
    have he:=Uw I A lx.1 ly.1 (by omega) dx dy rx ry;simp only[iT] at h;split at h
    ·rename_i hb
     rw[hb] at he;exact .eq he (Hz I A xs ys b _ _ _ _ h lx.2 ly.2 (by omega) dr WJ WK WL)
    ·rename_i hb
     rw[ach] at hb;rw[hb] at he;exact .lt he (IC I A x y b _ _ _ _ h lx.1 ly.1 (by omega) dx dy rx ry)
end
noncomputable def jW (x y:D) (s:ag):Res D:=if (lay x&&lay y&&decide (dep x<=30))=true then bF ((iE x y).map D.bl) s else none
theorem sA (hr:cM k X.A):bj X (aag .Lt) (rO X.K Ξ jW):=by
 rintro pins s σ H x y v u Q I rx ry ⟨w,dx,dy,rfl,S,hx,hy,h⟩;unfold jW at h;split at h
 ·rename_i hl
  simp only[Y3,decide_eq_true_eq] at hl;obtain⟨d,e,h⟩:=ff h
  cases hb:iE dx dy with
  |none=>rw[hb] at e;cases e
  |some b =>
   rw[hb] at e;cases e;exact IC I X.A dx dy b x y v u hb hl.1.1 hl.1.2 (by have:=hr.un;have:=hl.2;have:cLine=9900:=rfl;omega) hx hy rx ry _ _ _ _ ⟨.bl b,w.H,I,rfl,aK S h _ rfl⟩
 ·exact h.elim
end
end DI
namespace DI
open PySem L2
section
variable {X:Cx} {Ξ:Wd->bH->Prop} {e:Expr} {p pos YN YO Vh Yz:Pos} {f:Env->ag->Res D}
end
end DI
namespace DI
open PySem L2
noncomputable def qT:List D->ag->Res D:=bc 2 2 (az (bR (aE (e2 jW (aa 1) (eB dj (ae (aa 0) ai)))) (aO (e2 aq (aa 0) (aa 1))) bT) (aO (eC (.int 0))))
noncomputable def vh:List D->ag->Res D:=bc 2 3 (az (aP (aC qT (ae (aa 0) (ae (aa 1) ai))) (gN 2)) (aO (eNew (ae (eB kC (ae (eC (.int 0)) (ae (e2 ql (aa 2) (e2 qm (eC (.int 10)) (eC (.int 18)))) ai))) (ae (e2 jh (aa 2) (eC (.int 2147483647))) ai)))))
noncomputable def bX:List D->ag->Res D:=bc 2 4 (az (bR (aE (e2 wU (e2 aq (aa 0) (eC (.int 0))) (eC (.int 0)))) (az (aP (e2 jh (e2 aq (aa 0) (eC (.int 0))) (aa 1)) (gN 2)) (az (fS (e2 rZ (e2 aq (aa 0) (eC (.int 0))) (aa 1)) (aa 0) (eC (.int 0))) (aO (aa 2)))) bT) (az (fS (e2 jh (e2 bY (e2 iN (e2 aq (aa 0) (eC (.int 1))) (eC (.int 48271))) (eC (.int 29))) (eC (.int 2147483647))) (aa 0) (eC (.int 1))) (az (aP (e2 jh (e2 bY (e2 bY (e2 iN (e2 aq (aa 0) (eC (.int 1))) (e2 aq (aa 0) (eC (.int 1)))) (e2 iN (eC (.int 39373)) (e2 aq (aa 0) (eC (.int 1))))) (eC (.int 7))) (eC (.int 2147483629))) (gN 3)) (az (aP (e2 jh (e2 bY (e2 iN (aa 3) (aa 3)) (e2 iN (eC (.int 16807)) (aa 3))) (eC (.int 2147483587))) (gN 3)) (aO (e2 jh (e2 rZ (aa 3) (eC (.int 8))) (aa 1)))))))
noncomputable def vC:Nat->List D->ag->Res D
 |0=>λ_ _=>none
 |n+1=>bc 2 2 (az (bR (dD (e1 Jl (aa 1))) (az (bR (gu (aE (e2 ei (eB cx (ae (aa 0) (ae (eC (.ty "tuple")) ai))) (eB cx (ae (aa 1) (ae (eC (.ty "tuple")) ai))))) (aE (e2 ei (eB cx (ae (aa 0) (ae (eC (.ty "list")) ai))) (eB cx (ae (aa 1) (ae (eC (.ty "list")) ai)))))) (aO (eC (.bl false))) bT) (aO (cT (e2 aT (eB dj (ae (aa 0) ai)) (eB dj (ae (aa 1) ai))) (eB jR (ae (ba 2 [] (oE (ae (aa 0) (ae (aa 1) ai))) (gT [gN 0,gN 1]) cC (aC (vC n) (ae (aa 0) (ae (aa 1) ai)))) ai))))) bT) (aO (cT (e2 aT (eB cx (ae (aa 0) (ae (eC (.ty "bool")) ai))) (eB cx (ae (aa 1) (ae (eC (.ty "bool")) ai)))) (e2 aT (aa 0) (aa 1)))))
noncomputable def nM:List D->ag->Res D:=bc 1 1 (aO (eB jR (ae (ba 2 [] (oE (ae (aa 0) (ae (kb (aa 0) (jS (eC (.int 1))) ka) ai))) (gT [gN 0,gN 1]) cC (e2 jW (aa 0) (aa 1))) ai)))
noncomputable def ye:List D->ag->Res D:=bc 1 1 (aO (cT (eB cx (ae (aa 0) (ae (eC (.ty "int")) ai))) (cT (lS (eB cx (ae (aa 0) (ae (eC (.ty "bool")) ai)))) (e2 wV (aa 0) (eC (.int 0))))))
noncomputable def pL:List D->ag->Res D:=bc 2 2 (aO (cT (aC ye (ae (aa 0) ai)) (e2 jW (aa 0) (aa 1))))
noncomputable def qY:List D->ag->Res D:=bc 1 1 (aO (aC pL (ae (aa 0) (ae (eC (.int (8))) ai))))
noncomputable def nN:List D->ag->Res D:=bc 1 1 (aO (cT (eB cx (ae (aa 0) (ae (eC (.ty "tuple")) ai))) (cT (eB jR (ae (ba 1 [] (bh (aa 0)) (gN 0) cC (aC qY (ae (aa 0) ai))) ai)) (aC nM (ae (aa 0) ai)))))
end DI
namespace ST
open PySem PySem.W PyProof.Rows
structure Ord (α:Type) where
 lt:α->α->Bool
 Cn:∀a,lt a a=false
 tr:∀a b c,lt a b=true->lt b c=true->lt a c=true
 tZ:∀a b,lt a b=false->lt b a=false->a=b
section
variable {α:Type} (O:Ord α)
def Ord.le (a b:α):Prop:=O.lt b a=false
variable {O}
theorem Ord.le_refl (a:α):O.le a a:=O.Cn a
theorem Ord.le_of_lt (h:O.lt a b=true):O.le a b:=by
 unfold Ord.le
 cases hb:O.lt b a with
 |false=>rfl
 |true=>have:=O.tr _ _ _ h hb;rw[O.Cn] at this;cases this
theorem Ord.qp (h:O.le a b) (g:O.le b c):O.le a c:=by
 unfold Ord.le at *
 cases hc:O.lt c a with
 |false=>rfl
 |true =>
  cases hb:O.lt a b with
  |true=>have:=O.tr _ _ _ hc hb;rw[g] at this;cases this
  |false =>
   have e:=O.tZ a b hb h;subst e;rw[g] at hc;cases hc
theorem Ord.ID (h:O.le a b) (g:O.le b a):a=b:=O.tZ _ _ g h
end
noncomputable def ok {β:Type} (c:Nat->Nat->Bool) (n:Nat):KasT β->(β->Prop)->Prop
 | .ret a,Q=>Q a
 | .ask i j k,Q=>i<n/\j<n/\ok c n (k (c i j)) Q
theorem jD {β:Type} {c:Nat->Nat->Bool} {n:Nat} {Q R:β->Prop}:∀{t:KasT β},ok c n t Q->(∀a,Q a->R a)->ok c n t R
 | .ret a,h,i=>i a h
 | .ask _ _ k,h,i=>⟨h.1,h.2.1,jD (t:=k _) h.2.2 i⟩
theorem pU {β γ:Type} {c:Nat->Nat->Bool} {n:Nat} {f:β->KasT γ} {Q:γ->Prop}:∀{t:KasT β},ok c n t (λa=>ok c n (f a) Q)->ok c n (t.bind f) Q
 | .ret _,h=>h
 | .ask _ _ k,h=>⟨h.1,h.2.1,pU (t:=k _) h.2.2⟩
theorem IE {β:Type} {c:Nat->Nat->Bool} {n:Nat} {cmp:Nat->Nat->(Bool->Y4->Prop)->Y4->Prop} (hc:∀i j C,i<n->j<n->C (c i j) s->cmp i j C s) {Q:β->Y4->Prop}:∀{t:KasT β},ok c n t (λa=>Q a s)->t.kasWp cmp Q s
 | .ret _,h=>h
 | .ask _ _ k,h=>hc _ _ _ h.1 h.2.1 (IE hc (t:=k _) h.2.2)
section
variable {α:Type} {O:Ord α} {x:Nat->α} {n:Nat}
noncomputable def ky (x:Nat->α) (p:Array Nat) (i:Nat):α:=x (p.getD i 0)
def Pm (n:Nat) (p:Array Nat):Prop:=p.size=n/\p.toList.Perm (Zk n)
def Up (O:Ord α) (f:Nat->α) (k:Nat):Prop:=∀i j,i<j->j<k->O.le (f i) (f j)
def Dn (O:Ord α) (f:Nat->α) (k:Nat):Prop:=∀i j,i<j->j<k->O.le (f j) (f i)
theorem Up.more (h:Up O f k) (hk:1<=k) (h1:O.le (f (k-1)) (f k)):Up O f (k+1):=λi j eT hj=>by
 by_cases e:j=k
 ·subst e
  by_cases e':i=j-1
  ·subst e';exact h1
  ·exact Ord.qp (h i (j-1) (by omega) (by omega)) h1
 ·exact h i j eT (by omega)
theorem Dn.more (h:Dn O f k) (hk:1<=k) (h1:O.le (f k) (f (k-1))):Dn O f (k+1):=λi j eT hj=>by
 by_cases e:j=k
 ·subst e
  by_cases e':i=j-1
  ·subst e';exact h1
  ·exact Ord.qp h1 (h i (j-1) (by omega) (by omega))
 ·exact h i j eT (by omega)
theorem Pm.lt (h:Pm n p) (hi:i<n):p.getD i 0<n:=by
 have hs:i<p.size:=by rw[h.1];exact hi
 have:p[i]∈p.toList:=by simp
 have e:p.getD i 0=p[i]:=by simp[acO,hs]
 rw[e];exact ZO.mp (h.2.mem_iff.mp this)
theorem Pm.rev (h:Pm n p) (i j:Nat):Pm n (kas_rev p i j):=⟨by rw[kas_rev_size];exact h.1,(Array.perm_iff_toList_perm.mp (mirror_perm p i j _)).trans h.2⟩
theorem Pm.WM (h:Pm n p) (i j:Nat):Pm n (bubble p i j):=⟨by rw[bubble_size];exact h.1,(Array.perm_iff_toList_perm.mp (bubble_perm p i j)).trans h.2⟩
theorem rq {p q:Array Nat} {i j:Nat} (h:p[i]?=q[j]?):p.getD i 0=q.getD j 0:=by
 rw[Array.getD_eq_getD_getElem?,Array.getD_eq_getD_getElem?,h]
theorem zL {p:Array Nat} {i j:Nat} (hj:j<=p.size) (k:Nat):ky x (kas_rev p i j) k=if i<=k/\k<j then ky x p (i+j-1-k) else ky x p k:=by
 have e:=getElem?_mirror_all (i:=i) hj k;unfold ky kas_rev
 split<;>rename_i h
 ·rw[if_pos h] at e;rw[rq e]
 ·rw[if_neg h] at e;rw[rq e]
theorem HA {p:Array Nat} {k d:Nat} (hk:k<p.size) (hd:d<=k) (i:Nat):ky x (bubble p k d) i=if i=k-d then ky x p k else if k-d<i/\i<=k then ky x p (i-1) else ky x p i:=by
 have e:=getElem?_bubble hk d hd i;by_cases h:i=k-d
 ·rw[if_pos h] at e |-;exact congrArg x (rq e)
 ·rw[if_neg h] at e |-
  by_cases h2:k-d<i/\i<=k
  ·rw[if_pos h2] at e |-;exact congrArg x (rq e)
  ·rw[if_neg h2] at e |-;exact congrArg x (rq e)
theorem Gx (hj:j<=p.size) (he:∀k,i<=k->k<j->ky x p k=ky x p (j-1)):ky x (kas_rev p i j)=ky x p:=funext λk=>by
 rw[zL hj];split
 ·rw[he _ (by omega) (by omega),he k (by omega) (by omega)]
 ·rfl
noncomputable abbrev asks (O:Ord α) (x:Nat->α) (i j:Nat):Bool:=O.lt (x i) (x j)
theorem zM {p:Array Nat} (hp:Pm n p):∀(f m:Nat),1<=m->m+f<=n->Up O (ky x p) m->ok (asks O x) n (kas_asc p f m) λr=>m<=r/\r<=m+f/\Up O (ky x p) r/\(r<m+f->O.lt (ky x p r) (ky x p (r-1))=true)
 |0,m,h1,h2,hu=>⟨Nat.le_refl _,Nat.le_refl _,hu,λz=>absurd z (ZF _)⟩
 |f+1,m,h1,h2,hu=>by
  refine⟨hp.lt (by omega),hp.lt (by omega),?_⟩
  show ok _ _ (if O.lt (ky x p m) (ky x p (m-1))=true then _ else _) _
  cases hc:O.lt (ky x p m) (ky x p (m-1)) with
  |true =>
   rw[if_pos rfl];exact⟨Nat.le_refl _,by omega,hu,λ_=>hc⟩
  |false =>
   rw[if_neg Y7];refine jD (zM hp f (m+1) (by omega) (by omega) (hu.more h1 hc)) λr hr=>⟨by omega,by omega,hr.2.2.1,λz=>hr.2.2.2 (by omega)⟩
structure DS (O:Ord α) (x:Nat->α) (n:Nat) (p:Array Nat) (m q:Nat):Prop where
 pm:Pm n p
 q1:q+1<=m
 mn:m<=n
 dn:Dn O (ky x p) m
 bl:∀k,m-(q+1)<=k->k<m->ky x p k=ky x p (m-1)
theorem DS.turn (D:DS O x n p m q):Pm n (kas_rev p (m-(q+1)) m)/\ky x (kas_rev p (m-(q+1)) m)=ky x p :=
 ⟨D.pm.rev _ _,Gx (by rw[D.pm.1];exact D.mn) D.bl⟩
theorem vD:∀(f:Nat) (p:Array Nat) (m q:Nat),m+f<=n->DS O x n p m q->ok (asks O x) n (kas_desc f p m q) λr=>m<=r.2.1/\DS O x n r.1 r.2.1 r.2.2
 |0,p,m,q,_,D=>⟨Nat.le_refl _,D⟩
 |f+1,p,m,q,hm,D=>by
  have q1:=D.q1;refine⟨D.pm.lt (by omega),D.pm.lt (by omega),?_⟩
  show ok _ _ (if O.lt (ky x p m) (ky x p (m-1))=true then _ else _) _
  cases hc:O.lt (ky x p m) (ky x p (m-1)) with
  |true =>
   rw[if_pos rfl];have one:∀p',Pm n p'->ky x p'=ky x p->DS O x n p' (m+1) 0:=λp' h1 h2=>⟨h1,by omega,by omega,by rw[h2];exact D.dn.more (by omega) (Ord.le_of_lt hc),λk k1 k2=>by rw[show k=m+1-1 by omega]⟩;by_cases hq:q > 0
   ·rw[if_pos hq]
    exact jD (vD f _ (m+1) 0 (by omega) (one _ D.turn.1 D.turn.2)) λr hr=>⟨by omega,hr.2⟩
   ·rw[if_neg hq]
    exact jD (vD f _ (m+1) 0 (by omega) (one _ D.pm rfl)) λr hr=>⟨by omega,hr.2⟩
  |false =>
   rw[if_neg Y7];refine⟨D.pm.lt (by omega),D.pm.lt (by omega),?_⟩
   show ok _ _ (if O.lt (ky x p (m-1)) (ky x p m)=true then _ else _) _
   cases hd:O.lt (ky x p (m-1)) (ky x p m) with
   |true =>
    rw[if_pos rfl];exact⟨Nat.le_refl _,D⟩
   |false =>
    rw[if_neg Y7];have e:ky x p m=ky x p (m-1):=O.tZ _ _ hc hd;refine jD (vD f p (m+1) (q+1) (by omega) ⟨D.pm,by omega,by omega,D.dn.more (by omega) (by rw[e];exact Ord.le_refl _),λk k1 k2=>?_⟩) λr hr=>⟨by omega,hr.2⟩;show _=ky x p m;by_cases hk:k=m
    ·rw[hk]
    ·rw[D.bl k (by omega) (by omega),e]
theorem Gy {p:Array Nat} {m:Nat} (hp:Pm n p) (h1:1<=m) (hm:m<=n) (hd:Dn O (ky x p) m):ok (asks O x) n (kas_tail3 m n p) λr=>1<=r.1/\r.1<=n/\Pm n r.2/\Up O (ky x r.2) r.1:=by
 refine pU ?_;have hu:Up O (ky x (kas_rev p 0 m)) m:=λi j eT hj=>by
  rw[zL (by rw[hp.1];exact hm),zL (by rw[hp.1];exact hm),if_pos ⟨by omega,by omega⟩,if_pos ⟨by omega,hj⟩];exact hd _ _ (by omega) (by omega)
 exact jD (zM (hp.rev 0 m) (n-m) m h1 (by omega) hu) λr hr=>⟨by show 1<=r;omega,by show r<=n;omega,hp.rev 0 m,hr.2.2.1⟩
theorem D9 {p:Array Nat} {m:Nat} (hp:Pm n p) (h1:1<=m) (hm:m+1<=n) (hd:Dn O (ky x p) (m+1)):ok (asks O x) n (kas_descPart m n p) λr=>1<=r.1/\r.1<=n/\Pm n r.2/\Up O (ky x r.2) r.1:=by
 refine pU (jD (vD (n-(m+1)) p (m+1) 0 (by omega) ⟨hp,by omega,hm,hd,λk k1 k2=>by rw[show k=m+1-1 by omega]⟩) λr hr=>?_);obtain⟨h2,D⟩:=hr;split
 ·exact Gy D.turn.1 (by have:=D.q1;omega) D.mn (by rw[D.turn.2];exact D.dn)
 ·exact Gy D.pm (by have:=D.q1;omega) D.mn D.dn
theorem OX {p:Array Nat} (hp:Pm n p) (hn:1<=n):ok (asks O x) n (kas_count n p) λr=>1<=r.1/\r.1<=n/\Pm n r.2/\Up O (ky x r.2) r.1:=by
 refine pU (jD (zM hp (n-1) 1 (Nat.le_refl _) (by omega) λi j eT hj=>by omega) λm hm=>?_);obtain⟨h1,h2,h3,h4⟩:=hm;split
 ·rename_i e
  rw[beq_iff_eq] at e;exact⟨h1,by omega,hp,h3⟩
 ·rename_i e
  have dN:m≠n:=λz=>e (by rw[z];exact beq_self_eq_true n);have hs:=h4 (by omega);split
  ·refine⟨hp.lt (by omega),hp.lt (by omega),?_⟩
   show ok _ _ (if O.lt (ky x p 0) (ky x p (m-1))=true then _ else _) _
   cases hc:O.lt (ky x p 0) (ky x p (m-1)) with
   |true =>
    rw[if_pos rfl];exact⟨h1,by omega,hp,h3⟩
   |false =>
    rw[if_neg Y7];have cw:∀k,0<=k->k<m->ky x p k=ky x p (m-1):=λk _ hk=>by
     have a1:O.le (ky x p k) (ky x p (m-1)):=by
      by_cases e:k=m-1
      ·rw[e];exact Ord.le_refl _
      ·exact h3 k (m-1) (by omega) (by omega)
     have a2:O.le (ky x p (m-1)) (ky x p k):=by
      by_cases e:k=0
      ·rw[e];exact hc
      ·exact Ord.qp hc (h3 0 k (by omega) hk)
     exact Ord.ID a1 a2
    have hk:=Gx (x:=x) (p:=p) (i:=0) (j:=m) (by rw[hp.1];omega) cw;refine D9 (hp.rev 0 m) h1 (by omega) ?_;rw[hk];refine Dn.more (λi j eT hj=>?_) h1 (Ord.le_of_lt hs);rw[cw i (by omega) (by omega),cw j (by omega) hj];exact Ord.le_refl _
  ·refine D9 hp h1 (by omega) (Dn.more (λi j eT hj=>by omega) h1 (Ord.le_of_lt hs))
theorem yF (hp:Pm n p) (hk:k<n) (hu:Up O (ky x p) k):∀(f l r:Nat),r-l<=f->l<=r->r<=k->(∀i,i<l->O.le (ky x p i) (ky x p k))->(∀i,r<=i->i<k->O.le (ky x p k) (ky x p i)) ->
  ok (asks O x) n (kas_place p k f l r) λm=>m<=k/\(∀i,i<m->O.le (ky x p i) (ky x p k))/\(∀i,m<=i->i<k->O.le (ky x p k) (ky x p i))
 |0,l,r,hf,hl,hr,a,b=>⟨by omega,a,λi hi=>b i (by omega)⟩
 |f+1,l,r,hf,hl,hr,a,b=>by
  unfold kas_place;by_cases h:l ≥ r
  ·rw[if_pos h]
   exact⟨by omega,a,λi hi=>b i (by omega)⟩
  ·rw[if_neg h]
   refine⟨hp.lt hk,hp.lt (by omega),?_⟩
   show ok _ _ (if O.lt (ky x p k) (ky x p ((l+r) / 2))=true then _ else _) _
   cases hc:O.lt (ky x p k) (ky x p ((l+r) / 2)) with
   |true =>
    rw[if_pos rfl];refine yF hp hk hu f l ((l+r) / 2) (by omega) (by omega) (by omega) a λi hi oW=>?_;by_cases e:i=(l+r) / 2
    ·rw[e];exact Ord.le_of_lt hc
    ·exact Ord.qp (Ord.le_of_lt hc) (hu _ _ (by omega) oW)
   |false =>
    rw[if_neg Y7];refine yF hp hk hu f ((l+r) / 2+1) r (by omega) (by omega) hr (λi hi=>?_) b;by_cases e:i=(l+r) / 2
    ·rw[e];exact hc
    ·exact Ord.qp (hu _ _ (by omega) (by omega)) hc
theorem HB:∀(f:Nat) (p:Array Nat) (k:Nat),Pm n p->k+f=n->Up O (ky x p) k->ok (asks O x) n (kas_bin f p k) λq=>Pm n q/\Up O (ky x q) n
 |0,p,k,hp,hk,hu=>⟨hp,by rw[<- hk];exact hu⟩
 |f+1,p,k,hp,hk,hu=>by
  refine pU (jD (yF hp (by omega) hu k 0 k (by omega) (aad _) (Nat.le_refl _) (λi hi=>by omega) λi h1 h2=>by omega) λm hm=>?_);obtain⟨h1,h2,h3⟩:=hm;refine HB f _ (k+1) (hp.WM _ _) (by omega) λi j eT hj=>?_;have hz:k<p.size:=by rw[hp.1];omega
  have ek:k-(k-m)=m:=by omega
  rw[HA hz (by omega),HA hz (by omega),ek];by_cases i1:i=m
  ·rw[if_pos i1,if_neg (by omega),if_pos (by omega)]
   exact h3 _ (by omega) (by omega)
  ·rw[if_neg i1]
   by_cases i2:m<i/\i<=k
   ·rw[if_pos i2,if_neg (by omega),if_pos (by omega)]
    exact hu _ _ (by omega) (by omega)
   ·rw[if_neg i2]
    by_cases j1:j=m
    ·rw[if_pos j1];exact h2 _ (by omega)
    ·rw[if_neg j1]
     by_cases j2:m<j/\j<=k
     ·rw[if_pos j2]
      by_cases e:i=j-1
      ·rw[e];exact Ord.le_refl _
      ·exact hu _ _ (by omega) (by omega)
     ·rw[if_neg j2];exact hu _ _ eT (by omega)
theorem QH (hn:1<=n):ok (asks O x) n (kas_sort n) λq=>Pm n q/\Up O (ky x q) n:=by
 refine pU (jD (OX (p:=ac2 (Zk n)) ⟨by simp,by simp⟩ hn) λr hr=>?_);obtain⟨h1,h2,h3,h4⟩:=hr;split
 ·rw[Nat.max_eq_left h1]
  exact HB _ _ _ h3 (by omega) h4
 ·rw[show r.1=n by omega] at h4
  exact⟨h3,h4⟩
end
end ST
namespace ST
open PySem PySem.W PyProof.Rows
section
variable {α:Type} {O:Ord α} {x:Nat->α} {prog:ZE} {w:World} {A:ZX} {E:Value->Y4->Prop} {s:Y4}
def wZ (prog:ZE) (w:World) (A:ZX) (O:Ord α) (x:Nat->α) (us:List Value) (t:Y4):Prop :=
 wpAny (model prog w) A (keyKind' us.toArray) (fun κ t'=>t'=t/\∀i j (C:Bool->Y4->Prop),i<us.length->j<us.length->C (O.lt (x i) (x j)) t->wpAny (model prog w) A (keyLt' κ (us.getD i Value.none) (us.getD j Value.none)) C (λ_ _=>False) t) (λ_ _=>False) t
theorem kL (us:List Value) (h:us.length<2):(us.toArray.zip us.toArray).map (·.2)=((ac2 (Zk us.length)).toList.map λi=>us.getD i Value.none).toArray:=by
 rcases us with _ | ⟨u,_ | ⟨v,r⟩⟩
 ·exact Array.toList_inj.mp (by simp)
 ·exact Array.toList_inj.mp (by simp)
 ·(simp at h;omega)
theorem Lg (hb:s.heap.get? b=some (adt "list" us.toArray m)) (hz:us.length<64)
 (hk:2<=us.length->∀h1,(∀c o,c≠b->s.heap.get? c=some o->h1.get? c=some o)->wZ prog w A O x us { s with heap:=h1 })
 (hR:∀(q:Array Nat) h' e,Pm us.length q->Up O (ky x q) us.length->(∀c o,c≠b->s.heap.get? c=some o->h'.get? c=some o)->h'.get? b=some (adt "list" (q.toList.map λi=>us.getD i Value.none).toArray e)->R (.done (.ret .none)) { s with heap:=h' }) :
  wpAny (model prog w) A (aaY.«list.sort» ⟨[.ref b],[]⟩) R E s:=by
 have bC:b<s.heap.objs.size:=Y9 hb;have line:us.length<=Zf:=by rw[abB];omega
 obtain⟨e1,BC⟩:∃e1,(s.heap.update b (aa6 λ_=>(#[]:Array Value))).get? b=some (adt "list" #[] e1):=⟨_,get?_update_seq hb λ_=>#[]⟩;generalize hg:((s.heap.update b (aa6 λ_=>(#[]:Array Value))).push (adt "tuple" us.toArray 0)).push (adt "list" #[] 0)=h2;have ph:h2.get? b=some (adt "list" #[] e1):=by rw[<- hg];exact YY _ (YY _ BC)
 have old:∀c o,c≠b->s.heap.get? c=some o->h2.get? c=some o:=λc o hc e=>by
  rw[<- hg];exact YY _ (YY _ (by rw[adq _ _ _ _ hc];exact e))
 have last:∀(q:Array Nat),Pm us.length q->Up O (ky x q) us.length->R (.done (.ret .none)) { s with heap:=h2.update b (aa6 λ_=>(q.toList.map λi=>us.getD i Value.none).toArray) }:=λq h1 h3 =>
  hR q _ _ h1 h3 (λc o hc e=>by rw[adq _ _ _ _ hc];exact old c o hc e) (get?_update_seq ph λ_=>(q.toList.map λi=>us.getD i Value.none).toArray)
 rw[list_sort_plain];refine YX (listItems_at hb rfl (YX (listUpdate_at hb rfl ?_ (by rw[Zg];exact line) (aad _))));refine YX (seqEpoch_at BC rfl (YX (wpAny_newTuple (YX (wpAny_newList (aat ?_) (aad _))) (by show us.length<=_;exact line))))
 show wpAny (model prog w) A _ R E { s with heap:=_ }
 rw[hg];dsimp only;by_cases pk:us.toArray.size<2
 ·rw[if_pos pk,if_pos pk]
  refine YX (YZ ?_);rw[StateT.run_pure];refine YX (YZ ?_);dsimp only;have eo:(us.toArray.zip us.toArray).map (·.2)=((ac2 (Zk us.length)).toList.map λi=>us.getD i Value.none).toArray:=by
   exact kL us (by rw[<- Zg];exact pk)
  refine YX (seqEpoch_at ph rfl (YX (listUpdate_at ph rfl ?_ (aad _) ?_)))
  ·simp only[bne_self_eq_false,Y2,if_false]
   show wpAny _ _ _ _ _ { s with heap:=h2.update b (aa6 λ_=>(us.toArray.zip us.toArray).map (·.2)) }
   rw[eo];refine YZ (last _ ⟨by simp,by simp⟩ λi j eT hj=>?_);rw[Zg] at pk;omega
  ·show ((us.toArray.zip us.toArray).map (·.2)).size<=Zf+1
   simp;omega
 ·rw[if_neg pk,if_neg pk]
  rw[Zg] at pk;refine YX (aaQ (hk (by omega) h2 old) (fun κ t ht=>?_) λ_ _ z=>z.elim);obtain⟨rfl,ht⟩:=ht
  have tree:(kas_sort us.length).kasWp (kas_ask prog w A κ us) (λq t=>t={ s with heap:=h2 }/\Pm us.length q/\Up O (ky x q) us.length) { s with heap:=h2 } :=
   IE (c:=asks O x) (n:=us.length) (λi j C hi hj hC=>ht i j C hi hj hC) (jD (QH (by omega)) λq hq=>⟨rfl,hq⟩)
  refine YX (aaQ (kat_run (Q:=λdq t=>∃q:Array Nat,q.size=us.length/\arrOf dq=q.map (kas_item (us.toArray.zip us.toArray))/\failedOf dq=none/\t={ s with heap:=h2 }/\Pm us.length q/\Up O (ky x q) us.length)
   rfl (by omega) hz (λq dq t a1 a2 a3 a4=>⟨q,a1,a2,a3,a4⟩) tree) ?_ λ_ _ z=>z)
  rintro ⟨⟨⟩,dq⟩ t ⟨q,hq,WN,hf,rfl,h3,h4⟩;dsimp only;rw[kat_snds rfl WN];refine YX (seqEpoch_at ph rfl (YX (listUpdate_at ph rfl ?_ (aad _) ?_)))
  ·rw[hf]
   simp only[bne_self_eq_false,Y2,if_false];exact YZ (last q h3 h4)
  ·show ((q.toList.map λi=>us.getD i Value.none).toArray).size<=Zf+1
   rw[Zg,Y1,ZH,hq];omega
theorem Nx (hl:s.heap.IsList l us.toArray) (hz:us.length<64)
 (hk:2<=us.length->∀h1,(∀c o,s.heap.get? c=some o->h1.get? c=some o)->wZ prog w A.in1.in1 O x us { s with heap:=h1 })
 (hQ:∀(q:Array Nat) h' b e,Pm us.length q->Up O (ky x q) us.length->(∀c o,s.heap.get? c=some o->h'.get? c=some o)->s.heap.objs.size<=b->h'.get? b=some (adt "list" (q.toList.map λi=>us.getD i Value.none).toArray e)->Q (.ref b) { s with heap:=h' }) :
  wpAny (model prog w) A (call (.builtin "sorted") [.ref l]) Q E s:=by
 have line:us.length<=Zf:=by rw[abB];omega
 refine Calls.call_function_entry kind_sorted plain_sorted entry_sorted (args_sorted1 _) ?_;unfold aaY.«sorted»;refine YX (m:=checkCount "sorted" 1 1 _) (YZ (YX (collect_list hl (YX (wpAny_newList ?_ line)) line)));generalize hg:((s.heap.push (adt "list" #[] 0)).update s.heap.objs.size (aa6 (·++us.toArray)))=h1;have tM:h1.objs.size=s.heap.objs.size+1:=by rw[<- hg,Heap.size_update,size_push']
 have A4:∀c o,s.heap.get? c=some o->h1.get? c=some o:=λc o e=>by
  have bC:c<s.heap.objs.size:=Y9 e;rw[<- hg,adq _ _ _ _ (Zn bC)];exact YY _ e
 show wpAny _ _ _ _ _ { s with heap:=h1.push (adt "list" us.toArray 0) }
 have hb:(h1.push (adt "list" us.toArray 0)).get? h1.objs.size=some (adt "list" us.toArray 0):=Y6 _ rfl;have old:∀c o,s.heap.get? c=some o->c≠h1.objs.size/\(h1.push (adt "list" us.toArray 0)).get? c=some o:=λc o e=>by
  have bC:c<s.heap.objs.size:=Y9 e;exact⟨Zn (by rw[tM];exact aae bC),YY _ (A4 c o e)⟩
 refine YX (aat (ZI slot_list_sort ⟨_,hb,rfl⟩ entry_list_sort (Lg hb hz (λz h' ho=>hk z h' λc o e=>ho c o (old c o e).1 (old c o e).2) λq h' e h3 h4 ho hq=>⟨_,rfl,?_⟩) (args_list_sort _)));exact YZ ⟨_,rfl,hQ q h' _ e h3 h4 (λc o e=>ho c o (old c o e).1 (old c o e).2) (by show _<=h1.objs.size;rw[tM];exact acq _) hq⟩
end
end ST
namespace ST
open PySem PySem.W PyProof.Rows HT
theorem zi:∀a:List Int,lexLt a a=false:=λa=>by
 induction a with
 |nil=>rfl
 |cons i r ih=>rw[jc,if_pos rfl];exact ih
theorem Sz:∀a b c:List Int,lexLt a b=true->lexLt b c=true->lexLt a c=true:=λa=>by
 induction a with
 |nil =>
  intro b c h g
  cases b with
  |nil=>cases h
  |cons j s=>cases c with
   |nil=>cases g
   |cons k t=>rfl
 |cons i r ih =>
  intro b c h g
  cases b with
  |nil=>cases h
  |cons j s =>
   cases c with
   |nil=>cases g
   |cons k t =>
    rw[jc] at h g |-;by_cases e1:i=j
    ·subst e1
     rw[if_pos rfl] at h;by_cases e2:i=k
     ·rw[if_pos e2] at g |-;exact ih s t h g
     ·rw[if_neg e2] at g |-;exact g
    ·rw[if_neg e1] at h
     have h:=of_decide_eq_true h;by_cases e2:j=k
     ·subst e2
      rw[if_neg e1];exact decide_eq_true h
     ·rw[if_neg e2] at g
      have g:=of_decide_eq_true g;rw[if_neg (by omega)];exact decide_eq_true (by omega)
theorem QI:∀a b:List Int,lexLt a b=false->lexLt b a=false->a=b:=λa=>by
 induction a with
 |nil =>
  intro b h g
  cases b with
  |nil=>rfl
  |cons j s=>cases h
 |cons i r ih =>
  intro b h g
  cases b with
  |nil=>cases g
  |cons j s =>
   rw[jc] at h g;by_cases e:i=j
   ·subst e
    rw[if_pos rfl] at h g;rw[ih s h g]
   ·rw[if_neg e] at h
    rw[if_neg (abe e)] at g;have h:=of_decide_eq_false h;have g:=of_decide_eq_false g;omega
section
variable {prog:ZE} {w:World} {A:ZX} {E:Value->Y4->Prop} {s:Y4}
inductive mS (h:Heap):List Value->List (List Int)->Prop where
 |nil:mS h [] []
 |cons {a:Addr} {its:Array Value} {ns:List Int} {us:List Value} {jz:List (List Int)}:IsTup h a its->acz its.toList ns->mS h us jz->mS h (.ref a::us) (ns::jz)
theorem mS.keep (k:∀c o,h.get? c=some o->h'.get? c=some o) (t:mS h us jz):mS h' us jz:=by
 induction t with
 |nil=>exact .nil
 |cons a b _ ih =>
  obtain⟨o,ho,r⟩:=a;exact .cons ⟨o,k _ _ ho,r⟩ b ih
theorem mS.at (t:mS h us jz):∀i,i<us.length->∃a its,us.getD i Value.none=.ref a/\IsTup h a its/\acz its.toList (jz.getD i []):=by
 induction t with
 |nil=>intro i hi;simp at hi
 |cons a b _ ih =>
  intro i hi
  cases i with
  |zero=>exact⟨_,_,rfl,a,b⟩
  |succ i =>
   obtain⟨c,its,e,r⟩:=ih i (by simpa using hi);exact⟨c,its,by simpa using e,r⟩
inductive t4:List (Option Value)->List (List Int)->Prop where
 |nil:t4 [] []
 |aA {fs:List (Option Value)} {jz:List (List Int)}:t4 fs jz->t4 (none::fs) ([]::jz)
 |one {fs:List (Option Value)} {jz:List (List Int)} {n:Int} {t:Tok} {r:List Int}:t4 fs jz->t4 (some (.int n t)::fs) ((n::r)::jz)
noncomputable def ins {α:Type} (O:Ord α) (a:α):List α->List α
 | []=>[a]
 |b::r=>if O.lt b a=true then b::ins O a r else a::b::r
noncomputable def ji {α:Type} (O:Ord α):List α->List α
 | []=>[]
 |a::r=>ins O a (ji O r)
end
section
variable {α:Type} {O:Ord α}
theorem FC (a:α) (l:List α):(ins O a l).Perm (a::l):=by
 induction l with
 |nil=>exact .refl _
 |cons b r ih =>
  unfold ins;split
  ·exact(List.Perm.cons b ih).trans (List.Perm.swap a b r)
  ·exact .refl _
theorem qU (l:List α):(ji O l).Perm l:=by
 induction l with
 |nil=>exact .refl _
 |cons a r ih=>exact(FC a _).trans (ih.cons a)
theorem SA (a:α) (l:List α) (h:l.Pairwise O.le):(ins O a l).Pairwise O.le:=by
 induction l with
 |nil=>exact abF _ _
 |cons b r ih =>
  obtain⟨h1,h2⟩:=ZN.mp h;unfold ins
  split<;>rename_i hb
  ·refine ZN.mpr ⟨λc hc=>?_,ih h2⟩
   rcases Zh.mp ((FC a r).mem_iff.mp hc) with e|e
   ·rw[e];exact Ord.le_of_lt hb
   ·exact h1 c e
  ·have hb:O.le a b:=by rw[ach] at hb;exact hb
   refine ZN.mpr ⟨λc hc=>?_,h⟩
   rcases Zh.mp hc with e|e
   ·rw[e];exact hb
   ·exact Ord.qp hb (h1 c e)
theorem FD (l:List α):(ji O l).Pairwise O.le:=by
 induction l with
 |nil=>exact .nil
 |cons a r ih=>exact SA a _ ih
theorem Ny:∀{l m:List α},l.Perm m->l.Pairwise O.le->m.Pairwise O.le->l=m:=by
 intro l
 induction l with
 |nil=>intro m h _ _;exact h.nil_eq
 |cons a r ih =>
  intro m h h1 h2
  cases m with
  |nil=>exact absurd h.length_eq (by simp)
  |cons b t =>
   obtain⟨a1,a2⟩:=ZN.mp h1;obtain⟨b1,b2⟩:=ZN.mp h2;have e:a=b:=by
    rcases Zh.mp (h.mem_iff.mp Zb) with e|e
    ·exact e
    ·rcases Zh.mp (h.mem_iff.mpr Zb) with e'|e'
     ·exact e'.symm
     ·exact Ord.ID (a1 b e') (b1 a e)
   subst e;rw[ih h.cons_inv a2 b2]
theorem Nz (hp:Pm xs.length q) (hu:Up O (ky (λi=>xs.getD i d) q) xs.length):q.toList.map (λi=>xs.getD i d)=ji O xs:=by
 refine Ny ?_ ?_ (FD xs)
 ·refine(hp.2.map _).trans ?_
  have:(Zk xs.length).map (λi=>xs.getD i d)=xs:=by
   apply aa7;intro i;by_cases hi:i<xs.length
   ·simp[hi]
   ·simp[hi,abH hi]
  rw[this];exact(qU xs).symm
 ·rw[List.pairwise_iff_getElem]
  intro i j hi hj eT;have l1:(q.toList.map λi=>xs.getD i d).length=xs.length:=by rw[Y1,ZH,hp.1]
  have WO:j<q.size:=by rw[hp.1];omega
  have ma:i<q.size:=by omega
  have:=hu i j eT (by omega);unfold ky at this;simpa [acO,ma,WO] using this
end
end ST
namespace DI
open PySem L2
section
variable {X:Cx} {Ξ:Wd->bH->Prop} {a e tg:Expr} {p pos:Pos} {f:Env->ag->Res D} {fa:Env->ag->Res (List D)}
noncomputable def oq (n:Nat):List D:=(Zk n).map λi:Nat=>D.int ((n:Int)-1-i)
theorem NA (n:Nat):(oq n).length=n:=by simp[oq]
theorem NB (n i:Nat):(oq n)[i]?=if i<n then some (.int ((n:Int)-1-i)) else none:=by
 unfold oq;rw[Zj];split
 ·rename_i h;rw[Z0 h];rfl
 ·rename_i h;rw[ZM (by simp;omega)];rfl
theorem HC:nv K w (wN n) (oq n):=λw' l' S' i=>by
 refine⟨λd ed=>?_,λhl=>by rw[NA] at hl;exact hl⟩;rw[NB] at ed;split at ed
 ·cases ed
  exact⟨by assumption,λx H' ⟨e1,e2⟩=>⟨w',e1.symm,Le.refl _,S',rfl,e2⟩⟩
 ·cases ed
noncomputable def Co (fa:Env->ag->Res (List D)):Env->ag->Res (List D):=λenv s=>au (fa env s) λds s=>match ds with
 | [.int j]=>if (jg j&&decide (0<=j))=true then ok (oq j.toNat) s else none
 |_=>none
theorem Ux {p2 gK:Pos} (hg:Gl X "reversed") (hm:X.mg "reversed"=none) (tR:Gl X "range") (tU:X.mg "range"=none) (ha:PA X [a] (tA X.K Ξ fa))
  (he:Zp [a] X.env=(false,eval a X.env)::Zp [] X.env:=by rfl) (cZ:(ab5 gK (Zp [] X.env)).any (·.1)=false:=by rfl)
  (hs:Zp [.Call (.Name "range" p2) [a] [] gK] X.env=[(false,eval (.Call (.Name "range" p2) [a] [] gK) X.env)]:=by rfl)
  (oY:Zp [.Call (.Name "range" p2) [a] [] gK] X.env=(false,eval (.Call (.Name "range" p2) [a] [] gK) X.env)::Zp [] X.env:=by rfl) :
  PI X tg (.Call (.Name "reversed" p) [.Call (.Name "range" p2) [a] [] gK] [] pos) (dX X.K Ξ (Co fa)) :=
 nY (So hg hm (jC (u0 LO tR tU (by decide +kernel) ha (by decide) (by decide) he cZ) lr oY) hs) fun σ H R aB=>by
  obtain⟨w,env,eH,S,eo,h⟩:=aB;subst eH;refine⟨w,env,rfl,S,eo,(Out.au h).mono λw1 ds l1 S1 h1 vs ar=>?_⟩;split at h1
  ·rename_i j
   split at h1
   ·rename_i hj
    simp only[jg,Y3,decide_eq_true_eq] at hj;obtain⟨v,r,rfl,dv,dr⟩:=ar;have e1:v=.int j:=dv;have e2:r=[]:=dr;subst e1 e2;refine⟨j,rfl,λq hq=>?_⟩;refine⟨q,j.toNat,rfl,?_,by omega,?_⟩
    ·rw[cF,Int.toNat_of_nonneg hj.2]
    ·exact h1 (w1.grow q (.cg 0 j)) (Fw.grow hq).le (S1.grow hq) rfl _ HC
   ·exact h1.elim
  ·exact h1.elim
end
end DI
namespace L2
open PySem PySem.Spec PyProof.Rows
structure HD (sc:Scope) (cl gA:List (Str×Addr)) (C:Nat) (h:Heap):Prop where
 old:∀n c,gA.lookup n=some c->(C<c/\(n,NameKind.cell)∈sc.names/\∃v,h.IsCell c v)\/cl.lookup n=some c
 own:∀n,sc.names.lookup n=some .cell\/(cl.lookup n).isSome=true->∃c,gA.lookup n=some c
 inj:(∀x y c,cl.lookup x=some c->cl.lookup y=some c->x=y)->(∀x c,cl.lookup x=some c->c<C)->∀x y c,gA.lookup x=some c->gA.lookup y=some c->x=y
theorem yq:∀(names:List (Str×abV)) (n:Nat) (acc:List (Str×Addr)),(ab7 n names acc).lookup x=some c->((x,NameKind.cell)∈names/\n<=c)\/acc.lookup x=some c
 | [],n,acc,h=>.inr h
 |(y,k)::r,n,acc,h=>by
  unfold ab7 at h;split at h
  ·rename_i hk
   have hk:k=.cell:=by simpa using hk
   subst hk
   rcases yq r (n+1) _ h with ⟨h1,h2⟩|h1
   ·exact .inl ⟨Zd _ h1,by omega⟩
   ·rw[aaM] at h1
    split at h1
    ·rename_i e
     have e:x=y:=by simpa using e
     subst e;cases h1;exact .inl ⟨Zb,Nat.le_refl _⟩
    ·exact .inr h1
  ·rcases yq r n acc h with ⟨h1,h2⟩|h1
   ·exact .inl ⟨Zd _ h1,h2⟩
   ·exact .inr h1
theorem yr:∀(names:List (Str×abV)) (n:Nat) (acc:List (Str×Addr)),(∀x y c,acc.lookup x=some c->acc.lookup y=some c->x=y)->(∀x c,acc.lookup x=some c->c<n)->∀x y c,(ab7 n names acc).lookup x=some c->(ab7 n names acc).lookup y=some c->x=y
 | [],n,acc,hi,hb=>hi
 |(z,k)::r,n,acc,hi,hb=>by
  unfold ab7;split
  ·refine yr r (n+1) _ (λx y c h1 h2=>?_) λx c h1=>?_
   ·rw[aaM] at h1 h2
    split at h1
    ·rename_i e1
     split at h2
     ·rename_i e2
      exact(by simpa using e1:x=z).trans (by simpa using e2:y=z).symm
     ·cases h1
      exact absurd (hb y _ h2) (ZF _)
    ·split at h2
     ·cases h2
      exact absurd (hb x _ h1) (ZF _)
     ·exact hi x y c h1 h2
   ·rw[aaM] at h1
    split at h1
    ·cases h1;exact aaZ _
    ·exact aae (hb x c h1)
  ·exact yr r n acc hi hb
theorem yG {lo:Nat}:∀(names:List (Str×abV)) (h:Heap) (acc:List (Str×Addr)),lo<=h.objs.size->(∀x c,acc.lookup x=some c->lo<=c->h.IsCell c none)->(ab7 h.objs.size names acc).lookup x=some c->lo<=c->(pushCells h names).IsCell c none
 | [],h,acc,_,ha,e,hl=>ha x c e hl
 |(z,k)::r,h,acc,JI,ha,e,hl=>by
  unfold ab7 at e;unfold pushCells;split at e
  ·rename_i hk
   rw[if_pos hk];have hz:(h.push { cls:=.type "cell",data:=.cell none }).objs.size=h.objs.size+1:=ZP ..;refine yG (lo:=lo) r _ ((z,h.objs.size)::acc) (by omega) (λy d hy hd=>?_) (by rw[hz];exact e) hl;rw[aaM] at hy;split at hy
   ·cases hy
    exact⟨_,Y6 _ rfl,rfl⟩
   ·exact(ha y d hy hd).keeps λb o q=>YY _ q
  ·rename_i hk
   rw[if_neg hk];exact yG r h acc JI ha e hl
theorem K1 {E:Value->Y4->Prop} {Q:Env->Y4->Prop}
 (hQ:∀gA h3,((∀x c,cl.lookup x=some c->c<s.heap.objs.size)->HD scope cl gA s.heap.objs.size h3)->h3.Ns s.heap.objs.size (λ_=>none)->(∀b o,s.heap.get? b=some o->h3.get? b=some o)->Q (newEnv scope s.heap.objs.size globals gA qual none .none (some env) bi) { s with heap:=h3 }) :
  wpAny M A (newFunctionEnv scope globals cl [] qual none .none (some env) bi) Q E s:=by
 simp only[newFunctionEnv,Option.isSome_some,if_true];refine YX (wpAny_alloc ?_)
 refine YX (wpAny_layCells _ (λname kind cells=>by cases WQ:kind==NameKind.cell<;>simp[WQ]) _ _ _ _ ?_)
 rw[show ({ s with heap:=s.heap.push { cls:=.type "dict",data:=.dict #[] } }:Y4).heap.objs.size=s.heap.objs.size+1 from ZP ..]
 simp only[List.forIn_nil];refine YX (YZ (YZ ?_));have hz:(s.heap.push { cls:=.type "dict",data:=.dict #[] }).objs.size=s.heap.objs.size+1:=ZP ..;refine hQ (ab7 (s.heap.objs.size+1) scope.names cl) _ (λhb=>⟨λn c e=>?_,λn hn=>?_,λhi fu=>yr _ _ _ hi λx c e=>aae (fu x c e)⟩) ((Heap.Ns.new s.heap (.type "dict")).keeps (pushCells_keeps _ _)) λb o e=>pushCells_keeps _ _ b o (YY _ e)
 ·rcases yq _ _ _ e with ⟨h1,h2⟩|h1
  ·exact .inl ⟨by omega,h1,none,yG (lo:=s.heap.objs.size+1) scope.names _ cl (by omega) (λx d q hd=>absurd (hb x d q) (Nat.not_lt.mpr (Nat.le_of_succ_le hd))) (by rw[hz];exact e) h2⟩
  ·exact .inr h1
 ·exact Option.isSome_iff_exists.mp (acI scope.names _ cl hn)
noncomputable abbrev fb (X:Cx) (N:List Str) (sc:Scope) (cl:List (Str×Addr)) (C:Addr) (s:Y4) (H:Hp) (ex:List Addr) (pn:List (Addr×Obj)):Cx:={ dW X N sc cl C s H ex pn with fn:=λx=>sc.names.lookup x==some .cell }
structure mz (X:Cx) (sc:Scope) (N:List Str) (nt:Nat) (cap:List Nat):Prop where
 kind:sc.kind=.function
 names:∀x∈sc.names,x.2=.local->sc.names.lookup x.1=some .local
 cells:∀x∈sc.names,x.2=.cell->sc.names.lookup x.1=some .cell
 frees:∀x∈sc.names,x.2=.free->sc.names.lookup x.1=some .free/\(X.env.scope.names.lookup x.1=some .cell\/X.env.scope.names.lookup x.1=some .free)
 len:N.length=nt+cap.length
 AY:∀(k:Nat) j,cap[k]?=some j->∃x,X.N[j]?=some x/\N[nt+k]?=some x/\(x,ZQ)∈sc.names
section
variable {X:Cx} {sc:Scope} {N:List Str} {nt:Nat} {cap:List Nat} {cl gA:List (Str×Addr)} {s:Y4} {h1:Heap} {H:Hp} {σ:St} {pins:List (Addr×Obj)} {fp:List Addr} {C:Addr} {t':Nat}
theorem Inv.SD (I:Inv X pins σ H s) (S:mz X sc N nt cap) (dO:∀n c,cl.lookup n=some c↔((n,ZQ)∈sc.names/\X.env.cells.lookup n=some c)) (ia:HD sc cl gA C h1) (hf:∀b∈fp,gb X pins H b) (iZ:∀b∈fp,b<s.heap.objs.size)
  (hk:∀b o,s.heap.get? b=some o->h1.get? b=some o) (hC:s.heap.objs.size<=C) (qG:∃m,h1.Ns C m):Inv (fb X N sc gA C s H fp (X.pn++pins)) [] (kq nt cap σ) H { s with heap:=h1,toks:=t' }:=by
 have rW:∀b∈gM X.stack,b∈X.env.locals::X.fs:=I.lp;have VO:∀x c,cl.lookup x=some c->c<s.heap.objs.size:=λx c e=>by
  obtain⟨v,o,ho,_⟩:=I.cell x c ((dO x c).mp e).2;exact Y9 ho
 have Ak:∀x,(relabel sc X.env).names.lookup x=some .cell\/(relabel sc X.env).names.lookup x=some .free->(x,ZQ)∈sc.names\/sc.names.lookup x=some .cell:=λx hx=>by
  rw[uz] at hx
  cases e:sc.names.lookup x with
  |none=>rw[e] at hx;rcases hx with z|z<;>cases z
  |some k =>
   have hm:(x,k)∈sc.names:=by
    obtain⟨l1,l2,e1,_⟩:=List.lookup_eq_some_iff.mp e;rw[e1];simp
   rw[e] at hx
   cases k with
   |free=>exact .inl hm
   |cell=>exact .inr rfl
   |_=>exfalso;revert hx;simp
 have y0:∀x,(x,ZQ)∈sc.names->∃c,X.env.cells.lookup x=some c:=λx hx=>I.ok.has x (S.frees _ hx rfl).2;have Jo:∀x c,(x,ZQ)∈sc.names->X.env.cells.lookup x=some c->gA.lookup x=some c:=λx c hx hc=>by
  have e:=(dO x c).mpr ⟨hx,hc⟩;obtain⟨d,hd⟩:=ia.own x (.inr (by rw[e];rfl))
  rcases ia.old x d hd with ⟨_,q,_⟩|q
  ·have z1:=S.cells _ q rfl
   have z2:=(S.frees _ hx rfl).1;dsimp only at z1 z2;rw[z1] at z2;cases z2
  ·rw[e] at q
   cases q;exact hd
 have ok:Cx.Ok (fb X N sc gA C s H fp (X.pn++pins)):=by
  refine⟨I.ok.mod,?_,I.ok.glob,I.ok.blt,hC,?_,?_,?_,I.ok.hd,I.ok.frames,.inl rfl,?_,I.bs,Zo I.ok.jY I.sz,?_,?_,I.stack,I.yV⟩
  ·exact S.kind
  ·exact ia.inj (λx y c hx hy=>I.ok.inj x y c ((dO x c).mp hx).2 ((dO y c).mp hy).2) λx c e=>Y5 (VO x c e) hC
  ·intro x hx
   rcases Ak x hx with hm|hm
   ·obtain⟨c,e⟩:=y0 x hm
    exact⟨c,Jo x c hm e⟩
   ·exact ia.own x (.inl hm)
  ·intro x c hx e
   rcases ia.old x c e with ⟨q,_,_⟩|q
   ·exact Zo hC (Nat.le_of_lt q)
   ·have z2:=(S.frees _ ((dO x c).mp q).1 rfl).1
    have z1:sc.names.lookup x=some .cell:=by simpa using hx
    dsimp only at z2;rw[z1] at z2;cases z2
  ·intro b hb
   refine⟨Zn (Y5 (iZ b hb) hC),λx c e=>?_⟩
   rcases ia.old x c e with ⟨q,_,_⟩|q
   ·exact aan (Y5 (iZ b hb) (Zo hC (Nat.le_of_lt q)))
   ·exact(hf b hb).2.2.2.2.1 x c ((dO x c).mp q).2
  ·intro b o e hb
   rcases(hf b hb).2.2.2.1 with z|z
   ·exact I.ok.ou b o e z
   ·exact absurd (Y5 (Y9 e) (Zo I.ok.jY z)) (ZF _)
  ·intro b hb z
   rcases Zh.mp (rW b z) with e|e
   ·exact(hf b hb).2.1 e
   ·exact(hf b hb).2.2.1 e
 obtain⟨m,hm⟩:=qG;obtain⟨mX,Wb,Bw⟩:=I.loc;refine⟨ok,rfl,I.bare,Un.kept hk,⟨m,hm,λi x v e1 e2 e3=>?_⟩,λx c e=>?_,I.aG.fresh hC,λx c e=>?_,λp hp=>?_,I.aG.kept hk,?_⟩
 ·
  have hi:nt<=i:=by
   apply abH;intro bC;have:(kq nt cap σ)[i]?=some none:=by
    unfold kq;rw[Zm (by simpa using bC),aaq,if_pos bC]
   rw[this] at e2;cases e2
  have j5:(cap.map λj=>(σ[j]?).getD none)[i-nt]?=some (some v):=by
   have e:=e2;unfold kq at e;rw[ZK (by simpa using hi)] at e;simpa using e
  rw[Zj] at j5
  cases ej:cap[i-nt]? with
  |none=>rw[ej] at j5;cases j5
  |some j =>
   rw[ej] at j5;have ev:(σ[j]?).getD none=some v:=Option.some.inj j5;have tF:σ[j]?=some (some v):=by
    cases q:σ[j]? with
    |none=>rw[q] at ev;cases ev
    |some z=>rw[q] at ev;exact congrArg some ev
   obtain⟨y,f1,f2,f3⟩:=S.AY _ _ ej;rw[Nat.add_sub_cancel' hi] at f2;have Bx:y=x:=Option.some.inj (f2.symm.trans e1);subst Bx;obtain⟨g1,g2⟩:=S.frees _ f3 rfl;have By:sI X.env.scope y:=.inr g2;obtain⟨u,r,l⟩:=Bw j y v f1 tF By;refine⟨u,r,.inr ⟨?_,?_⟩⟩
   ·show (relabel sc X.env).names.lookup y=some .cell\/(relabel sc X.env).names.lookup y=some .free
    rw[uz,g1];simp only[aaU];split
    ·exact .inl rfl
    ·exact .inr rfl
   ·rcases l with ⟨k,_⟩ | ⟨_,c,hc,mF⟩
    ·exfalso
     have k':X.env.scope.names.lookup y=some .local:=k;dsimp only at g2;rw[k'] at g2
     rcases g2 with z|z<;>cases z
    ·obtain⟨oc,ho,hd⟩:=mF
     exact⟨c,Jo y c f3 hc,oc,hk _ _ ho,hd⟩
 ·rcases ia.old x c e with ⟨_,_,q⟩|q
  ·exact q
  ·obtain⟨v,oc,ho,hd⟩:=I.cell x c ((dO x c).mp q).2
   exact⟨v,oc,hk _ _ ho,hd⟩
 ·rcases ia.old x c e with ⟨q,_,_⟩|q
  ·exact I.aG.fresh (by omega)
  ·exact I.fj x c ((dO x c).mp q).2
 ·have fU:p∈X.pn++pins:=by simpa using hp
  obtain⟨e,n,ne,nf,d⟩:=I.pin p fU;refine⟨hk _ _ e,n,Zn (Y5 (Y9 e) hC),λz=>?_,d⟩
  rcases Zh.mp (rW p.1 z) with q|q
  ·exact ne q
  ·exact nf q
 ·unfold kq
  rw[Zx,abO,Y1];exact S.len.symm
end
section
variable {X:Cx}
theorem Er {el tg src:Expr} {tests:List Expr} {sc:Scope} {ps:Pos} {N:List Str} {nt:Nat} {cap:List Nat} {wi:TI} {g:TG} {tf:TT} {te:TE} {p1:Pos} {use:Option (Value->Sem Unit)} {R:Value->Y4->Prop} {pins:List (Addr×Obj)} {s:Y4} {σ:St} {H:Hp} {Q:VK} (hc:X.calm=true) (S:mz X sc N nt cap) (gy:lX g nt) (hi:PI X tg src wi)
  (hY:∀(cl:List (Str×Addr)) (C:Addr) (s:Y4) (H:Hp) (ex:List Addr) (pn:List (Addr×Obj)),PG (fb X N sc cl C s H ex pn) tg g/\PF (fb X N sc cl C s H ex pn) tests tf/\PE (fb X N sc cl C s H ex pn) el te)
  (hs:∀x,ZW src X.env x=pure x) (I:Inv X pins σ H s) (h:lJ wi nt cap g tf te σ H Q)
  (A9:∀(s':Y4) (H1:Hp) (D C:Addr) (m:Str->Option Value),(∀h',aaz C s'.heap h'->Inv X pins σ H1 { s' with heap:=h' })->s'.heap.Ns C m->H1 C=none->C≠X.env.locals->C∉X.fs->X.dC.heap.objs.size<=C->(∀x c,X.env.cells.lookup x=some c->c≠C)->(∀p∈X.pn++pins,p.1≠C)->Q (.ref D) H1->compPost (model X.prog X.w) X.A X.xe use R (.ref D) C (.ok .next) s') :
  wpAny (model X.prog X.w) X.A (comprehension (.ListComp el [⟨tg,src,tests,0⟩] sc ps) sc X.env p1 (newList []) false (eval src X.env) use) R X.xe s:=by
 obtain⟨cl,Ar,dO⟩:=Hb (env:=X.env) (sc:=sc) λn hn=>I.ok.has n (S.frees _ hn rfl).2;refine wpAny_comprehension_free (use:=use) rfl hs Ar S.kind S.names (aF (hi pins s σ H _ I h) λxv s1 h1=>aF h1 λiX s2 h2=>?_);obtain⟨it,fp,tn,J,H2,e,I2,T,gv,f2,W,⟨m0,w0⟩,turn⟩:=h2;subst e;refine Zt (K1 λgA h3 lU jV nq=>?_);dsimp only at lU jV nq |-;generalize hD:s2.heap.objs.size=D at lU jV nq |-;generalize hG:s2.heap.push { cls:=.type "list",dict:=none,data:=.seq ([]:List Value).toArray }=G at lU jV nq |-;generalize Cb:G.objs.size=C at lU jV nq |-;have hC:C=D+1:=by rw[<- Cb,<- hG,ZP,hD]
 have pd:D≠C:=by omega
 have gj:s2.heap.objs.size<=D:=Nat.le_of_eq hD;have hV:s2.heap.objs.size<=C:=by omega
 have old:∀b o,s2.heap.get? b=some o->h3.get? b=some o:=λb o e=>nq b o (hG ▸ YY _ e);have kG:h3.PlainList D #[]:=⟨_,nq _ _ (hG ▸ hD ▸ Y6 _ rfl)⟩;have iZ:∀b∈fp,b<s2.heap.objs.size:=λb hb=>by
  obtain⟨o,e,_⟩:=T.obj _ _ gv b hb;exact Y9 e
 have lU:=lU λx c e=>by
  obtain⟨v,o,ho,_⟩:=I2.cell x c ((dO x c).mp e).2;exact Y5 (Y9 ho) hV
 have IB:=I2.SD (t':=s2.toks) S dO lU f2 iZ old hV ⟨_,jV⟩;have Cc:D∉gM X.stack:=λz=>by
  rcases Zh.mp (I2.lp D z) with e|e
  ·exact absurd (Y5 I2.lt gj) (by rw[e];exact ZF _)
  ·exact I2.sk gj e
 have l0:D∉fp:=λz=>absurd (Y5 (iZ D z) gj) (ZF _);have zK:∀x c,gA.lookup x=some c->c≠D:=λx c e z=>by
  rcases lU.old x c e with ⟨q,_,_⟩|e
  ·rw[z] at q
   exact absurd q (by rw[hC];exact Nat.not_lt.mpr (acq D))
  ·obtain⟨v,o,ho,_⟩:=I2.cell x c ((dO x c).mp e).2
   exact absurd (Y5 (Y9 ho) (by rw[z];exact gj)) (ZF _)
 have As:∀p∈X.pn++pins,p.1≠D:=λp hp z=>absurd (Y5 (Y9 (I2.pin p hp).1) (by rw[z];exact gj)) (ZF _);generalize gB:fb X N sc gA C s2 H2 fp (X.pn++pins)=Y at IB;have l7:∀{H':Hp} {pl:List (Addr×Obj)},(∀b∈fp,H' b=none)->(∀p∈pl,p.1∉fp)->∀b∈fp,gb Y pl H' b:=λ{H' pl} hn hp b hb=>by
  subst gB;obtain⟨_,f1,o9,f3,f4,f5⟩:=f2 b hb;refine⟨hn b hb,Zn (Y5 (iZ b hb) hV),λz=>?_,.inl hb,λx c e=>(lU.old x c e).elim (λq z=>aan (Y5 (iZ b hb) (Zo hV (Nat.le_of_lt q.1))) z) λe=>f4 x c ((dO x c).mp e).2,λp tV=>?_⟩
  ·rcases Zh.mp (I2.lp b z) with e|e
   ·exact f1 e
   ·exact o9 e
  ·rcases Zq.mp tV with z|z
   ·exact f5 p z
   ·exact λe=>hp p z (e ▸ hb)
 have Cd:PG Y tg g:=by subst gB;exact(hY _ _ _ _ _ _).1
 have Ce:PF Y tests tf:=by subst gB;exact(hY _ _ _ _ _ _).2.1
 have WR:PE Y el te:=by subst gB;exact(hY _ _ _ _ _ _).2.2
 have eP:Y.prog=X.prog:=by subst gB;rfl
 have eW:Y.w=X.w:=by subst gB;rfl
 have eA:Y.A=X.A:=by subst gB;rfl
 have eK:Y.K=X.K:=by subst gB;rfl
 have eE:Y.env=compEnvC sc gA C X.env:=by subst gB;rfl
 have eX:Y.xe=λ_ _=>False:=by subst gB;rfl
 have eC:Y.calm=true:=by subst gB;exact hc
 have eS:Y.dC.heap.objs.size<=D:=by subst gB;exact gj
 have eF:D∉Y.fs:=by subst gB;exact Cc
 have eL:D≠Y.env.locals:=by subst gB;exact pd
 have WS:∀x c,Y.env.cells.lookup x=some c->c≠D:=by subst gB;exact zK
 have eN:∀p∈Y.pn,p.1≠D:=by subst gB;exact As
 have fin:∀(s':Y4) (τ:St) (H':Hp) (acc:List V) (ys:Array Value),Inv Y [] τ H' s'->s'.heap.PlainList D ys->Vals acc ys.toList->H' D=none->acc.length<=Zf->(∀D,H' D=none->Q (.ref D) (upd H' D (.lst acc))) ->
   compPost (model X.prog X.w) X.A X.xe use R (.ref D) C (.ok .next) s':=by
  intro s' τ H' acc ys I' pl rv hn hz q;subst gB;obtain⟨m,hm,_⟩:=id I'.loc;refine A9 s' (upd H' D (.lst acc)) D C m (λh' sb=>?_) hm ?_ (λz=>absurd (Y5 I2.lt hV) (by rw[z];exact ZF _)) (I2.sk hV) (Zo I2.sz hV) (λx c e z=>?_) (λp hp z=>absurd (Y5 (Y9 (I2.pin p hp).1) (by rw[z];exact hV)) (ZF _)) (q D hn)
  ·have Bf:cm X.prog X.w H' h':=I'.aG.but I'.free sb
   obtain⟨n,ho⟩:=pl;have cP:h'.get? D=some { cls:=.type "list",data:=.seq ys n }:=(sb.2 D pd).trans ho;have new:cL X.prog X.w (upd H' D (.lst acc)) h' D (.lst acc):=⟨hz,ys.toList,n,rv,by simpa using cP⟩;have u:=(I'.base.but hV sb).adopt (o:=.lst acc) gj hn
   refine I2.Ae (s':={ s' with heap:=h' }) (ch:=fp) I'.os u (Bf.adopt hn new) I'.bare (λb hb=>?_)
   obtain⟨_,f1,_,f3,f4,f5⟩:=f2 b hb;exact⟨f3,f1,f4,f5⟩
  ·rw[bq (abe pd)]
   exact I'.free
  ·obtain⟨v,o,jt,_⟩:=I2.cell x c e
   exact absurd (Y5 (Y9 jt) (by rw[z];exact hV)) (ZF _)
 have loop:adk (model X.prog X.w) X.A (.compLoop (.ListComp el [⟨tg,src,tests,0⟩] sc ps) 0 (.ref it) (.ref D) (compEnvC sc gA C X.env)) (compPost (model X.prog X.w) X.A X.xe use R (.ref D) C)
   { s2 with heap:=h3 }:=by
  refine Mh (λn s'=>∃i acc o H' ys,Inv Y [] (o++mG cap σ) H' s'/\o.length=nt/\tn i s'.heap/\(∀b∈fp,H' b=none)/\s'.heap.PlainList D ys/\Vals acc ys.toList/\H' D=none/\W i n acc H') ?_ m0
   ⟨0,[],Za nt none,H2,#[],IB,by simp,T.keep _ _ _ gv λb _ o e=>old b o e,λb hb=>(f2 b hb).1,kG,.nil,I2.aG.fresh gj,w0⟩
  rintro n s3 ⟨i,acc,o3,H3,ys,I3,JY,j0,mV,WT,nA,WU,w3⟩;generalize WV:o3++mG cap σ=τ at I3;obtain⟨nn,ho⟩:=id WT;generalize JZ:({ cls:=.type "list",data:=.seq ys nn }:Obj)=oD at ho;have Uy:∀v,oD.data≠.cell v:=λv z=>by subst JZ;cases z
  have tW:Inv Y [(D,oD)] τ H3 s3:=I3.k9 λp hp=>by
   have e:p=(D,oD):=by simpa using hp
   subst e;exact⟨ho,WU,eL,eF,Uy⟩
  have pb:∀p∈[(D,oD)],p.1∉fp:=λp hp=>by
   have e:p=(D,oD):=by simpa using hp
   subst e;exact l0
  have qN:∀{pl:List (Addr×Obj)} {cV:St} {H':Hp} {s':Y4},Inv Y ([(D,oD)]++pl) cV H' s'->s'.heap.PlainList D ys/\H' D=none:=λ{pl cV H' s'} I'=>by
   have q:=I'.pin (D,oD) (Zc _ (aaj _ (by simp)));exact⟨⟨nn,by rw[JZ];exact q.1⟩,q.2.1⟩
  rcases turn i n acc H3 w3 with ⟨stop,hz,q⟩ | ⟨go,hz,N',hN,step⟩
  ·have hd:=T.done Y eP eW eK eC i [(D,oD)] s3 τ H3 (λ_ _=>False) tW (l7 mV pb) j0 stop
   rw[eA] at hd;refine aF hd λr s4 h4=>?_;obtain⟨hr,I4⟩:=h4;subst hr;obtain⟨B9,n4⟩:=qN (pl:=[]) (by simpa using I4);exact fin s4 τ H3 acc ys (Inv.kY (pins:=[]) I4) B9 nA n4 hz q
  ·have hd:=T.item Y eP eW eK eC i [(D,oD)] s3 τ H3 (λ_ _=>False) tW (l7 mV pb) j0 go
   rw[eA] at hd;refine aF hd λr s4 h4=>?_;obtain⟨u,hr,h4⟩:=h4;subst hr;refine aF h4 λ_ s5 h5=>?_;obtain⟨x,H5,I5,r5,y5,gO,sU⟩:=h5;have sV:=I5.pinned (l7 sU pb) (T.obj _ _ gO);have q5:=Cd _ s5 τ H5 x u _ sV r5 (WV ▸ gy x o3 _ H5 _ JY (step o3 x H5 JY y5));rw[eP,eW,eA,eE,eX] at q5;refine aF q5 λ_ s6 h6=>?_;obtain⟨qO,H6,I6,⟨o6,tX,wY⟩,q6⟩:=h6;have q7:=Ce _ s6 qO H6 _ I6 q6;rw[eP,eW,eA,eE,eX] at q7;refine aF q7 λb s7 h7=>?_;obtain⟨H7,I7,q7⟩:=h7;have sy:∀{cV:St} {H':Hp} {s':Y4},Inv Y ([(D,oD)]++mw fp s5.heap) cV H' s'->tn (i+1) s'.heap/\∀b∈fp,H' b=none:=λ{cV H' s'} I'=>by
    refine⟨T.keep _ _ _ gO λb hb o e=>(I'.pin (b,o) (Zc _ (Zc _ (pK hb e)))).1,λb hb=>?_⟩;obtain⟨o,e,_⟩:=T.obj _ _ gO b hb;exact(I'.pin (b,o) (Zc _ (Zc _ (pK hb e)))).2.1
   cases b with
   |false =>
    rw[if_neg Y7] at q7 |-;obtain⟨m',hm,w7⟩:=hN _ _ q7;obtain⟨xC,n7⟩:=qN I7;obtain⟨t7,f7⟩:=sy I7;exact⟨m',hm,i+1,acc,o6,H7,ys,wY ▸ I7.k9 (λp hp=>by simp at hp),tX,t7,f7,xC,nA,n7,w7⟩
   |true =>
    rw[if_pos rfl] at q7 |-;have q8:=WR _ s7 qO H7 _ I7 q7;rw[eP,eW,eA,eE,eX] at q8;refine aF q8 λy s8 h8=>?_;obtain⟨v,H8,I8,r8,q9⟩:=h8;obtain⟨m',hm,w8⟩:=hN _ _ q9;obtain⟨BY,n8⟩:=qN I8;obtain⟨t8,f8⟩:=sy I8;have BZ:ys.size<=Zf:=by
     have e:=nA.length;simp only[ZH] at e;omega
    refine wpAny_list_append_plain (hsz:=BZ) BY λh9 B0 xB=>?_;have B7:Inv Y [] qO H8 s8:=I8.k9 (λp hp=>by simp at hp)
    have I9:Inv Y [] qO H8 { s8 with heap:=h9,toks:=s8.toks }:=B7.turned (it:=D) (λb o hb e=>(xB.2 b hb).trans e) n8 eL (.inr eS) WS (λp hp=>eN p (by simpa using hp))
    refine⟨m',hm,i+1,acc++[v],o6,H8,ys.push y,wY ▸ I9,tX,T.keep _ _ _ t8 λb hb o e=>(xB.2 b (λz=>l0 (z ▸ hb))).trans e,f8,B0,?_,n8,w8⟩;rw[acR];exact Vals.append nA (.cons r8 .nil)
 exact codeAny_compStart_list loop (T.self _ _ _ _ _ (T.keep _ _ _ gv λb _ o e=>old b o e) loop)
theorem FE (hc:X.calm=true) (S:mz X sc N nt cap) (gy:lX g nt) (hi:PI X tg src wi)
 (hY:∀(cl:List (Str×Addr)) (C:Addr) (s:Y4) (H:Hp) (ex:List Addr) (pn:List (Addr×Obj)),PG (fb X N sc cl C s H ex pn) tg g/\PF (fb X N sc cl C s H ex pn) tests tf/\PE (fb X N sc cl C s H ex pn) el te)
 (hs:∀x,ZW src X.env x=pure x:=by intro _;rfl):PE X (.ListComp el [⟨tg,src,tests,0⟩] sc ps) (lJ wi nt cap g tf te):=by
 intro pins s σ H Q I h;rw[eval_ListComp];exact Er (use:=none) hc S gy hi hY hs I h λs' H1 D C m IX hm _ _ _ _ _ _ q=>⟨m,hm,λh' sb=>⟨.ref D,H1,IX h' sb,rfl,q⟩⟩
theorem OY {el tg src:Expr} {tests:List Expr} {sc:Scope} {ps pos pos':Pos} {N:List Str} {nt:Nat} {cap:List Nat} {wi:TI} {g:TG} {tf:TT} {te:TE} {i0:Nat} {x0:Str} (Cp:X.N.Nodup) (Cq:X.N[i0]?=some x0) (Cr:Loc X.env.scope x0) (hc:X.calm=true) (S:mz X sc N nt cap) (gy:lX g nt) (hi:PI X tg src wi)
  (hY:∀(cl:List (Str×Addr)) (C:Addr) (s:Y4) (H:Hp) (ex:List Addr) (pn:List (Addr×Obj)),PG (fb X N sc cl C s H ex pn) tg g/\PF (fb X N sc cl C s H ex pn) tests tf/\PE (fb X N sc cl C s H ex pn) el te)
  (hs:∀x,ZW src X.env x=pure x:=by intro _;rfl)
  (Cs:swapsWith (.ListComp el [⟨tg,src,tests,0⟩] sc ps) (some (.Name x0 pos')) pos.line X.env=pure true:=by rfl)
  (Ct:X.fn x0=true\/X.env.scope.names.lookup x0=some .local:=by first|exact .inl rfl|exact .inr rfl|assumption):PS X (.Assign [.Name x0 pos'] (.ListComp el [⟨tg,src,tests,0⟩] sc ps) pos) (qr (lJ wi nt cap g tf te) (lH i0)):=by
 intro pins s σ H D0 I h;rw[exec_Assign_Name_used _ _ _ _ Cs];refine YX (abA (YX ?_));obtain⟨Q,hQ⟩:∃Q:VK,Q=λv H1=>lH i0 v σ H1 D0.nx:=⟨_,rfl⟩;have h:lJ wi nt cap g tf te σ H Q:=by rw[hQ];exact h
 have m9:∀v H1,Q v H1->D0.nx (σ.set i0 (some v)) H1:=λv H1 q=>by rw[hQ] at q;exact q
 unfold evalThenUse
 refine YX (aaQ (Q:=λ_ s'=>SP X pins D0 .next s') ?_ (λ_ s' q=>YZ (YZ q)) (λ_ _ z=>z))
 refine Er (use:=some (acZ (.Name x0 pos') X.env)) hc S gy hi hY hs I h λs' H1 D C m IX hm J0 J1 WW JK mF VP q=>?_;have J2:Inv X pins σ H1 s':=IX s'.heap (Heap.SameBut.refl _ _);obtain⟨oC,es,ep,WX,J3,sQ⟩:=id hm;have IP:Inv X ((C,oC)::pins) σ H1 s':=J2.k9 λp hp=>by
  rcases Zh.mp hp with e|e
  ·subst e
   exact⟨WX,J0,J1,WW,λv z=>by rw[J3] at z;cases z⟩
  ·exact J2.pin p (Zc _ e)
 show wpAny _ _ (acZ (.Name x0 pos') X.env (.ref D)) _ _ s';refine wpAny_assign_Name (mm IP Cp Cq Cr (show RelV (.ref D) (.ref D) from rfl) (λs3 I3=>?_) Ct);have p3:=(I3.pin (C,oC) (Zc _ (Zb ..))).1;refine⟨m,⟨oC,es,ep,p3,J3,sQ⟩,λh' sb=>⟨_,H1,?_,m9 _ _ q⟩⟩;have I4:Inv X pins (σ.set i0 (some (.ref D))) H1 s3:=I3.k9 λp hp=>I3.pin p (Zc _ (Zd _ hp));exact I4.turned (it:=C) (t':=s3.toks) (λb o hb e=>(sb.2 b hb).trans e) J0 J1 (.inr JK) mF VP
end
end L2
namespace L2
open PySem
noncomputable def HE (sc:Scope) (on:List (Str×abV)) (oN N:List Str) (nt:Nat) (cap:List Nat):Bool :=
 decide (sc.kind=.function)&&sc.names.all (λx=>decide (x.2=.local->sc.names.lookup x.1=some .local))&&sc.names.all (λx=>decide (x.2=.cell->sc.names.lookup x.1=some .cell)) &&
 sc.names.all (λx=>decide (x.2=.free->sc.names.lookup x.1=some .free/\(on.lookup x.1=some .cell\/on.lookup x.1=some .free)))&&decide (N.length=nt+cap.length) &&
 (Zk cap.length).all (λk=>match cap[k]? with
  |some j=>match oN[j]? with
   |some x=>decide (N[nt+k]?=some x)&&decide ((x,ZQ)∈sc.names)
   |none=>false
  |none=>true)
theorem bV (h:HE sc X.env.scope.names X.N N nt cap=true):mz X sc N nt cap:=by
 unfold HE at h;simp only[Y3,Zu,decide_eq_true_eq] at h;obtain⟨⟨⟨⟨⟨h1,h2⟩,h3⟩,h4⟩,h5⟩,h6⟩:=h;refine⟨h1,h2,h3,λx hx e=>h4 x hx e,h5,λk j e=>?_⟩;have hk:k<cap.length:=(Y0.mp e).1;have:=h6 k (ZO.mpr hk);rw[e] at this;dsimp only at this
 cases ex:X.N[j]? with
 |none=>rw[ex] at this;cases this
 |some x =>
  rw[ex] at this;simp only[Y3,decide_eq_true_eq] at this;exact⟨x,rfl,this.1,this.2⟩
end L2
namespace DI
open PySem L2
section
variable {X:Cx} {Ξ:Wd->bH->Prop} {e a b c tg el src:Expr} {es rest tests:List Expr} {pos:Pos} {f g h:Env->ag->Res D} {fa:Env->ag->Res (List D)} {ft gt:Env->ag->Res Bool}
theorem cq (hc:X.calm=true) (S:mz X sc N nt cap) (T:Tg X.K g0 gd nt) (hi:PI X tg src (dX X.K Ξ it))
 (hY:∀(cl:List (Str×Addr)) (C:Addr) (s:Y4) (H:Hp) (ex:List Addr) (pn:List (Addr×Obj)),PG (fb X N sc cl C s H ex pn) tg g0/\PF (fb X N sc cl C s H ex pn) tests (tT X.K cI ft)/\PE (fb X N sc cl C s H ex pn) el (tE X.K cI f))
 (hs:∀x,ZW src X.env x=pure x:=by intro _;rfl):PE X (.ListComp el [⟨tg,src,tests,0⟩] sc ps) (tE X.K Ξ (ba nt cap it gd ft f)) :=
 cG (FE hc S T.j9 hi hY hs) fun σ H Q h=>yk T.imp (λR R' i h=>yy R R' i h) (Fx σ H Q h)
theorem zj {sc:Scope} {ps pos':Pos} {N:List Str} {nt:Nat} {cap:List Nat} {it:Env->ag->Res (List D)} {gd:D->Env->Option Env} {g0:TG} (i0:Nat) {x0:Str} (Cp:X.N.Nodup) (hc:X.calm=true) (S:mz X sc N nt cap) (T:Tg X.K g0 gd nt) (hi:PI X tg src (dX X.K Ξ it))
  (hY:∀(cl:List (Str×Addr)) (C:Addr) (s:Y4) (H:Hp) (ex:List Addr) (pn:List (Addr×Obj)),PG (fb X N sc cl C s H ex pn) tg g0/\PF (fb X N sc cl C s H ex pn) tests (tT X.K cI ft)/\PE (fb X N sc cl C s H ex pn) el (tE X.K cI f))
  (Cq:X.N[i0]?=some x0:=by rfl) (Cr:Loc X.env.scope x0:=by first|exact aap rfl|exact Or.inr rfl)
  (hs:∀x,ZW src X.env x=pure x:=by intro _;rfl)
  (Cs:swapsWith (.ListComp el [⟨tg,src,tests,0⟩] sc ps) (some (.Name x0 pos')) pos.line X.env=pure true:=by rfl)
  (Ct:X.fn x0=true\/X.env.scope.names.lookup x0=some .local:=by first|exact .inl rfl|exact .inr rfl):PS X (.Assign [.Name x0 pos'] (.ListComp el [⟨tg,src,tests,0⟩] sc ps) pos) (tS X.K Ξ (aP (ba nt cap it gd ft f) (gN i0))) :=
 je (OY Cp Cq Cr hc S T.j9 hi hY hs Cs Ct) λD σ H h=>by
  have h2:=EW (te:=tE X.K Ξ f) D σ H (zg D σ H h);exact yk T.imp (λR R' i h=>yy R R' i h) (Fx σ H _ h2)
theorem FF (hc:X.calm=true) (S:mz X sc N nt cap) (T:Tg X.K g0 gd nt) (hi:PI X tg src (dX X.K Ξ it))
 (hY:∀(cl:List (Str×Addr)) (C:Addr) (s:Y4) (H:Hp) (ex:List Addr) (pn:List (Addr×Obj)),PG (fb X N sc cl C s H ex pn) tg g0/\PF (fb X N sc cl C s H ex pn) tests (tT X.K cI ft)/\PE (fb X N sc cl C s H ex pn) el (tE X.K cI f))
 (hs:∀x,ZW src X.env x=pure x:=by intro _;rfl):PE X (.ListComp el [⟨tg,src,tests,0⟩] sc ps) (tE X.K Ξ (rG nt cap it gd ft f)) :=
 cG (FE hc S T.j9 hi hY hs) fun σ H Q h=>yk T.imp (λR R' i h=>yy R R' i h) (Nt σ H Q h)
end
end DI
namespace L2
open PySem PySem.Spec PyProof.Rows
section
variable {X:Cx} {tg:Expr}
theorem Gz (h:-1<=i):aa1 i (-1) (-1)=i+1:=by
 unfold aa1;simp;omega
noncomputable def Uz (ta:TA):TI:=fun σ H R=>ta σ H λvs H1=>∃i:Int,vs=[.int i,.int (-1),.int (-1)]/\-1<=i/\i<1000000/\R (wN (i+1).toNat) H1
theorem NC {a b c:Expr} {ta:TA} {p pos:Pos} (hg:Gl X "range") (hm:X.mg "range"=none) (ha:PA X [a,b,c] ta) (hs:Zp [a,b,c] X.env=[(false,eval a X.env),(false,eval b X.env),(false,eval c X.env)]:=by rfl) (eG:Zp [b,c] X.env=[(false,eval b X.env),(false,eval c X.env)]:=by rfl) :
  PI X tg (.Call (.Name "range" p) [a,b,c] [] pos) (Uz ta):=by
 intro pins s σ H R I h;refine Call_ (lq I hg hm boot_range (aak (aF (ha pos pins s σ H _ I h) λus s1 aB=>?_) (by rw[hs,eG]) (by rw[eG];rfl)));obtain⟨vs,H1,I1,r1,q1⟩:=aB;obtain⟨i,e,q1,q2,q⟩:=q1;subst e
 cases r1 with
 |cons r rr =>
  cases rr with
  |cons r' rr =>
   cases rr with
   |cons WY rr =>
    cases rr;obtain⟨t,rfl⟩:=r;obtain⟨t',rfl⟩:=r';obtain⟨xI,rfl⟩:=WY;refine call_range_3 (by decide) ?_ (.inl (PyProof.noPylong_small (by omega)));refine wpAny_pyIter_range (IsRange.new ..) ?_ ?_
    ·unfold Builtin.Range.small
     rw[Gz q1];simp only[aac,Y3,aa9,decide_eq_true_eq,beq_iff_eq,show ¬ (-1:Int) > 0 by decide,if_false];omega
    ·have I2:Inv X pins σ H1 { s1 with heap:=s1.heap.push { cls:=.type "range",data:=.fields #[.int i t,.int (-1) t',.int (-1) xI] },toks:=s1.toks }:=I1.kept λb o e=>YY _ e
     rw[Gz q1];refine⟨(s1.heap.push { cls:=.type "range",data:=.fields #[.int i t,.int (-1) t',.int (-1) xI] }).objs.size,[(s1.heap.push { cls:=.type "range",data:=.fields #[.int i t,.int (-1) t',.int (-1) xI] }).objs.size],_,_,H1,rfl,
      I2.kept (t':=s1.toks) λb o e=>YY _ e,Fu _ (i+1).toNat,?_,λb hb=>?_,q⟩
     ·have e1:(((i+1).toNat:Nat):Int)-1+((0:Nat):Int)*(-1)=i:=by simp;omega
      have e2:(((i+1).toNat:Nat):Int)-((0:Nat):Int)=i+1:=by simp;omega
      show IsRangeIter _ _ ((((i+1).toNat:Nat):Int)-1+((0:Nat):Int)*(-1)) ((((i+1).toNat:Nat):Int)-((0:Nat):Int)) (-1);rw[e1,e2];exact Y6 _ rfl
     ·have e:b=(s1.heap.push { cls:=.type "range",data:=.fields #[.int i t,.int (-1) t',.int (-1) xI] }).objs.size:=by simpa using hb
      subst e;exact I2.ow (Nat.le_refl _) (I2.aG.fresh (Nat.le_refl _))
end
end L2
namespace DI
open PySem L2
section
variable {X:Cx} {Ξ:Wd->bH->Prop} {a b c tg:Expr} {pos:Pos} {fa:Env->ag->Res (List D)}
noncomputable def Cu (fa:Env->ag->Res (List D)):Env->ag->Res (List D):=λenv s=>au (fa env s) λds s=>match ds with
 | [.int i,.int (-1),.int (-1)]=>if (decide (-1<=i)&&decide (i<1000000))=true then ok (oq (i+1).toNat) s else none
 |_=>none
theorem SE {p:Pos} (hg:Gl X "range") (hm:X.mg "range"=none) (ha:PA X [a,b,c] (tA X.K Ξ fa)) (hs:Zp [a,b,c] X.env=[(false,eval a X.env),(false,eval b X.env),(false,eval c X.env)]:=by rfl) (eG:Zp [b,c] X.env=[(false,eval b X.env),(false,eval c X.env)]:=by rfl):PI X tg (.Call (.Name "range" p) [a,b,c] [] pos) (dX X.K Ξ (Cu fa)) :=
 nY (NC hg hm ha hs eG) fun σ H R aB=>by
  obtain⟨w,env,eH,S,eo,h⟩:=aB;subst eH;refine⟨w,env,rfl,S,eo,(Out.au h).mono λw1 ds l1 S1 h1 vs ar=>?_⟩;split at h1
  ·rename_i i
   split at h1
   ·rename_i hj
    simp only[Y3,decide_eq_true_eq] at hj;obtain⟨v,r,rfl,dv,v2,r2,rfl,j8,v3,r3,rfl,BQ,dr⟩:=ar;have e1:v=.int i:=dv;have e2:v2=.int (-1):=j8;have e3:v3=.int (-1):=BQ;have e4:r3=[]:=dr;subst e1 e2 e3 e4;exact⟨i,rfl,hj.1,hj.2,aK S1 h1 _ HC⟩
   ·exact h1.elim
  ·exact h1.elim
end
end DI
namespace L2
open PySem PySem.Spec PyProof.Rows
section
variable {X:Cx}
end
end L2
namespace DI
open PySem L2
section
variable {X:Cx} {Ξ:Wd->bH->Prop} {a:Expr} {p pos:Pos} {fa:Env->ag->Res (List D)}
end
end DI
namespace DI
open PySem L2
section
variable {X:Cx} {Ξ:Wd->bH->Prop} {a:Expr} {p pos:Pos} {f g:Env->ag->Res D} {fa:Env->ag->Res (List D)}
theorem aw.erase:∀{ds:List D} {xs:List V} (j:Nat),aw K w ds xs->aw K w (ds.eraseIdx j) (xs.eraseIdx j)
 | [],xs,j,h=>by
  have e:xs=[]:=h;subst e;exact h
 |d::ds,xs,0,h=>by
  obtain⟨v,r,rfl,_,dr⟩:=h;exact dr
 |d::ds,xs,j+1,h=>by
  obtain⟨v,r,rfl,dv,dr⟩:=h;exact⟨v,r.eraseIdx j,rfl,dv,aw.erase j dr⟩
end
end DI
namespace DI
open PySem L2 HT PyProof.Rows
section
variable {X:Cx} {Ξ:Wd->bH->Prop}
theorem ND (h:Vals xs us):∀{q:List Nat},(∀i∈q,i<us.length)->Vals (q.map λi=>xs.getD i .aA) (q.map λi=>us.getD i Value.none):=by
 intro q
 induction q with
 |nil=>intro _;exact .nil
 |cons i q ih =>
  intro hq;refine .cons ?_ (ih λj hj=>hq j (Zd _ hj));have hi:=hq i Zb;clear ih hq
  induction h generalizing i with
  |nil=>simp at hi
  |cons a _ ih =>
   cases i with
   |zero=>exact a
   |succ i=>simpa using ih i (by simpa using hi)
theorem OZ {K:Frag} {w:Wd} {ds:List D} {xs:List V} (h:aw K w ds xs):∀{q:List Nat},(∀i∈q,i<ds.length)->aw K w (q.map λi=>ds.getD i .aA) (q.map λi=>xs.getD i .aA):=by
 intro q
 induction q with
 |nil=>intro _;exact rfl
 |cons i q ih =>
  intro hq;have hi:=hq i Zb;obtain⟨v,e,dv⟩:=h.get' i _ (Y8 hi);refine⟨_,_,rfl,?_,ih λj hj=>hq j (Zd _ hj)⟩;have e1:ds.getD i .aA=ds[i]:=by simp[hi]
  have e2:xs.getD i .aA=v:=by simp[e]
  show DV K w (ds.getD i .aA) (xs.getD i .aA);rw[e1,e2];exact dv
theorem O0 {α:Type} {O:ST.Ord α} {ks:List α} {f:α->D} {d:α} {q:Array Nat} (hp:ST.Pm ks.length q) (hu:ST.Up O (ST.ky (λi=>ks.getD i d) q) ks.length):q.toList.map (λi=>(ks.map f).getD i .aA)=(ST.ji O ks).map f:=by
 rw[<- ST.Nz hp hu,Z7];refine acn λi hi=>?_;have:i<ks.length:=ZO.mp (hp.2.mem_iff.mp hi);simp[this]
end
end DI
namespace TK
open PySem PySem.W PyProof.Rows DI
mutual
noncomputable def kd:D->Bool
 | .int _=>true
 | .str x=>ac5 x
 | .tup ks=>cW ks
 |_=>false
noncomputable def cW:List D->Bool
 | []=>true
 |k::ks=>kd k&&cW ks
end
mutual
noncomputable def KA (h:Heap):D->Value->Prop
 | .int i,v=>∃t,v=.int i t
 | .str x,v=>∃t,v=.str x t
 | .tup ks,v=>∃a o its n,v=.ref a/\h.get? a=some o/\o.cls=.type "tuple"/\o.data=.seq its n/\cX h ks its.toList
 |_,_=>False
noncomputable def cX (h:Heap):List D->List Value->Prop
 | [],vs=>vs=[]
 |k::ks,vs=>∃v r,vs=v::r/\KA h k v/\cX h ks r
end
mutual
theorem nZ:∀k:D,kd k=true->lay k=true
 | .int _,_=>rfl
 | .str _,h=>h
 | .tup ks,h=>by simp only[kd] at h;simp only[lay];exact vi ks h
 | .aA,h=>by cases h
 | .bl _,h=>by cases h
 | .lst _,h=>by cases h
 | .aW _,h=>by cases h
 | .aj _,h=>by cases h
 | .ty _,h=>by cases h
 | .bG _,h=>by cases h
theorem vi:∀ks:List D,cW ks=true->cO ks=true
 | [],_=>rfl
 |k::ks,h=>by
  simp only[cW,cO,Y3] at h |-;exact⟨nZ k h.1,vi ks h.2⟩
end
mutual
theorem qc:∀x y:D,kd x=true->kd y=true->(beq x y=true↔x=y)
 | .int i,.int j,_,_=>by simp[beq]
 | .str i,.str j,_,_=>by simp[beq]
 | .tup xs,.tup ys,h,g=>by
  simp only[kd] at h g;simp only[beq,yH xs ys h g];exact⟨λe=>by rw[e],λe=>by injection e⟩
 | .int _,.str _,_,_=>by simp[beq]
 | .int _,.tup _,_,_=>by simp[beq]
 | .str _,.int _,_,_=>by simp[beq]
 | .str _,.tup _,_,_=>by simp[beq]
 | .tup _,.int _,_,_=>by simp[beq]
 | .tup _,.str _,_,_=>by simp[beq]
 | .aA,_,h,_=>by cases h
 | .bl _,_,h,_=>by cases h
 | .lst _,_,h,_=>by cases h
 | .aW _,_,h,_=>by cases h
 | .aj _,_,h,_=>by cases h
 | .ty _,_,h,_=>by cases h
 | .bG _,_,h,_=>by cases h
 |_,.aA,_,h=>by cases h
 |_,.bl _,_,h=>by cases h
 |_,.lst _,_,h=>by cases h
 |_,.aW _,_,h=>by cases h
 |_,.aj _,_,h=>by cases h
 |_,.ty _,_,h=>by cases h
 |_,.bG _,_,h=>by cases h
theorem yH:∀xs ys:List D,cW xs=true->cW ys=true->(fI xs ys=true↔xs=ys)
 | [],[],_,_=>by simp[fI]
 | [],_::_,_,_=>by simp[fI]
 |_::_,[],_,_=>by simp[fI]
 |x::xs,y::ys,h,g=>by
  simp only[cW,Y3] at h g;simp only[fI,Y3,qc x y h.1 g.1,yH xs ys h.2 g.2,acD]
end
mutual
theorem KA.reads:∀(k:D) (v:Value),KA h k v->∃as,Reads h v (py k) as
 | .int i,v,q=>by obtain⟨t,rfl⟩:=q;exact⟨_,.int i t⟩
 | .str x,v,q=>by obtain⟨t,rfl⟩:=q;exact⟨_,.str x t⟩
 | .tup ks,v,q=>by
  simp only[KA] at q;obtain⟨a,o,its,n,rfl,ho,hc,hd,r⟩:=q;obtain⟨as,r⟩:=cX.reads ks _ r;exact⟨as,.tuple ho hc hd r⟩
 | .aA,_,q=>by cases q
 | .bl _,_,q=>by cases q
 | .lst _,_,q=>by cases q
 | .aW _,_,q=>by cases q
 | .aj _,_,q=>by cases q
 | .ty _,_,q=>by cases q
 | .bG _,_,q=>by cases q
theorem cX.reads:∀(ks:List D) (vs:List Value),cX h ks vs->∃as,ReadsAll h vs (cy ks) as
 | [],vs,q=>by cases q;exact⟨_,.nil⟩
 |k::ks,vs,q=>by
  obtain⟨v,r,rfl,h1,h2⟩:=q;obtain⟨as,h1⟩:=KA.reads k v h1;obtain⟨bs,h2⟩:=cX.reads ks r h2;exact⟨_,.cons h1 h2⟩
end
theorem SF (q:KA h y (.int i t)):y=.int i:=by
 cases y with
 |int j=>obtain⟨_,e⟩:=q;cases e;rfl
 |str j=>obtain⟨_,e⟩:=q;cases e
 |tup ks=>simp only[KA] at q;obtain⟨_,_,_,_,e,_⟩:=q;cases e
 |_=>cases q
theorem SG (q:KA h y (.str i t)):y=.str i:=by
 cases y with
 |str j=>obtain⟨_,e⟩:=q;cases e;rfl
 |int j=>obtain⟨_,e⟩:=q;cases e
 |tup ks=>simp only[KA] at q;obtain⟨_,_,_,_,e,_⟩:=q;cases e
 |_=>cases q
theorem SH (q:KA h y (.ref a)):∃ks o its n,y=.tup ks/\h.get? a=some o/\o.cls=.type "tuple"/\o.data=.seq its n/\cX h ks its.toList:=by
 cases y with
 |str j=>obtain⟨_,e⟩:=q;cases e
 |int j=>obtain⟨_,e⟩:=q;cases e
 |tup ks =>
  simp only[KA] at q;obtain⟨_,o,its,n,e,r⟩:=q;cases e;exact⟨ks,o,its,n,rfl,r⟩
 |_=>cases q
mutual
theorem KA.inj:∀(x y:D) (v:Value),KA h x v->KA h y v->x=y
 | .int i,y,v,p,q=>by
  obtain⟨t,rfl⟩:=p;exact(SF q).symm
 | .str i,y,v,p,q=>by
  obtain⟨t,rfl⟩:=p;exact(SG q).symm
 | .tup xs,y,v,p,q=>by
  simp only[KA] at p;obtain⟨a,o,its,n,rfl,ho,hc,hd,r⟩:=p;obtain⟨ks,o',its',n',rfl,cP,iD,gp,r'⟩:=SH q;cases ho.symm.trans cP;cases hd.symm.trans gp;rw[cX.inj xs _ _ r r']
 | .aA,_,_,q,_=>by cases q
 | .bl _,_,_,q,_=>by cases q
 | .lst _,_,_,q,_=>by cases q
 | .aW _,_,_,q,_=>by cases q
 | .aj _,_,_,q,_=>by cases q
 | .ty _,_,_,q,_=>by cases q
 | .bG _,_,_,q,_=>by cases q
theorem cX.inj:∀(xs ys:List D) (vs:List Value),cX h xs vs->cX h ys vs->xs=ys
 | [],ys,vs,p,q=>by
  cases p
  cases ys with
  |nil=>rfl
  |cons y ys=>obtain⟨_,_,e,_⟩:=q;cases e
 |x::xs,ys,vs,p,q=>by
  obtain⟨v,r,rfl,h1,h2⟩:=p
  cases ys with
  |nil=>cases q
  |cons y ys =>
   obtain⟨v',r',e,g1,g2⟩:=q;cases e;rw[KA.inj x y v h1 g1,cX.inj xs ys r h2 g2]
end
mutual
theorem KA.keep (hk:∀a o,h.get? a=some o->o.cls=.type "tuple"->(∃its n,o.data=.seq its n)->h'.get? a=some o):∀(x:D) (v:Value),KA h x v->KA h' x v
 | .int i,v,p=>p
 | .str i,v,p=>p
 | .tup xs,v,p=>by
  simp only[KA] at p |-;obtain⟨a,o,its,n,e,ho,hc,hd,r⟩:=p;exact⟨a,o,its,n,e,hk a o ho hc ⟨its,n,hd⟩,hc,hd,cX.keep hk xs _ r⟩
 | .aA,_,q=>by cases q
 | .bl _,_,q=>by cases q
 | .lst _,_,q=>by cases q
 | .aW _,_,q=>by cases q
 | .aj _,_,q=>by cases q
 | .ty _,_,q=>by cases q
 | .bG _,_,q=>by cases q
theorem cX.keep (hk:∀a o,h.get? a=some o->o.cls=.type "tuple"->(∃its n,o.data=.seq its n)->h'.get? a=some o):∀(xs:List D) (vs:List Value),cX h xs vs->cX h' xs vs
 | [],vs,p=>p
 |x::xs,vs,p=>by
  obtain⟨v,r,e,h1,h2⟩:=p;exact⟨v,r,e,KA.keep hk x v h1,cX.keep hk xs r h2⟩
end
theorem GA (h:k∈ks):dep k<=cB ks:=by
 induction ks with
 |nil=>cases h
 |cons x xs ih =>
  simp only[cB]
  rcases Zh.mp h with rfl|h
  ·exact Nat.le_max_left _ _
  ·exact Zo (ih h) (ac8 _ _)
mutual
noncomputable def hs (w:World):D->Int
 | .int i=>hashInt i
 | .str x=>hashStr w x
 | .tup ks=>reduceHash (ace (kP w ks))
 |_=>0
noncomputable def kP (w:World):List D->List Int
 | []=>[]
 |k::ks=>hs w k::kP w ks
end
mutual
noncomputable def dr:D->Nat
 | .int _=>1
 | .str _=>1
 | .tup ks=>ke ks+1
 |_=>0
noncomputable def ke:List D->Nat
 | []=>0
 |k::ks=>dr k+ke ks
end
theorem GB (w:World) (xs ys:List D):kP w (xs++ys)=kP w xs++kP w ys:=by
 induction xs with
 |nil=>rfl
 |cons x xs ih=>simp only[aaf,kP,ih]
theorem GC (xs ys:List D):ke (xs++ys)=ke xs+ke ys:=by
 induction xs with
 |nil=>simp[ke]
 |cons x xs ih=>simp only[aaf,ke,ih,adh]
section
variable {prog:ZE} {w:World}
theorem O1 (hu:A.units<cLine) (ho:s.heap.get? a=some o) (hc:o.cls=.type "tuple") (hd:o.data=.seq items m) (hi:cX s.heap ks items.toList)
 (ih:∀k∈ks,∀(A':ZX) (s':Y4) (v:Value) (E':Value->Y4->Prop) (Q':Int->Y4->Prop),A'.units<=A.units+1->KA s'.heap k v->Q' (hs w k) { s' with toks:=s'.toks+dr k }->wpAny (model prog w) A' (pyHash v) Q' E' s')
 (h:Q (hs w (.tup ks)) { s with toks:=s.toks+dr (.tup ks) }):wpAny (model prog w) A (pyHash (.ref a)) Q E s:=by
 have hT:s.TypeIs (.ref a) "tuple":=⟨o,ho,hc⟩;unfold pyHash
 first|unfold pyHashByItsType|skip
 first|refine YX (wpAny_cRoomFor_or (.inr hu) ?_)|skip
 refine YX (adp hT acT.lookup ?_)
 show wpAny _ _ (if (some (Value.builtin "tuple.__hash__")==some Value.none)=true then _ else _) Q E s
 rw[if_neg (by rw[beq_builtin_none];exact Y7)];refine YX (adp hT acT.lookup ?_);show wpAny _ _ (callSpecialIfBoundUnlessNone? (.ref a) "__hash__" _ >>= _) Q E s;refine YX (wpAny_callSpecialIfBoundUnlessNone?_slot hT acT (ZI acT hT F.entry_tuple_hash ?_ (F.args_tuple_hash_1 _)));show wpAny _ _ (aaP (.ref a) >>= _) _ _ s;refine YX (wpAny_tupleItemsOf ho hd ?_);refine YX ?_;rw[<- Array.forIn_toList];refine wpAny_forIn_list _
  (λrest (b:Array Int) s'=>∃done left,ks=done++left/\cX s.heap left rest/\b.toList=kP w done/\s'={ s with toks:=s.toks+ke done })
  _ ?_ ?_ _ _ ⟨[],ks,rfl,hi,rfl,rfl⟩
 ·rintro x rest b s' ⟨done,left,e,hl,hb,rfl⟩
  cases left with
  |nil=>cases hl
  |cons k left =>
   obtain⟨x',r',ex,h1,l8⟩:=hl;cases ex
   refine YX (ih k (by rw[e];simp) _ { s with toks:=s.toks+ke done } _ _ _ ?_ h1 ?_)
   ·exact Nat.le_refl _
   ·first
     |exact YZ ⟨done++[k],left,by simp[e],l8,by simp[hb,GB,kP],by simp[adh,GC,ke]⟩
     |exact YX (YZ (YZ ⟨done++[k],left,by simp[e],l8,by simp[hb,GB,kP],by simp[adh,GC,ke]⟩))
 ·rintro b s' ⟨done,left,e,hl,hb,rfl⟩
  cases left with
  |cons k left=>obtain⟨_,_,ex,_⟩:=hl;cases ex
  |nil =>
  rw[aa8] at e;subst e;simp only[hs,dr] at h;show wpAny _ _ (retInt (ace b.toList)) _ _ _;rw[hb];generalize ace (kP w ks)=z at h |-;refine wpAny_ret_mkInt ?_
  show wpAny _ _ (if (decide (-(2:Int) ^ 63<=z)&&decide (z<2 ^ 63))=true then _ else _) Q E _
  unfold reduceHash at h;by_cases hr:(decide (-(2:Int) ^ 63<=z)&&decide (z<2 ^ 63))=true
  ·rw[if_pos hr]
   rw[if_pos hr] at h;exact YZ (by simpa [adh] using h)
  ·rw[if_neg hr]
   rw[if_neg hr] at h;exact YX (aa5 (YZ (by simpa [adh] using h)))
theorem QJ:∀(n:Nat) (k:D),dep k<=n->∀(A:ZX) (s:Y4) (v:Value) (E:Value->Y4->Prop) (Q:Int->Y4->Prop),KA s.heap k v->A.units+n<cLine->Q (hs w k) { s with toks:=s.toks+dr k }->wpAny (model prog w) A (pyHash v) Q E s:=by
 intro n
 induction n with
 |zero =>
  intro k hn A s v E Q q hu h
  cases k with
  |int i=>obtain⟨t,rfl⟩:=q;exact wpAny_pyHash_int h
  |str i=>obtain⟨t,rfl⟩:=q;exact wpAny_pyHash_str h
  |tup ks=>simp[dep] at hn
  |_=>cases q
 |succ n ih =>
  intro k hn A s v E Q q hu h
  cases k with
  |int i=>obtain⟨t,rfl⟩:=q;exact wpAny_pyHash_int h
  |str i=>obtain⟨t,rfl⟩:=q;exact wpAny_pyHash_str h
  |tup ks =>
   simp only[dep] at hn;simp only[KA] at q;obtain⟨a,o,items,m,rfl,ho,hc,hd,hi⟩:=q;exact O1 (by omega) ho hc hd hi (λk hk A' s' v E' Q' hA q' h'=>ih k (by have:=GA hk;omega) A' s' v E' Q' q' (by omega) h') h
  |_=>cases q
theorem O2:∀(n:Nat) (k:D),dep k<=n->∀{A:ZX} {s:Y4} {v:Value} {E:Value->Y4->Prop} {Q:Bool->Y4->Prop},KA s.heap k v->Q true s->wpAny (model prog w) A (eqIsQuiet n v) Q E s:=by
 intro n
 induction n with
 |zero =>
  intro k hn A s v E Q q h
  cases k with
  |int i=>obtain⟨t,rfl⟩:=q;rw[acU _ rfl];exact YZ h
  |str i=>obtain⟨t,rfl⟩:=q;rw[acU _ rfl];exact YZ h
  |tup ks=>simp[dep] at hn
  |_=>cases q
 |succ n ih =>
  intro k hn A s v E Q q h
  cases k with
  |int i=>obtain⟨t,rfl⟩:=q;rw[acU _ rfl];exact YZ h
  |str i=>obtain⟨t,rfl⟩:=q;rw[acU _ rfl];exact YZ h
  |tup ks =>
   simp only[dep] at hn;simp only[KA] at q;obtain⟨a,o,items,m,rfl,ho,hc,hd,hi⟩:=q;have hT:s.TypeIs (.ref a) "tuple":=⟨o,ho,hc⟩;unfold eqIsQuiet;refine YX (adp hT F.slot_tuple_eq.lookup ?_);show wpAny _ _ (isInstance (.ref a) (.type "tuple") >>= _) _ _ s;refine YX (abI hT isSubtype_tuple_tuple ?_);simp only[Zr,Y2,if_false];refine YX (aaC ho hd ?_);refine YX ?_;show wpAny _ _ (forIn items _ _) _ _ s;rw[<- Array.forIn_toList];refine wpAny_forIn_list _ (λrest r s'=>r.1=none/\s'=s/\∃left,cX s.heap left rest/\∀k∈left,dep k<=n) _ ?_ ?_ _ _ ⟨rfl,rfl,ks,hi,λk hk=>by have:=GA hk;omega⟩
   ·rintro v rest r s' ⟨hr,rfl,left,hl,cw⟩
    cases left with
    |nil=>cases hl
    |cons k left =>
     obtain⟨x',r',ex,h1,l8⟩:=hl;cases ex;refine YX (ih k (cw k Zb) h1 ?_);simp only[Zr,Y2,if_false];exact YZ ⟨rfl,rfl,left,l8,λu WZ=>cw u (Zd _ WZ)⟩
   ·rintro ⟨r1,r2⟩ s' ⟨hr,rfl,_⟩
    simp only at hr;subst hr;exact YZ h
  |_=>cases q
def xJ (h:Heap) (ks:List D) (a:Addr):Prop:=cW ks=true/\cB ks<=6/\KA h (.tup ks) (.ref a)
noncomputable instance YA:DecidableEq (List D):=λa b=>Classical.propDecidable (a=b)
theorem SI (hu:A.units+10<cLine) (hx:xJ s.heap x a) (hy:xJ s.heap y b) (h:Q (decide (x=y)) s):wpAny (model prog w) A (PySem.eqBool (.ref a) (.ref b)) Q E s:=by
 obtain⟨k1,d1,r1⟩:=hx;obtain⟨k2,d2,r2⟩:=hy;obtain⟨as,r1⟩:=KA.reads _ _ r1;obtain⟨bs,r2⟩:=KA.reads _ _ r2;have l1:lay (.tup x)=true:=by simp only[lay];exact vi x k1
 have l2:lay (.tup y)=true:=by simp only[lay];exact vi y k2
 obtain⟨p1,p2⟩:=jF _ l1;obtain⟨q1,q2⟩:=jF _ l2;have e:=SeqAt.eqAt_reads _ _ A s _ _ as bs r1 r2 p1 q1 (by rw[p2,q2];simp only[dep];omega);rw[qb _ _ l1 l2] at e;refine e prog w E Q ?_;have:beq (.tup x) (.tup y)=decide (x=y):=by
  have:=yH x y k1 k2;simp only[beq]
  cases hb:fI x y with
  |true=>exact(decide_eq_true (this.mp hb)).symm
  |false=>exact(decide_eq_false λz=>by rw[this.mpr z] at hb;cases hb).symm
 rw[this];exact h
noncomputable def kind (prog:ZE) (w:World):HeapKind prog w (List D) where
 is:=xJ
 hash:=λks=>hs w (.tup ks)
 draws:=λks=>dr (.tup ks)
 room:=λA=>A.units+10<cLine
 inj:=λhx hy=>by have:=KA.inj _ _ _ hx.2.2 hy.2.2;injection this
 keeps:=λ{h h' k a d o es ep} x ho hd hs=>⟨x.1,x.2.1,KA.keep (λb u hb hc hq=>(hs.2 b (λe=>by
  subst e;rw[ho] at hb;cases hb;obtain⟨_,_,hq⟩:=hq;rw[hd] at hq;cases hq)).trans hb) _ _ x.2.2⟩
 pyHash:=λhu hk h=>QJ 7 _ (by simp only[dep];have:=hk.2.1;omega) _ _ _ _ _ hk.2.2 (by omega) h
 eqBool:=λhu hx hy h=>SI hu hx hy h
 quiet:=λhk h=>O2 8 _ (by simp only[dep];have:=hk.2.1;omega) hk.2.2 h
end
end TK
namespace TK
open PySem PySem.W PyProof.Rows DI L2
theorem DX.gG (h1 h2:Heap) (h:DX a es h1) (k:∀o,h1.get? a=some o->h2.get? a=some o):DX a es h2:=by
 obtain⟨z,o,xs,ep,ho,r⟩:=h;exact⟨z,o,xs,ep,k o ho,r⟩
theorem IF (x:DX a es h):cL P w H h a (.ext (DX a es)):=by
 obtain⟨z,o,xs,ep,ho,r⟩:=id x;exact⟨x,⟨o,ho⟩,DX.gG⟩
def AllK (w:World) (ao:List (D×Int)):Prop:=∀p∈ao,∃ks,p.1=.tup ks/\cW ks=true/\cB ks<=6/\p.2=hs w p.1
noncomputable def its:D->List D
 | .tup ks=>ks
 |_=>[]
noncomputable def XS:List (D×Int)->List Addr->List (List D×Addr×Value)
 |p::r,a::as=>(its p.1,a,.bool true)::XS r as
 |_,_=>[]
theorem SJ:∀{as:List Addr},ao.length=as.length->∀(p:D×Int) (a:Addr),XS (ao++[p]) (as++[a])=XS ao as++[(its p.1,a,.bool true)]:=by
 induction ao with
 |nil =>
  intro as e p a
  cases as with
  |nil=>rfl
  |cons _ _=>simp at e
 |cons q r ih =>
  intro as e p a
  cases as with
  |nil=>simp at e
  |cons b as =>
   simp only[aaf,XS];rw[ih (by simpa using e)]
theorem SK:∀{as:List Addr},ao.length=as.length->(XS ao as).length=ao.length:=by
 induction ao with
 |nil=>intro as e;cases as<;>rfl
 |cons q r ih =>
  intro as e
  cases as with
  |nil=>simp at e
  |cons b as=>simp only[XS,Zz,ih (by simpa using e)]
theorem GD:∀{as:List Addr},AllK w ao->ao.length=as.length->(XS ao as).map (λx=>D.tup x.1)=ao.map (·.1):=by
 induction ao with
 |nil=>intro as _ e;cases as<;>rfl
 |cons q r ih =>
  intro as k e
  cases as with
  |nil=>simp at e
  |cons b as =>
   obtain⟨ks,e1,_⟩:=k q Zb;simp only[XS,Zl,ih (λp hp=>k p (Zd _ hp)) (by simpa using e),e1,its]
theorem FG:∀{as:List Addr},AllK w ao->ao.length=as.length ->
  (((ao.map (·.2)).zip as).map λp=>(⟨p.1,.ref p.2,.bool true⟩:ady))=(XS ao as).map (entryOfKey (kind P w)):=by
 induction ao with
 |nil=>intro as _ e;cases as<;>rfl
 |cons q r ih =>
  intro as k e
  cases as with
  |nil=>simp at e
  |cons b as =>
   obtain⟨ks,e1,_,_,e2⟩:=k q Zb;simp only[XS,Zl,aau,ih (λp hp=>k p (Zd _ hp)) (by simpa using e)];rw[e2,e1];rfl
section
variable {X:Cx} {pins:List (Addr×Obj)} {σ:L2.St} {s:Y4} {w:Wd}
mutual
theorem Aw (I:Inv X pins σ w.H s):∀(d:D) (v:V) (u:Value),kd d=true->DI.DV X.K w d v->RelV v u->KA s.heap d u
 | .int i,v,u,_,h,r=>by cases h;exact r
 | .str x,v,u,_,h,r=>by cases h;exact r
 | .tup ds,v,u,k,h,r=>by
  simp only[DI.DV] at h;obtain⟨a,xs,rfl,hq,dv⟩:=h;cases r;obtain⟨its,r1,⟨o,ho,hc,n,hd⟩,_⟩:=I.tuple hq;simp only[kd] at k;simp only[KA];exact⟨a,o,_,n,rfl,ho,hc,hd,zN I ds xs _ k dv (by simpa using r1)⟩
 | .aA,_,_,k,_,_=>by cases k
 | .bl _,_,_,k,_,_=>by cases k
 | .lst _,_,_,k,_,_=>by cases k
 | .aW _,_,_,k,_,_=>by cases k
 | .aj _,_,_,k,_,_=>by cases k
 | .ty _,_,_,k,_,_=>by cases k
 | .bG _,_,_,k,_,_=>by cases k
theorem zN (I:Inv X pins σ w.H s):∀(ds:List D) (vs:List V) (us:List Value),cW ds=true->DI.aw X.K w ds vs->Vals vs us->cX s.heap ds us
 | [],vs,us,_,h,r=>by cases h;cases r;rfl
 |d::ds,vs,us,k,h,r=>by
  obtain⟨v,r',rfl,h1,h2⟩:=h;simp only[cW,Y3] at k
  cases r with
  |cons r rs=>exact⟨_,_,rfl,Aw I d v _ k.1 h1 r,zN I ds r' _ k.2 h2 rs⟩
end
theorem UA (I:Inv X pins σ w.H s):∀{ao:List (D×Int)} {as:List Addr},AllK W ao->DI.aw X.K w (ao.map (·.1)) (as.map V.ref)->∀x∈XS ao as,xJ s.heap x.1 x.2.1:=by
 intro ao
 induction ao with
 |nil =>
  intro as _ _ x hx
  cases as<;>cases hx
 |cons q r ih =>
  intro as k dv x hx
  cases as with
  |nil=>cases hx
  |cons b as =>
   obtain⟨v,r',e,h1,h2⟩:=dv
   injection e with e1 e2
   subst e1 e2;obtain⟨ks,e1,k1,k2,_⟩:=k q Zb
   rcases Zh.mp hx with rfl|hx
   ·refine⟨by simpa only [e1,its] using k1,by simpa only [e1,its] using k2,?_⟩
    have h1:DI.DV X.K w q.1 (V.ref b):=h1;rw[e1] at h1;simpa only [e1,its] using Aw I (.tup ks) (.ref b) (.ref b) (by simpa only [kd] using k1) h1 rfl
   ·exact ih (λp hp=>k p (Zd _ hp)) h2 x hx
end
noncomputable def fK (w:World) (ao:List (D×Int)) (k:D):List (D×Int):=if (ao.any λp=>beq p.1 k)=true then ao else ao++[(k,hs w k)]
noncomputable def keyOk (w:World) (p:D×Int):Bool:=match p.1 with
 | .tup ks=>cW ks&&decide (cB ks<=6)&&decide (p.2=hs w p.1)
 |_=>false
theorem NF (h:ao.all (keyOk w)=true):AllK w ao:=λp hp=>by
 have:=Zu.mp h p hp;unfold keyOk at this;split at this
 ·rename_i ks e
  simp only[Y3,decide_eq_true_eq] at this;exact⟨ks,e,this.1.1,this.1.2,this.2⟩
 ·cases this
theorem mq (k:AllK w ao) (hk:cW ks=true):(ao.any λp=>beq p.1 (.tup ks))=true↔D.tup ks∈ao.map (·.1):=by
 rw[aaX,Zv];constructor
 ·rintro ⟨p,hp,hb⟩
  obtain⟨ls,e,k1,_⟩:=k p hp;refine⟨p,hp,?_⟩;exact(qc p.1 (.tup ks) (by rw[e];simpa only [kd] using k1) (by simpa only [kd] using hk)).mp hb
 ·rintro ⟨p,hp,e⟩
  exact⟨p,hp,by rw[e];exact(qc _ _ (by simpa only [kd] using hk) (by simpa only [kd] using hk)).mpr rfl⟩
theorem HF (k:AllK w ao) (e:ao.length=as.length) (ks:List D):ks∈(XS ao as).map (·.1)↔D.tup ks∈ao.map (·.1):=by
 rw[<- GD k e,Zv,Zv];exact⟨λ⟨x,hx,e⟩=>⟨x,hx,by rw[e]⟩,λ⟨x,hx,e⟩=>⟨x,hx,by injection e⟩⟩
theorem Lh {xs:List (List D×Addr×Value)} (h:∀x∈xs,x.2.2=Value.bool true) (k:List D):xs.map (putAt k (.bool true))=xs:=by
 induction xs with
 |nil=>rfl
 |cons x xs ih =>
  rw[Zl,ih λy hy=>h y (Zd _ hy)];congr 1;unfold putAt;split
  ·obtain⟨a,b,c⟩:=x
   have:=h (a,b,c) Zb;simp only at this;rw[this]
  ·rfl
theorem GF:∀(ao:List (D×Int)) (as:List Addr),∀x∈XS ao as,x.2.2=Value.bool true
 | [],as,x,h=>by cases as<;>cases h
 |p::r,[],x,h=>by cases h
 |p::r,a::as,x,h=>by
  rcases Zh.mp h with rfl|h
  ·rfl
  ·exact GF r as x h
theorem NG {w:World} {ao:List (D×Int)} {as:List Addr} (k:AllK w ao) (e:ao.length=as.length) {ks:List D} (hk:cW ks=true) (a:Addr) :
  storedH (XS ao as) ks a (.bool true)=XS (fK w ao (.tup ks)) (if (ao.any λp=>beq p.1 (.tup ks))=true then as else as++[a]):=by
 unfold fK;by_cases hm:(ao.any λp=>beq p.1 (.tup ks))=true
 ·rw[if_pos hm,if_pos hm]
  have i5:=(HF k e ks).mpr ((mq k hk).mp hm)
  cases h:atKey (XS ao as) ks with
  |none =>
   exfalso;obtain⟨x,hx,e'⟩:=Zv.mp i5;unfold atKey at h;rw[Option.map_eq_none_iff,List.find?_eq_none] at h;exact h x hx (decide_eq_true e')
  |some p=>rw[storedH_old h,Lh (GF ao as)]
 ·rw[if_neg hm,if_neg hm]
  have i5:ks∉(XS ao as).map (·.1):=λz=>hm ((mq k hk).mpr ((HF k e ks).mp z));have h:atKey (XS ao as) ks=none:=by
   unfold atKey;rw[Option.map_eq_none_iff,List.find?_eq_none];intro x hx z;exact i5 (Zv.mpr ⟨x,hx,of_decide_eq_true z⟩)
  rw[storedH_new h,SJ e];rfl
theorem O3 (k:AllK w ao) (hk:cW ks=true) (hd:cB ks<=6):AllK w (fK w ao (.tup ks)):=by
 unfold fK;split
 ·exact k
 ·intro p hp
  rcases Zq.mp hp with hp|hp
  ·exact k p hp
  ·rw[Zs.mp hp]
   exact⟨ks,rfl,hk,hd,rfl⟩
theorem MB (k:AllK w ao) (hk:cW ks=true) (h:(ao.map (·.1)).Nodup):((fK w ao (.tup ks)).map (·.1)).Nodup:=by
 unfold fK;split
 ·exact h
 ·rename_i hm
  rw[Z3,abY];refine⟨h,by simp,λa ha b hb=>?_⟩;have:b=.tup ks:=by simpa using hb
  rw[this];intro z;rw[z] at ha;exact hm ((mq k hk).mpr ha)
noncomputable def jX (w:World) (d k x:D) (s:ag):Option ag:=match d,k,x with
 | .aj j,.tup ks,.bl true=>match s[j]? with
  |some (.dT ao)=>if (cW ks&&decide (cB ks<=6)&&ao.all (keyOk w)&&decide (ao.length<Zf))=true then some (s.set j (.dT (fK w ao (.tup ks)))) else none
  |_=>none
 |_,_,_=>none
noncomputable def lP (w:World) (f o i:DI.Env->ag->Res D):DI.Env->ag->Res Fl:=λenv s=>au (f env s) λx s=>au (o env s) λd s=>au (i env s) λn s=>match jX w d n x s with
 |some s'=>ok (.nx env) s'
 |none=>none
noncomputable def wx:DI.Env->ag->Res D:=λ_ s=>ok (.aj s.length) (s++[.dT []])
section
variable {X:Cx} {Ξ:Wd->bH->Prop} {e o i:Expr} {pos hU:Pos} {f fo fi:DI.Env->ag->Res D}
theorem QK:PE X (.Dict [] [] pos) (λ_ H Q=>∀p,H p=none->Q (.ref p) (upd H p (.ext (DX p [])))):=λpins s σ H Q I h=>by
 refine wpAny_Dict_empty ⟨.ref s.heap.objs.size,_,I.laid (a:=s.heap.objs.size) (o:=.ext (DX s.heap.objs.size [])) (t':=s.toks) (λ_ _ q=>YY _ q) (Nat.le_refl _) (IF ?_),rfl,h _ (I.aG.fresh (Nat.le_refl _))⟩;have hb:=I.big;exact⟨by simp only[beq_eq_false_iff_ne,ne_eq];intro z;rw[z] at hb;exact ZF _ hb,_,#[],0,Y6 _ rfl,⟨rfl,rfl,rfl⟩,rfl,rfl⟩
theorem SM:PE X (.Dict [] [] pos) (tE X.K Ξ wx):=cG QK fun σ H Q aB=>by
 obtain⟨w,env,eH,S,eo,h⟩:=aB;subst eH;intro p hp;have le:=(Fw.cell (o:=.ext (DX p [])) (c:=.dT []) S hp).le (K:=X.K);refine h (w.cell p (.ext (DX p [])) (.dT [])) le (S.wo hp ⟨[],cF,rfl,adv⟩) rfl (.ref p) ⟨p,?_,rfl⟩;show (w.ρ++[p])[w.aJ.length]?=some p;rw[<- S.len];simp
noncomputable def UB (K:Frag) (W:World):wG:=λo i v H Q=>∃(w:Wd) (d b:Addr) (ao:List (D×Int)) (as:List Addr) (ks:List D),w.H=H/\o=.ref d/\i=.ref b/\v=.bl true/\H d=some (.ext (DX d ((ao.map (·.2)).zip as))) /\
 AllK W ao/\ao.length<Zf/\DI.aw K w (ao.map (·.1)) (as.map V.ref)/\(ao.map (·.1)).Nodup/\cW ks=true/\cB ks<=6/\DI.DV K w (.tup ks) (.ref b) /\
 Q (upd H d (.ext (DX d (((fK W ao (.tup ks)).map (·.2)).zip (if (ao.any λp=>beq p.1 (.tup ks))=true then as else as++[b])))))
theorem O4 {w:World} {ao:List (D×Int)} {as:List Addr} {ks:List D} {b:Addr} (e:ao.length=as.length):(fK w ao (.tup ks)).length=(if (ao.any λp=>beq p.1 (.tup ks))=true then as else as++[b]).length:=by
 unfold fK
 split<;>simp[e]
theorem UC (hr:cM k X.A):AN X (UB X.K X.w):=by
 rintro pins s σ H o i v ov iv u Q I ro ri rv ⟨w,d,b,ao,as,ks,rfl,rfl,rfl,rfl,hd,cw,hl,ar,nd,k1,k2,dk,q⟩;cases ro;cases ri;cases rv;have len:ao.length=as.length:=by have:=ar.length;simpa using this
 obtain⟨⟨hz,ob,es,ep,ho,hex,qB,xK⟩,_,_⟩:=I.aG _ _ hd;have hD:s.heap.DictOfH (kind X.prog X.w) d (XS ao as):=⟨ob,es,ep,ho,hex,qB,by rw[xK,FG cw len],UA I cw ar,by
  have:=GD cw len;rw[<- this] at nd;have e:(XS ao as).map (λx=>D.tup x.1)=((XS ao as).map (·.1)).map D.tup:=by rw[Z7];rfl
  rw[e] at nd;exact List.Pairwise.of_map D.tup (λa b h e=>h (by rw[e])) nd⟩
 have hu:X.A.units+100<cLine:=by have:=hr.un;have:cLine=9900:=rfl;omega
 refine wpAny_setItem_heap (hsz:=by rw[SK len];exact Nat.le_of_lt hl) (knd:=kind X.prog X.w) (show X.A.in1.units+10<cLine from ?_) ⟨k1,k2,Aw I (.tup ks) (.ref b) (.ref b) (by simpa only [kd] using k1) dk rfl⟩ hD λh' J4 hs=>⟨_,?_,q⟩
 ·have:X.A.in1.units<=X.A.units+1:=by first|exact Nat.le_refl _|exact acq _
  omega
 ·rw[NG cw len k1] at J4
  obtain⟨o',fT,sM,cP,VQ,UD,VR,_⟩:=J4;refine Gg I (by rw[hd];exact True.intro) hs ⟨o',cP⟩ (IF ⟨hz,o',fT,sM,cP,VQ,UD,?_⟩);rw[VR];exact(FG (O3 cw k1 k2) (O4 len)).symm
theorem HG (hW:X.w=W) (hr:cM k X.A) (he:PE X e (tE X.K Ξ f)) (ho:PE X o (tE X.K Ξ fo)) (hi:PE X i (tE X.K Ξ fi))
 (ha:∀v,acZ (.Subscript o i hU) X.env v=(do
   let ov <- abz [v] (eval o X.env)
   let iv <- abz [v,ov] (eval i X.env)
   acL hU
   abz [v,ov,iv] (setItem ov iv v)
   release [v,ov,iv] []):=by intro _;rfl)
 (hs:abk [.Subscript o i hU] e pos.line X.env=pure false:=by rfl) (hw:abl [.Subscript o i hU] e X.env=pure none:=by rfl)
 (h1:(abg [.Subscript o i hU] X.env).map (·.2)=[acZ (.Subscript o i hU) X.env]:=by rfl):PS X (.Assign [.Subscript o i hU] e pos) (tS X.K Ξ (lP W f fo fi)) :=
 je (v5 he (vZ ho hi (UC hr) ha) hs hw h1) λD0 σ H aB=>by
  subst hW;obtain⟨w,env,eH,S,eo,h⟩:=aB;subst eH;refine⟨w,env,rfl,S,eo,(Out.au h).mono λw1 x l1 S1 h1 u du=>?_⟩;refine⟨w1,env,rfl,S1,eo.le l1,(Out.au h1).mono λw2 d l2 S2 h2 v dv=>?_⟩;refine⟨w2,env,rfl,S2,eo.le (l1.trans l2),(Out.au h2).mono λw3 n l3 S3 h3 m dm=>?_⟩
  cases hd:jX X.w d n x w3.aJ with
  |none=>rw[hd] at h3;exact h3.elim
  |some s' =>
   rw[hd] at h3;unfold jX at hd;split at hd
   ·rename_i j ks
    split at hd
    ·rename_i ao hj
     split at hd
     ·rename_i hc
      simp only[Y3,decide_eq_true_eq] at hc;obtain⟨⟨⟨k1,k2⟩,k3⟩,k4⟩:=hc;cases hd;obtain⟨a,e1,rfl⟩:=(l3 _ _ dv);obtain⟨as,q1,q2,q3⟩:=S3.cell j a _ e1 hj;have cw:=NF k3;have eu:u=.bl true:=((l2.trans l3) _ _ du);have J5:=dm;simp only[DI.DV] at J5;obtain⟨b,_,rfl,_⟩:=J5;have len:ao.length=as.length:=by have:=q2.length;simpa using this
      have le:=(Fw.put (o:=.ext (DX a (((fK X.w ao (.tup ks)).map (·.2)).zip (if (ao.any λp=>beq p.1 (.tup ks))=true then as else as++[b])))) (c:=.dT (fK X.w ao (.tup ks))) S3 e1 hj (by intro z;cases z)).le
      refine⟨w3,a,b,ao,as,ks,rfl,rfl,rfl,eu,q1,cw,k4,q2,q3,k1,k2,dm,?_⟩;refine h3 (w3.put j a _ _) le (S3.A6 e1 hj (by intro z;cases z) ⟨_,cF,?_,MB cw k1 q3⟩) rfl σ (eo.le (l1.trans (l2.trans (l3.trans le))));refine le.all ?_;unfold fK;split
      ·exact q2
      ·rw[Z3,Z3]
       exact q2.append (aw.one dm)
     ·cases hd
    ·cases hd
   ·cases hd
end
end TK
namespace TK
open PySem PySem.W PyProof.Rows DI L2
def iU (h:Heap) (d:Addr) (es:Array ady) (ep:Nat):Prop:=∃o,h.get? d=some o/\o.ExactDict/\o.data=.dict es ep
section
variable {prog:ZE} {w:World} {A:ZX} {E:Value->Y4->Prop} {s:Y4} {d it:Addr} {es:Array ady} {ep i:Nat}
theorem iU.ty (r:iU s.heap d es ep):s.TypeIs (.ref d) "dict":=by obtain⟨o,ho,x,_⟩:=r;exact⟨o,ho,x.1⟩
theorem iU.lt (r:iU h d es ep):d<h.objs.size:=by obtain⟨o,ho,_⟩:=r;exact Y9 ho
theorem O5 (hd:(d==aaJ)=false) (r:iU s.heap d es ep)
 (hQ:Q (.ref s.heap.objs.size) { s with heap:=s.heap.push { cls:=.type "dict_keyiterator",data:=.fields #[.ref d,.int 0 0,.int es.size 0,.int ep 0] } }):wpAny (model prog w) A (pyIter (.ref d)) Q E s:=by
 have ty:=r.ty;obtain⟨o,ho,x,qB⟩:=r;refine wpAny_pyIter_slot ty F.slot_dict_iter (ZI F.slot_dict_iter ty F.entry_dict_iter ?_ (F.args_dict_iter_1 _));unfold aaY.«dict.__iter__» Builtin.Dict.dictSlotNone;refine YX (YX (wpAny_notOrdered_dict ty ?_));refine(YZ ?_:wpAny _ _ (pure (abG d)) _ _ s);show wpAny _ _ (Builtin.Dict.showsAll d >>= _) _ _ s;unfold Builtin.Dict.showsAll;rw[if_neg (by rw[hd];decide)];refine YX (YZ (YX (wpAny_dictEntries ho qB (YX (wpAny_dictEpoch ho qB ?_)))));refine YX (Zt (YZ ⟨_,rfl,"dict_keyiterator",_,⟨_,Y6 _ rfl,rfl⟩,aaG.lookup,?_⟩));simpa [aaH] using hQ
theorem O6 (hit:s.heap.IsKeyIter it d i es.size ep) (r:iU s.heap d es ep) (he:es[i]?=some e)
 (hQ:∀h',h'.IsKeyIter it d (i+1) es.size ep->aaz it s.heap h'->Q (some e.key) { s with heap:=h' }):wpAny (model prog w) A (abr (.ref it)) Q E s:=by
 obtain⟨oi,qR,ci,di⟩:=id hit;obtain⟨od,t6,_,kN⟩:=r;have own:adi "dict_keyiterator"=false:=by decide
 unfold abr;refine YX (aa2 (ZC (name:=ZJ "__next__") hit.typeIs aaG (ZI aaG hit.typeIs F.entry_dict_keyiterator_next ?_ (F.args_dict_keyiterator_next_1 _))));refine YX (YZ (YX (YX (YX (aa0 hit.typeIs (YZ (YX (acb qR di ?_))))))));simp only[own,Y2,if_false]
 refine(show wpAny _ _ (if (abG d==Value.none)=true then _ else _) _ _ s from ?_)
 rw[if_neg (show ¬ ((abG d==Value.none)=true) by intro z;cases z)];refine YX (YZ (YX (wpAny_dictEntries t6 kN ?_)));rw[if_neg (by simp)];refine YX (YZ (YX (wpAny_dictEpoch t6 kN ?_)));rw[if_neg (by simp)];refine YZ ?_;simp only[show ¬ ((i:Int)<0) by omega,if_false,ZD,he];refine YX (YX (aa0 hit.typeIs (YZ (YX (wpAny_isOneOf_keyiter hit.typeIs ?_)))));show wpAny _ _ (setField (.ref it) 1 (aaH ((i:Int)+1)) >>= _) _ _ s;refine YX (aa4 qR di (by simp) ?_);generalize hh:s.heap.update it (Obj.mapFields (·.setIfInBounds 1 (aaH ((i:Int)+1))))=h';have sb:aaz it s.heap h':=by rw[<- hh];exact aaa ..
 have nx:h'.IsKeyIter it d (i+1) es.size ep:=by
  rw[<- hh];exact⟨_,aah _ qR (aaF (ZZ di _)),(abW ..).trans ci,by rw[ZZ di];simp[aaH]⟩
 refine YX (aat (YX (wpAny_isOneOf_keyiter (s:={ s with heap:=h' }) nx.typeIs ?_)))
 show wpAny _ _ (pure e.key) _ _ _;exact YZ (YZ ⟨_,rfl,YZ (hQ _ nx sb)⟩)
theorem QM (hh:A.handled=none) (hit:s.heap.IsKeyIter it d i es.size ep) (r:iU s.heap d es ep) (xu:es.size<=i)
 (hQ:∀h',acp it s.heap h'->Q none { s with heap:=h' }):wpAny (model prog w) A (abr (.ref it)) Q E s:=by
 obtain⟨oi,qR,ci,di⟩:=id hit;obtain⟨od,t6,_,kN⟩:=r;have own:adi "dict_keyiterator"=false:=by decide
 unfold abr;refine YX (aa2 (ZC (name:=ZJ "__next__") hit.typeIs aaG (ZI aaG hit.typeIs F.entry_dict_keyiterator_next ?_ (F.args_dict_keyiterator_next_1 _))));refine YX (YZ (YX (YX (YX (aa0 hit.typeIs (YZ (YX (acb qR di ?_))))))));simp only[own,Y2,if_false]
 refine(show wpAny _ _ (if (abG d==Value.none)=true then _ else _) _ _ s from ?_)
 rw[if_neg (show ¬ ((abG d==Value.none)=true) by intro z;cases z)];refine YX (YZ (YX (wpAny_dictEntries t6 kN ?_)));rw[if_neg (by simp)];refine YX (YZ (YX (wpAny_dictEpoch t6 kN ?_)));rw[if_neg (by simp)];refine YZ ?_;simp only[show ¬ ((i:Int)<0) by omega,if_false,ZD,Array.getElem?_eq_none xu];refine YX (YX (aa0 hit.typeIs (YZ ?_)));refine(YX (aa4 qR di (by simp) ?_):wpAny _ _ (setField (.ref it) 0 .none >>= _) _ _ s);show wpAny _ _ (newExc (.type "StopIteration") [] >>= _) _ _ _;simp only[newExc,newTuple];refine YX (YX (Zt ?_ (by size_fits)))
 refine YX (m:=ab9 _ _) (abD (a:=Value.none) (by first|rfl | (simp only[ab9];rfl)) (Zt ?_ (by size_fits)))
 simp only[raiseNew];refine YX (wpAny_handled ?_);rw[show A.in1.handled=none from hh];refine YX (YZ (wpAny_throw ?_));refine YX (abI (T:="StopIteration") (b:=true) ⟨_,Y6 _ rfl,rfl⟩ isSubtype_stop ?_);exact YZ (hQ _ (((aaa ..).extBut.push _).push _))
theorem iU.at (r:iU h d es ep) (k:∀o,h.get? d=some o->h'.get? d=some o):iU h' d es ep:=by obtain⟨o,ho,x⟩:=r;exact⟨o,k o ho,x⟩
theorem NH (hh:A.handled=none) (I:Addr) (dN:d≠I) :
  Walks prog w A I [I,d] [I] es.size (λi v=>∃e,es[i]?=some e/\v=e.key) (λi h=>h.IsKeyIter I d i es.size ep/\iU h d es ep) where
 sub:=λb hb=>by simp at hb;simp[hb]
 frame:=λ_ _ _ st hk=>⟨st.1.at λo e=>hk I (by simp) o e,st.2.at λo e=>hk d (by simp) o e⟩
 item:=λi s Q E hi st hQ=>by
  have he:es[i]?=some es[i]:=by simp[hi]
  exact O6 st.1 st.2 he λh' nx sb=>hQ _ h' s.toks ⟨_,he,rfl⟩ ⟨nx,st.2.at λo e=>sb.extBut d o dN e⟩ λb o hb e=>sb.extBut b o (λh=>hb (by simp[h])) e
 done:=λs Q E st hQ=>QM hh st.1 st.2 (Nat.le_refl _) λh' W0=>hQ h' s.toks λb o hb e=>W0 b o (λh=>hb (by simp[h])) e
 self:=λ_ _ _ _ st hQ=>wpAny_pyIter_keyiter st.1 hQ
theorem QN (lo:(d==aaJ)=false):KdlSrc prog w "dict" d d es.size (λi v=>∃e,es[i]?=some e/\v=e.key) (λh=>iU h d es ep) where
 type:=λ_ hm=>hm.ty
 there:=λ_ hm=>⟨hm.lt,hm.lt⟩
 keep:=λ_ _ hm hk=>hm.at λo e=>hk d (.inl rfl) o e
 notList:=by decide
 notTuple:=by decide
 hint:=λ_ _ _ _ hm hq=>kdl_hint_dict hm.ty hq
 iter:=λ_ _ hh hm=>⟨_,_,(λ_ _ hq=>O5 lo hm hq),NH hh _ (Zn hm.lt),⟨⟨_,Y6 _ rfl,rfl,rfl⟩,hm.at λo e=>YY _ e⟩⟩
end
noncomputable def qd (ds:List D) (s:ag):Res D:=match ds with
 | [.aj j]=>match s[j]? with
  |some (.dT ao)=>if ao.length<=Zf then ok (.lst (ao.map (·.1))) s else none
  |_=>none
 |_=>none
theorem FH:∀as:List Addr,Vals (as.map V.ref) (as.map abG)
 | []=>.nil
 |_::as=>.cons rfl (FH as)
section
variable {X:Cx} {Ξ:Wd->bH->Prop}
theorem QP (hc:X.calm=true):cf X (.type "list") (rC X.K Ξ qd):=by
 rintro pins s σ H xs us Q I r ⟨w,ds,rfl,S,ar,h⟩;unfold qd at h;split at h
 ·rename_i j
  split at h
  ·rename_i ao hj
   split at h
   ·rename_i hl
    obtain⟨v,r',rfl,h1,h2⟩:=ar;cases h2;obtain⟨a,e1,rfl⟩:=h1
    cases r with
    |cons r rs =>
    cases rs;cases r;obtain⟨as,q1,q2,q3⟩:=S.cell j a _ e1 hj;have len:ao.length=as.length:=by have:=q2.length;simpa using this
    obtain⟨⟨hz,ob,es,ep,ho,hex,qB,xK⟩,_,_⟩:=I.aG _ _ q1;have ez:es.size=as.length:=by rw[<- ZH,xK];simp[len]
    refine kdl_call (QN hz) (I.ok.hd hc) (⟨ob,ho,hex,qB⟩:iU s.heap a es ep) (by rw[ez,<- len];exact hl) λh' tk fG c' hk hD kG=>?_;have hf:w.H s.heap.objs.size=none:=I.aG.fresh (Nat.le_refl _);have ev:fG.toList=as.map abG:=by
     apply aa7;intro i;rw[aao];by_cases hi:i<as.length
     ·have BO:i<fG.size:=by rw[kG.1,ez];exact hi
      have h3:fG[i]?=some fG[i]:=Array.getElem?_eq_getElem BO;obtain⟨e,he,ev⟩:=kG.2 i _ h3;rw[h3,ev];rw[<- aao,xK] at he;have W2:i<ao.length:=by omega
      simp only[Zj,List.zip,List.getElem?_zipWith,Y8 W2,Y8 hi,aaU] at he |-;rw[<- Option.some.inj he]
     ·rw[Array.getElem?_eq_none (by rw[kG.1,ez];omega),ZM (by rw[Y1];omega)]
    refine⟨.ref s.heap.objs.size,upd w.H s.heap.objs.size (.lst (as.map V.ref)),I.laid (t':=tk) hk (Nat.le_refl _) ?_,rfl,?_⟩
    ·refine⟨by rw[Y1,<- len];exact hl,fG.toList,c',?_,by simpa using hD⟩
     rw[ev];exact FH as
    ·exact h (w.grow _ (.lst (as.map V.ref))) (Fw.grow hf).le (S.grow hf) rfl (.ref s.heap.objs.size) ⟨_,_,rfl,⟨(show ¬ w.Z _ from lu S hf),cF⟩,(Fw.grow hf).le.all q2⟩
   ·exact h.elim
  ·exact h.elim
 ·exact h.elim
end
end TK
namespace TK
open PySem PySem.W PyProof.Rows DI L2 HT
section
variable {s:Y4}
theorem UE (kx:kd x=true) (ky:kd y=true) (hu:A.units+dep x<cLine) (hx:KA s.heap x vx) (hy:KA s.heap y vy):SeqAt.EqAt A s vx vy (beq x y):=by
 obtain⟨as,r1⟩:=KA.reads _ _ hx;obtain⟨bs,r2⟩:=KA.reads _ _ hy;obtain⟨p1,p2⟩:=jF _ (nZ _ kx);obtain⟨q1,q2⟩:=jF _ (nZ _ ky);have:=SeqAt.eqAt_reads _ _ A s vx vy as bs r1 r2 p1 q1 (by rw[p2];omega);rw[qb _ _ (nZ _ kx) (nZ _ ky)] at this;exact this
mutual
theorem UG:∀(A:ZX) (x y:D) (b:Bool) (vx vy:Value),iE x y=some b->kd x=true->kd y=true->A.units+5*dep x+5<cLine->KA s.heap x vx->KA s.heap y vy->Bi A s vx vy b
 |A,.int i,y,b,vx,vy,h,_,_,_,hx,hy=>by
  cases y with
  |int j =>
   cases h;obtain⟨t,rfl⟩:=hx;obtain⟨t',rfl⟩:=hy;exact λprog w E Q q=>Fj A s i t j t' prog w E Q q
  |_=>cases h
 |A,.str i,y,b,vx,vy,h,_,_,_,hx,hy=>by
  cases y with
  |str j =>
   cases h;obtain⟨t,rfl⟩:=hx;obtain⟨t',rfl⟩:=hy;exact λprog w E Q q=>(PyProof.Rows.lt_str q:wpAny (model prog w) A (aag .Lt (.str i t) (.str j t')) Q E s)
  |_=>cases h
 |A,.tup xs,y,b,vx,vy,h,kx,ky,hu,hx,hy=>by
  cases y with
  |tup ys =>
   simp only[iE] at h;simp only[KA] at hx hy;obtain⟨a,o,its,n,rfl,ho,hc,hd,r⟩:=hx;obtain⟨a',o',its',n',rfl,cP,iD,gp,r'⟩:=hy;simp only[dep] at hu;simp only[kd] at kx ky;exact λprog w E Q q=>Gw ⟨o,ho,hc,n,hd⟩ ⟨o',cP,iD,n',gp⟩ (λA' hA=>zO A' xs ys b _ _ h kx ky (by omega) r r') (by omega) q
  |_=>cases h
 |_,.aA,_,_,_,_,_,k,_,_,_,_=>by cases k
 |_,.bl _,_,_,_,_,_,k,_,_,_,_=>by cases k
 |_,.lst _,_,_,_,_,_,k,_,_,_,_=>by cases k
 |_,.aW _,_,_,_,_,_,k,_,_,_,_=>by cases k
 |_,.aj _,_,_,_,_,_,k,_,_,_,_=>by cases k
 |_,.ty _,_,_,_,_,_,k,_,_,_,_=>by cases k
 |_,.bG _,_,_,_,_,_,k,_,_,_,_=>by cases k
theorem zO:∀(A:ZX) (xs ys:List D) (b:Bool) (ps qs:List Value),iT xs ys=some b->cW xs=true->cW ys=true->A.units+5*cB xs+5<cLine->cX s.heap xs ps->cX s.heap ys qs->iK A s ps qs b
 |A,[],ys,b,ps,qs,h,_,_,_,hx,hy=>by
  cases hx
  cases ys with
  |nil=>cases h;cases hy;exact .nn
  |cons y ys=>cases h;obtain⟨v,r,rfl,_⟩:=hy;exact .nc _ _
 |A,x::xs,ys,b,ps,qs,h,kx,ky,hu,hx,hy=>by
  obtain⟨v,r,rfl,h1,h2⟩:=hx
  cases ys with
  |nil=>cases h;cases hy;exact .cn _ _
  |cons y ys =>
   obtain⟨u,r',rfl,g1,g2⟩:=hy;simp only[cW,Y3] at kx ky;simp only[cB] at hu;have m1:=Nat.le_max_left (dep x) (cB xs);have m2:=ac8 (dep x) (cB xs);have he:=UE (A:=A) kx.1 ky.1 (by omega) h1 g1;simp only[iT] at h;split at h
   ·rename_i hb
    rw[hb] at he;exact .eq he (zO A xs ys b _ _ h kx.2 ky.2 (by omega) h2 g2)
   ·rename_i hb
    rw[ach] at hb;rw[hb] at he;exact .lt he (UG A x y b _ _ h kx.1 ky.1 (by omega) h1 g1)
end
end
section
variable {prog:ZE} {w:World} {A:ZX} {E:Value->Y4->Prop} {s:Y4}
theorem NI (h:iK A s xs ys b):∀(i:Nat),fin=decide (xs.length<ys.length)->Q b s->KatLex prog w A t fin Q (xs.zip ys) (i+1) s:=by
 induction h with
 |nn=>intro i hf q;rw[hf];exact q
 |nc y ys=>intro i hf q;rw[hf];exact q
 |cn x xs=>intro i hf q;rw[hf];exact q
 |eq he _ ih =>
  intro i hf q;rw[aau];exact kat_cons (he prog w _ _ (kat_yes (ih (i+1) (by rw[hf];simp) q)))
 |lt he hr =>
  intro i hf q;rw[aau];refine kat_cons (he prog w _ _ (kat_no ?_));rw[show (t&&(i+1==0))=false by simp];exact kat_one _ _ (hr prog w _ _ q)
theorem NJ (hs:x=y->iK A s xs ys b) (hf:fin=decide (xs.length<ys.length)) (q:Q (if x=y then b else decide (x.cps.toList<y.cps.toList)) s) :
  KatLex prog w A true fin Q ((.str x t::xs).zip (.str y u::ys)) 0 s:=by
 rw[aau];refine kat_cons (wpAny_eqBool_str ?_);by_cases e:x=y
 ·rw[if_pos e] at q
  rw[decide_eq_true e];exact kat_yes (NI (hs e) 0 hf q)
 ·rw[if_neg e] at q
  rw[decide_eq_false e];exact kat_no (oneLt_str q)
end
inductive Pg where
 |made (m d:Int) (h l:List Int)
 |aM (m d k:Int)
noncomputable def ti (l:List Int):D:=.tup (l.map D.int)
noncomputable def Pg.d:Pg->D
 | .made m d h l=>.tup [.str "made",.int m,.int d,.tup [ti h,ti l]]
 | .aM m d k=>.tup [.str "mended",.int m,.int d,.int k]
theorem HH (h:ti a=ti b):a=b:=by
 injection h with h
 exact List.map_inj_right (λx y e=>by injection e) |>.mp h
theorem Pg.IG {p q:Pg} (h:p.d=q.d):p=q:=by
 cases p<;>cases q<;>simp only[Pg.d,D.tup.injEq,acD,D.int.injEq,and_true,reduceCtorEq,and_false,false_and] at h
 ·obtain⟨_,h1,h2,h3,h4⟩:=h
  rw[h1,h2,HH h3,HH h4]
 ·obtain⟨_,h1,h2,h3⟩:=h
  rw[h1,h2,h3]
noncomputable def encL:List Int->List Int
 | []=>[0]
 |x::xs=>1::x::encL xs
noncomputable def Pg.enc:Pg->List Int
 | .made m d h l=>0::m::d::(encL h++encL l)
 | .aM m d k=>[1,m,d,k]
theorem yI:∀{a b u v:List Int},encL a++u=encL b++v->a=b/\u=v
 | [],[],u,v,h=>by simpa [encL] using h
 | [],y::b,u,v,h=>by simp[encL] at h
 |x::a,[],u,v,h=>by simp[encL] at h
 |x::a,y::b,u,v,h=>by
  simp only[encL,aaf,acD,true_and] at h;obtain⟨h1,h2⟩:=yI h.2;exact⟨by rw[h.1,h1],h2⟩
theorem Pg.QQ {p q:Pg} (h:p.enc=q.enc):p=q:=by
 cases p<;>cases q<;>simp only[Pg.enc,acD,and_true,true_and,reduceCtorEq,false_and,Int.reduceEq] at h
 ·obtain⟨h1,h2,h3⟩:=h
  have h4:=yI (u:=encL _++[]) (v:=encL _++[]) (by simpa using h3);have h5:=yI h4.2;rw[h1,h2,h4.1,h5.1]
 ·rw[h.1,h.2.1,h.2.2]
noncomputable def eU:ST.Ord Pg where
 lt p q:=lexLt p.enc q.enc
 Cn p:=ST.zi _
 tr _ _ _ h g:=ST.Sz _ _ _ h g
 tZ _ _ h g:=Pg.QQ (ST.QI _ _ h g)
theorem E3:∀a b:List Int,fI (a.map D.int) (b.map D.int)=decide (a=b)
 | [],[]=>rfl
 | [],_::_=>rfl
 |_::_,[]=>rfl
 |x::a,y::b=>by
  simp only[Zl,fI,beq,E3 a b]
  by_cases e:x=y<;>simp[e]
theorem E4:∀a b:List Int,iT (a.map D.int) (b.map D.int)=some (lexLt a b)
 | [],[]=>rfl
 | [],_::_=>rfl
 |_::_,[]=>rfl
 |x::a,y::b=>by
  simp only[Zl,iT,beq,iE,jc,E4 a b]
  by_cases e:x=y<;>simp[e]
theorem zk:∀a b u v:List Int,lexLt (encL a++u) (encL b++v)=if a=b then lexLt u v else lexLt a b
 | [],[],u,v=>by simp[encL,jc]
 | [],y::b,u,v=>by simp[encL,jc];rfl
 |x::a,[],u,v=>by simp[encL,jc];rfl
 |x::a,y::b,u,v=>by
  simp only[encL,aaf,jc,if_true,zk a b u v,acD]
  by_cases e:x=y<;>simp[e]
theorem IH (p q:Pg):iE p.d q.d=some (eU.lt p q):=by
 have n1:¬ ((ZJ "made")=ZJ "mended"):=by decide +kernel
 have n2:¬ ((ZJ "mended")=ZJ "made"):=by decide +kernel
 have s1:decide ((ZJ "made").cps.toList<(ZJ "mended").cps.toList)=true:=by decide +kernel
 have s2:decide ((ZJ "mended").cps.toList<(ZJ "made").cps.toList)=false:=by decide +kernel
 show _=some (lexLt p.enc q.enc)
 cases p with
 |made m d h l =>
  cases q with
  |made m' d' h' l' =>
   simp only[Pg.d,Pg.enc,iE,iT,beq,fI,ti,jc,E3,E4,zk,beq_self_eq_true,if_true,abZ];have:=zk l l' [] [];simp only[aa8] at this;rw[this]
   by_cases e1:m=m'<;>by_cases e2:d=d'<;>by_cases e3:h=h'<;>by_cases e4:l=l'<;>simp[e1,e2,e3,e4,ST.zi]
  |aM m' d' k'=>simp only[Pg.d,Pg.enc,iE,iT,beq,jc,beq_iff_eq,n1,s1,if_false];simp
 |aM m d k =>
  cases q with
  |made m' d' h' l'=>simp only[Pg.d,Pg.enc,iE,iT,beq,jc,beq_iff_eq,n2,s2,if_false];simp
  |aM m' d' k' =>
   simp only[Pg.d,Pg.enc,iE,iT,beq,jc,beq_self_eq_true,if_true]
   by_cases e1:m=m'<;>by_cases e2:d=d'<;>by_cases e3:k=k'<;>simp[e1,e2,e3,ST.zi]
theorem QR (l:List Int):cW (l.map D.int)=true:=by
 induction l with
 |nil=>rfl
 |cons x l ih=>simpa only [Zl,cW,kd,Zw] using ih
theorem O7 (l:List Int):cB (l.map D.int)=0:=by
 induction l with
 |nil=>rfl
 |cons x l ih=>simp only[Zl,cB,dep,ih];rfl
theorem jI (p:Pg):kd p.d=true:=by
 have s1:ac5 "made"=true:=by decide +kernel
 have s2:ac5 "mended"=true:=by decide +kernel
 cases p<;>simp only[Pg.d,kd,cW,ti,QR,s1,s2,aay]
theorem zP (p:Pg):dep p.d<=3:=by
 cases p<;>simp only[Pg.d,dep,cB,ti,O7]<;>decide
theorem FI (p:Pg):∃(x:Str) (r:List D),p.d=.tup (.str x::r):=by
 cases p<;>exact⟨_,_,rfl⟩
theorem Ax {h:Heap} {p:Pg} {v:Value} (q:KA h p.d v):∃(x:Str) (r:List D) (a:Addr) (o:Obj) (its:Array Value) (n:Nat) (t:Tok) (us:List Value),p.d=.tup (.str x::r)/\v=.ref a/\h.get? a=some o/\o.cls=.type "tuple"/\o.data=.seq its n/\its.toList=.str x t::us/\cX h r us/\cW r=true:=by
 obtain⟨x,r,e⟩:=FI p;have k:=jI p;rw[e] at q k;simp only[KA] at q;obtain⟨a,o,its,n,e1,ho,hc,hd,u,us,e2,⟨t,e3⟩,r2⟩:=q;simp only[kd,cW,Y3] at k;exact⟨x,r,a,o,its,n,t,us,e,e1,ho,hc,hd,by rw[e2,e3],r2,k.2⟩
section
variable {prog:ZE} {w:World} {A:ZX} {E:Value->Y4->Prop} {s:Y4}
theorem NK:∀{ps:List Pg} {us:List Value},cX s.heap (ps.map Pg.d) us->∃fs,KatTups s.heap us fs/\(∀v∈fs,∃x t,v=Value.str x t)/\fs.length=us.length:=by
 intro ps
 induction ps with
 |nil=>intro us h;cases h;exact⟨[],KatTups.nil,λv (hv:v∈[])=>(Z5 hv).elim,rfl⟩
 |cons p ps ih =>
  intro us h;obtain⟨v,r,rfl,h1,h2⟩:=h;obtain⟨fs,k1,k2,k3⟩:=ih h2;obtain⟨x,_,a,o,its,n,t,vs,_,rfl,ho,hc,hd,hi,_⟩:=Ax h1;refine⟨.str x t::fs,.cons ho hc hd (by rw[<- aao,hi];rfl) k1,λv hv=>?_,by simp[k3]⟩
  rcases Zh.mp hv with rfl|hv
  ·exact⟨x,t,rfl⟩
  ·exact k2 v hv
theorem kas_get:∀{ds:List D} {us:List Value},cX h ds us->∀i,i<us.length->KA h (ds.getD i .aA) (us.getD i Value.none):=by
 intro ds
 induction ds with
 |nil=>intro us h i hi;cases h;cases hi
 |cons d ds ih =>
  intro us h i hi;obtain⟨v,r,rfl,h1,h2⟩:=h
  cases i with
  |zero=>exact h1
  |succ i=>exact ih h2 i (by simpa using hi)
theorem QS:∀{ds:List D} {us:List Value},cX h ds us->ds.length=us.length:=by
 intro ds
 induction ds with
 |nil=>intro us h;cases h;rfl
 |cons d ds ih=>intro us h;obtain⟨v,r,rfl,h1,h2⟩:=h;simp[ih h2]
theorem SN (hu:A.units+100<cLine) (h1:KA s.heap p.d v) (h2:KA s.heap q.d u) (hC:C (eU.lt p q) s):wpAny (model prog w) A (keyLt' (tuples' true) v u) C E s:=by
 obtain⟨x,r,a,o,its,n,t,vs,e,rfl,ho,hc,hd,hi,kr,k⟩:=Ax h1;obtain⟨x',r',a',o',its',n',t',YQ,e',rfl,cP,iD,gp,ma,W3,k'⟩:=Ax h2;have dl:=zP p;rw[e] at dl;simp only[dep,cB] at dl;have lt:=IH p q;rw[e,e'] at lt;simp only[iE,iT] at lt;have be:beq (.str x) (.str x')=true↔x=x':=by simp[beq]
 refine kat_lt ho hd cP gp ?_;rw[hi,ma];refine NJ (b:=eU.lt p q) (λex=>?_) ?_ ?_
 ·rw[if_pos (be.mpr ex)] at lt
  exact zO A r r' _ _ _ lt k k' (by have:=ac8 (0:Nat) (cB r);omega) kr W3
 ·simp[<- ZH,hi,ma]
 ·by_cases ex:x=x'
  ·rw[if_pos ex];exact hC
  ·rw[if_neg λz=>ex (be.mp z)] at lt
   rw[if_neg ex,Option.some.inj lt];exact hC
theorem O8 {us:List Value} {ps:List Pg} (t:cX s.heap (ps.map Pg.d) us) (h2:2<=us.length) (hu:A.units+100<cLine) (d:Pg):ST.wZ prog w A eU (λi=>ps.getD i d) us s:=by
 obtain⟨fs,k1,k2,k3⟩:=NK t;have hl:=QS t;rw[Y1] at hl;have at_:∀i,i<us.length->KA s.heap (ps.getD i d).d (us.getD i Value.none):=λi hi=>by
  have:=kas_get t i hi;rwa [show (ps.map Pg.d).getD i .aA=(ps.getD i d).d by simp[abw,Zj,Y8 (show i<ps.length by omega)]] at this
 unfold ST.wZ;refine kat_kind (T:=.type "str") k1 (by omega) (λv hv=>?_) (by decide) ⟨rfl,λi j C hi hj hC=>?_⟩
 ·obtain⟨x,tk,rfl⟩:=k2 v hv
  exact .of_pure rfl
 ·exact SN hu (at_ i hi) (at_ j hj) hC
end
end TK
namespace TK
open PySem PySem.W PyProof.Rows DI L2
open Classical in
noncomputable def wy (xs:List D):Option D:=if h:∃ps:List Pg,xs=ps.map Pg.d then some (.lst ((ST.ji eU (Classical.choose h)).map Pg.d)) else none
theorem MC:∀{a b:List Pg},a.map Pg.d=b.map Pg.d->a=b:=λh=>List.map_inj_right (λ_ _ e=>Pg.IG e) |>.mp h
theorem FJ (ps:List Pg):wy (ps.map Pg.d)=some (.lst ((ST.ji eU ps).map Pg.d)):=by
 unfold wy;have h:∃qs:List Pg,ps.map Pg.d=qs.map Pg.d:=⟨ps,rfl⟩;rw[dif_pos h];have:=MC (Classical.choose_spec h);rw[<- this]
noncomputable def qe (ds:List D) (s:ag):Res D:=match ds with
 | [d]=>match res d s with
  | .lst xs=>if xs.length<64 then bF (wy xs) s else none
  |_=>none
 |_=>none
section
variable {X:Cx} {Ξ:Wd->bH->Prop}
theorem QT (ps:List Pg):cW (ps.map Pg.d)=true:=by
 induction ps with
 |nil=>rfl
 |cons p ps ih=>simp only[Zl,cW,jI,ih,aay]
theorem QU (hr:cM k X.A):cf X (.builtin "sorted") (rC X.K Ξ qe):=by
 rintro pins s σ H xs us Q I r ⟨w,ds,rfl,S,ar,h⟩;unfold qe at h;split at h
 ·obtain⟨v,rfl,dv⟩:=lC ar
  split at h
  ·rename_i es e1
   obtain⟨a,xs,rfl,ha,ar⟩:=iy S dv e1;split at h
   ·rename_i hz
    obtain⟨d',e2,h⟩:=ff h;obtain⟨u,rfl,ru⟩:=vals1 r;cases ru;obtain⟨its,r1,pl,hx⟩:=I.list (bQ.of ha);have hl:its.length=es.length:=r1.length.symm.trans ar.length.symm;have e3:=e2;unfold wy at e3;split at e3
    ·rename_i hp
     obtain⟨ps,en⟩:=hp;clear e3;subst en;rw[FJ] at e2;cases e2;have BN:ps.length=its.length:=by rw[hl,Y1]
     refine ST.Nx (O:=eU) (x:=λi=>ps.getD i (.aM 0 0 0)) pl.isList (by omega) (λh2 h1 ho=>O8 (cX.keep (λb o hb _ _=>ho b o hb) _ _ (zN I _ _ _ (QT ps) ar r1)) h2 (by have:=hr.un;show X.A.units+1+1+100<cLine;have:cLine=9900:=rfl;omega) _) λq h' b e hp hu ho hb hn=>?_;have hm:∀i∈q.toList,i<(ps.map Pg.d).length:=λi hi=>by rw[<- hl];exact ZO.mp (hp.2.mem_iff.mp hi)
     rw[<- BN] at hp hu;have lY:=I.aG.fresh hb;refine⟨.ref b,_,I.laid (o:=.lst (q.toList.map λi=>xs.getD i .aA)) (t':=s.toks) ho hb ⟨?_,_,e,ND r1 (by rw[hl];exact hm),hn⟩,rfl,?_⟩
     ·rw[Y1,ZH,hp.1,BN,r1.length.symm];exact hx
     ·refine qw S ?_ h b lY
      rw[<- O0 hp hu];exact OZ ar hm
    ·cases e3
   ·exact h.elim
  ·exact h.elim
 ·exact h.elim
end
section
variable {prog:ZE} {w:World} {A:ZX} {E:Value->Y4->Prop} {s:Y4}
end
section
variable {X:Cx} {Ξ:Wd->bH->Prop} {e:Expr} {te:TE} {pos p2 p4:Pos} {f:DI.Env->ag->Res D}
end
end TK
namespace TK
open PySem PySem.W PyProof.Rows DI L2
noncomputable def Ay (f:DI.Env->ag->Res D):DI.Env->ag->Res D:=λenv s=>au (f env s) λx s=>au (truth x s) λb s=>ok (.bl (!b)) s
theorem SO (ha:PE X a (tE X.K Ξ f)):PE X (.UnaryOp .Not a pos) (tE X.K Ξ (Ay f)):=by
 rintro pins s σ H Q I ⟨w,env,rfl,S,eo,h⟩;refine UnaryOp_ (aF (ha pins s σ w.H (λv H'=>∃b,oy X.K v H' b/\Q (.bl (!b)) H') I ⟨w,env,rfl,S,eo,(Out.au h).mono λw1 x l1 S1 h1 v dv=>?_⟩) λv s1 ⟨x,H1,I1,r1,b,q1,q2⟩=>?_)
 ·obtain⟨b,t,h2⟩:=oy.of S1 dv (Out.au h1)
  exact⟨b,t,aK S1 h2 _ rfl⟩
 ·refine not_of (aaQ (G6 pins s1 σ H1 x v (λc H2=>Q (.bl (!c)) H2) I1 r1 ⟨b,q1,q2⟩) (λc s2 ⟨H2,I2,q⟩=>⟨.bl (!c),H2,I2,rfl,q⟩) λ_ _ z=>z)
end TK
namespace ST
open PySem PySem.Spec PyProof.Rows
section
variable {prog:ZE} {w:World} {A:ZX} {E:Value->Y4->Prop} {s:Y4}
end
end ST
namespace DI
open PySem L2
section
variable {X:Cx} {Ξ:Wd->bH->Prop}
end
end DI
namespace DI
open PySem L2
section
variable {X:Cx} {Ξ:Wd->bH->Prop} {e o i:Expr} {pos hU:Pos} {f fo fi:Env->ag->Res D}
end
end DI
namespace L2
open PySem PySem.Spec PyProof.Rows
section
variable {X:Cx}
end
end L2
namespace DI
open PySem L2
section
variable {X:Cx} {Ξ:Wd->bH->Prop}
end
end DI
namespace L2
open PySem PySem.Spec PyProof.Rows
section
variable {X:Cx}
end
end L2
namespace DI
open PySem L2
section
variable {X:Cx} {Ξ:Wd->bH->Prop} {a:Expr} {pos:Pos} {f:Env->ag->Res D}
end
end DI
namespace L2
open PySem PySem.Spec PyProof.Rows
section
variable {X:Cx}
end
end L2
namespace DI
open PySem L2
section
variable {X:Cx} {Ξ:Wd->bH->Prop} {pos:Pos}
noncomputable def wa (x y:D) (s:ag):Res D:=match res x s,res y s with
 | .lst xs,.lst ys=>if jQ xs ys=true then ok (.aj s.length) (s++[.lst (xs++ys)]) else none
 |_,_=>none
theorem Jp {K:Frag} {w:Wd} {ds:List D} {vs:List V} {Q:VK} (S:aN K w) (ar:aw K w ds vs) (h:Out K Ξ w (ok (D.aj w.aJ.length) (w.aJ++[.lst ds])) λw' d=>∀v,DV K w' d v->Q v w'.H):∀p,w.H p=none->Q (.ref p) (upd w.H p (.lst vs)):=λp hp=>by
 have le:=(Fw.cell (K:=K) (o:=.lst vs) (c:=.lst ds) S hp).le;refine h (w.cell p (.lst vs) (.lst ds)) le (S.wo hp ⟨_,cF,le.all ar⟩) rfl (.ref p) ⟨p,?_,rfl⟩;show (w.ρ++[p])[w.aJ.length]?=some p;rw[<- S.len];simp
theorem SQ:bj X (aaO .Add) (rO X.K Ξ wa):=by
 rintro pins s σ H x y v u Q I rx ry ⟨w,dx,dy,rfl,S,hx,hy,h⟩;unfold wa at h;split at h
 ·rename_i xs ys e1 e2
  split at h
  ·rename_i hl
   obtain⟨a,as,rfl,ha,gP⟩:=iy S hx e1;obtain⟨b,bs,rfl,hb,ny⟩:=iy S hy e2;exact G9 pins s σ w.H _ _ v u Q I rx ry ⟨a,b,as,bs,rfl,rfl,ha,hb,by rw[<- gP.length,<- ny.length];exact of_decide_eq_true hl,Jp S (gP.append ny) h⟩
  ·exact h.elim
 ·exact h.elim
theorem SR:PE X (.Dict [] [] pos) (tE X.K Ξ (eC (.aW []))):=cG OD fun σ H Q aB=>by
 obtain⟨w,env,eH,S,eo,h⟩:=aB;subst eH;intro p hp;exact h (w.grow p (.dK [])) (Fw.grow hp).le (S.grow hp) rfl (.ref p) ⟨p,rfl,(show ¬ w.Z p from lu S hp),cF⟩
end
end DI
namespace L2
open PySem PySem.Spec PyProof.Rows
end L2
namespace DI
open PySem L2
section
variable {X:Cx} {Ξ:Wd->bH->Prop}
end
end DI
namespace L2
open PySem PySem.Spec PyProof.Rows
open AutoSeq1 (wpAny_loadPart')
section
variable {prog:ZE} {w:World} {A:ZX} {E:Value->Y4->Prop} {s:Y4}
end
end L2
namespace L2
open PySem PySem.Spec PyProof.Rows
section
variable {X:Cx}
end
end L2
namespace DI
open PySem L2
section
variable {X:Cx} {Ξ:Wd->bH->Prop} {a:Expr} {p pos:Pos} {fa:Env->ag->Res (List D)}
end
end DI
namespace L2
open PySem PySem.Spec PyProof.Rows
section
variable {X:Cx} {pos:Pos}
noncomputable def UH (i j k:Nat) (ta:TA):TS:=λD σ H=>ta σ H λvs H1=>∃v w u,vs=[v,w,u]/\D.nx (((σ.set i (some v)).set j (some w)).set k (some u)) H1
theorem vals3 (r:Vals [v,w,u] us):∃a b c,us=[a,b,c]/\RelV v a/\RelV w b/\RelV u c:=by
 cases r with
 |cons p q =>
  obtain⟨b,c,rfl,h1,h2⟩:=vals2 q;exact⟨_,b,c,rfl,p,h1,h2⟩
theorem QV {kt k2 hZ} (hc:X.calm=true) (hN:X.N.Nodup) (hi:X.N[i]?=some x) (hj:X.N[j]?=some y) (hk:X.N[k]?=some z) (eT:i≠j) (oW:i≠k) (Cv:j≠k)
 (hx:X.env.scope.names.lookup x=some .local) (hy:X.env.scope.names.lookup y=some .local) (hz:X.env.scope.names.lookup z=some .local) (ha:PA X [a,b,c] ta)
 (hw:abl [.Tuple [.Name x px,.Name y py,.Name z pz] kt pt] (.Tuple [a,b,c] k2 hZ) X.env=pure (some [x,y,z]))
 (hs:abk [.Tuple [.Name x px,.Name y py,.Name z pz] kt pt] (.Tuple [a,b,c] k2 hZ) pos.line X.env=pure false) :
  PS X (.Assign [.Tuple [.Name x px,.Name y py,.Name z pz] kt pt] (.Tuple [a,b,c] k2 hZ) pos) (UH i j k ta):=by
 intro pins s σ H D I h;rw[exec_Assign_arm];refine YX (abA ?_);rw[hs];refine YX (YZ ?_);rw[if_neg (by decide)];refine YX (Tuple_ (aF (ha _ pins s σ H _ I h) λus s1 aB=>?_));obtain⟨vs,H1,I1,r1,v,w,u,e1,q1⟩:=aB;subst e1;obtain⟨u1,u2,u3,rfl,rv,oP,ru⟩:=vals3 r1;refine Zt ?_ (by show 3<=Zf;decide)
 have I2:Inv X pins σ H1 { s1 with heap:=s1.heap.push { cls:=.type "tuple",data:=.seq [u1,u2,u3].toArray } }:=I1.kept (t':=s1.toks) λb o e=>YY _ e
 rw[hw];refine YX (YZ ?_)
 show wpAny (model X.prog X.w) X.A (do rule "assign.swapped-stores";let items <- unpackItems (.ref s1.heap.objs.size) 3 none;adb [λv=>ade X.env z v,λv=>ade X.env y v,λv=>ade X.env x v] items.reverse;pure Flow.next) _ _ _
 refine YX (aa5 (YX (unpackItems_tuple (items:=#[u1,u2,u3]) (I.ok.hd hc) (IsTup.new s1.heap _) λh' sR=>?_)));have I3:=I2.kept (h':=h') (t':=s1.toks) λb o e=>sR b o (Zn (Y9 e)) e
 show wpAny _ _ (adb [λv=>ade X.env z v,λv=>ade X.env y v,λv=>ade X.env x v] [u3,u2,u1] >>= λ_=>pure Flow.next) _ _ _
 refine YX (abj (acV (mm I3 hN hk (.inl hz) ru (λs2 I4=>?_) (.inr hz))));refine abj (acV (mm I4 hN hj (.inl hy) oP (λs3 I5=>?_) (.inr hy)));refine abj (acV (mm I5 hN hi (.inl hx) rv (λs4 I6=>assignInOrder_nil (YZ ?_)) (.inr hx)));rw[List.set_comm _ _ (abe Cv),List.set_comm _ _ (abe oW),List.set_comm _ _ (abe eT)] at I6;exact⟨_,H1,I6,q1⟩
end
end L2
namespace DI
open PySem L2
section
variable {X:Cx} {Ξ:Wd->bH->Prop} {a b c:Expr} {pos:Pos} {fa:Env->ag->Res (List D)}
noncomputable def sC (i j k:Nat) (fa:Env->ag->Res (List D)):Env->ag->Res Fl:=λenv s=>au (fa env s) λds s=>match ds with
 | [x,y,z]=>ok (.nx (((env.set i (some x)).set j (some y)).set k (some z))) s
 |_=>none
theorem HI (i j k:Nat) {x y z:Str} {px py pz pt:Pos} {kt k2 hZ} (hc:X.calm=true) (hN:X.N.Nodup) (ha:PA X [a,b,c] (tA X.K Ξ fa)) (hi:X.N[i]?=some x:=by rfl) (hj:X.N[j]?=some y:=by rfl) (hk:X.N[k]?=some z:=by rfl) (eT:i≠j:=by decide) (oW:i≠k:=by decide) (Cv:j≠k:=by decide)
  (hx:X.env.scope.names.lookup x=some .local:=by rfl) (hy:X.env.scope.names.lookup y=some .local:=by rfl) (hz:X.env.scope.names.lookup z=some .local:=by rfl)
  (hw:abl [.Tuple [.Name x px,.Name y py,.Name z pz] kt pt] (.Tuple [a,b,c] k2 hZ) X.env=pure (some [x,y,z]):=by rfl)
  (hs:abk [.Tuple [.Name x px,.Name y py,.Name z pz] kt pt] (.Tuple [a,b,c] k2 hZ) pos.line X.env=pure false:=by rfl) :
  PS X (.Assign [.Tuple [.Name x px,.Name y py,.Name z pz] kt pt] (.Tuple [a,b,c] k2 hZ) pos) (tS X.K Ξ (sC i j k fa)):=je (QV hc hN hi hj hk eT oW Cv hx hy hz ha hw hs) λD0 σ H aB=>by
 obtain⟨w,env,eH,S,eo,h⟩:=aB;subst eH;refine⟨w,env,rfl,S,eo,(Out.au h).mono λw1 ds l1 S1 h1 vs ar=>?_⟩;split at h1
 ·obtain⟨v,r,rfl,dv,dr⟩:=ar
  obtain⟨u,t,rfl,du,dt⟩:=rJ dr;exact⟨v,u,t,rfl,aK S1 h1 _ ((((eo.le l1).set dv i).set du j).set dt k)⟩
 ·exact h1.elim
end
end DI
namespace DI
open PySem L2
noncomputable def pR:List D->ag->Res D:=bc 2 6 (az (sC 2 3 4 (ae (e2 aT (aC bX (ae (aa 0) (ae (eC (.int 3)) ai))) (eC (.int 0))) (ae (eNew ai) (ae (e2 bY (eC (.int 2)) (aC bX (ae (aa 0) (ae (eC (.int 9)) ai)))) ai)))) (az (dh (cb (ae (eC (.int 31)) ai)) (gN 5) (az (aP (cT (i6 (aa 2) (e2 aT (aC bX (ae (aa 0) (ae (aa 4) ai))) (eC (.int 0)))) (e2 dg (aa 5) (aa 1))) (gN 2)) (bR (dD (aa 2)) (dI (fJ (aa 3) (aa 5))) bT))) (aO (jn (aa 3)))))
noncomputable def vE (W:World):List D->ag->Res D:=bc 1 12 (az (aP (bB (ae TK.wx (ae (e2 bY (eC (.int 1)) (aC bX (ae (aa 0) (ae (eC (.int 3)) ai)))) (ae (e2 bY (eC (.int 1)) (aC bX (ae (aa 0) (ae (eC (.int 3)) ai)))) ai)))) (gT [(gN 1),(gN 2),(gN 3)])) (az (dh (cb (ae (aa 2) ai)) (gN 4) (az (aP (bB (ae (ba 1 [] (cb (ae (eC (.int 8)) ai)) (gN 0) cC (eNew ai)) (ae (eNew ai) ai))) (gT [(gN 5),(gN 6)])) (az (dh (cb (ae (aC bX (ae (aa 0) (ae (eC (.int 4)) ai))) ai)) (gN 7) (az (aP (bB (ae (aC bX (ae (aa 0) (ae (eC (.int 8)) ai))) (ae (aC bX (ae (aa 0) (ae (eC (.int 31)) ai))) ai))) (gT [(gN 8),(gN 9)])) (az (dI (fJ (e2 aq (aa 5) (aa 8)) (aa 9))) (TK.lP W (eC (.bl true)) (aa 1) (bB (ae (eC (.str "mended")) (ae (aa 4) (ae (aa 9) (ae (aa 8) ai))))))))) (az (dh (cb (ae (eC (.int 8)) ai)) (gN 8) (dI (fJ (aa 6) (aC pR (ae (aa 0) (ae (e2 aq (aa 5) (aa 8)) ai)))))) (dh (cb (ae (aC bX (ae (aa 0) (ae (eC (.int 5)) ai))) ai)) (gN 7) (az (aP (aC bX (ae (aa 0) (ae (eC (.int 31)) ai))) (gN 9)) (az (aP (ba 1 [0,3] (cb (ae (eC (.int 8)) ai)) (gN 0) (aE (e2 aT (aC bX (ae (aa 1) (ae (aa 2) ai))) (eC (.int 0)))) (aa 0)) (gN 10)) (az (aP (eB cj (ae (ba 1 [9,6] (bh (aa 10)) (gN 0) (aE (e2 bN (aa 1) (e2 aq (aa 2) (aa 0)))) (aa 0)) ai)) (gN 11)) (TK.lP W (eC (.bl true)) (aa 1) (bB (ae (eC (.str "made")) (ae (aa 4) (ae (aa 9) (ae (bB (ae (aa 11) (ae (eB cj (ae (ba 1 [9,6] (bh (aa 10)) (gN 0) (aE (e2 dg (aa 1) (e2 aq (aa 2) (aa 0)))) (aa 0)) ai)) ai))) ai)))))))))))))) (aO (eB cj (ae (eB TK.qe (ae (eB TK.qd (ae (aa 1) ai)) ai)) ai)))))
noncomputable def uH:List D->ag->Res D:=bc 2 2 (aO (lS (eB oG (ae (ba 1 [1] (bh (aa 0)) (gN 0) cC (e2 bN (aa 0) (aa 1))) ai))))
noncomputable def uU:List D->ag->Res D:=bc 1 3 (az (bR (gu (fF (dD (eB cx (ae (aa 0) (ae (eC (.ty "tuple")) ai))))) (aE (e2 ei (eB dj (ae (aa 0) ai)) (eC (.int 2))))) (aO (eC (.bl false))) bT) (az (aP (aa 0) (gT [(gN 1),(gN 2)])) (aO (cT (aC nN (ae (aa 1) ai)) (cT (aC nN (ae (aa 2) ai)) (aC uH (ae (aa 1) (ae (aa 2) ai))))))))
noncomputable def qV:List D->ag->Res D:=bc 1 1 (aO (aC pL (ae (aa 0) (ae (eC (.int (4))) ai))))
noncomputable def vj:List D->ag->Res D:=bc 1 1 (aO (aC pL (ae (aa 0) (ae (eC (.int (31))) ai))))
noncomputable def u4:List D->ag->Res D:=bc 1 5 (az (bR (gu (fF (dD (eB cx (ae (aa 0) (ae (eC (.ty "tuple")) ai))))) (aE (e2 ei (eB dj (ae (aa 0) ai)) (eC (.int 4))))) (aO (eC (.bl false))) bT) (az (aP (aa 0) (gT [(gN 1),(gN 2),(gN 3),(gN 4)])) (az (bR (gu (fF (dD (aC qV (ae (aa 2) ai)))) (fF (dD (aC vj (ae (aa 3) ai))))) (aO (eC (.bl false))) bT) (az (bR (aE (e2 aT (aa 1) (eC (.str "made")))) (aO (aC uU (ae (aa 4) ai))) bT) (aO (cT (e2 aT (aa 1) (eC (.str "mended"))) (aC qY (ae (aa 4) ai))))))))
noncomputable def uV:List D->ag->Res D:=bc 1 1 (aO (cT (eB cx (ae (aa 0) (ae (eC (.ty "tuple")) ai))) (cT (e2 mR (eB dj (ae (aa 0) ai)) (eC (.int (24)))) (cT (eB jR (ae (ba 1 [] (bh (aa 0)) (gN 0) cC (aC u4 (ae (aa 0) ai))) ai)) (aC nM (ae (aa 0) ai))))))
noncomputable def jb:List D->ag->Res D:=bc 4 4 (aO (ba 1 [1,2,3] (bh (aa 0)) (gN 0) (cv (aE (e2 aT (e2 aq (aa 0) (eC (.int 0))) (eC (.str "made")))) (cv (aE (e2 aT (e2 aq (aa 0) (eC (.int 1))) (aa 1))) (aE (e2 bN (aa 2) (e2 aq (e2 aq (aa 0) (eC (.int 3))) (aa 3)))))) (e2 aq (aa 0) (eC (.int 2)))))
noncomputable def nK:List D->ag->Res D:=bc 3 3 (aO (ba 1 [1,2] (bh (aa 0)) (gN 0) (cv (aE (e2 aT (e2 aq (aa 0) (eC (.int 0))) (eC (.str "mended")))) (cv (aE (e2 aT (e2 aq (aa 0) (eC (.int 1))) (aa 1))) (aE (e2 aT (e2 aq (aa 0) (eC (.int 3))) (aa 2))))) (e2 aq (aa 0) (eC (.int 2)))))
noncomputable def uh:List D->ag->Res D:=bc 3 3 (aO (eB oG (ae (ba 1 [1,2] (bh (aa 0)) (gN 0) cC (nr jW mR (aa 1) (aa 0) (aa 2))) ai)))
noncomputable def qZ:List D->ag->Res D:=bc 3 5 (az (aP (aC jb (ae (aa 0) (ae (aa 1) (ae (aa 2) (ae (eC (.int (1))) ai))))) (gN 3)) (az (aP (aC nK (ae (aa 0) (ae (aa 1) (ae (aa 2) ai)))) (gN 4)) (aO (Hx 2 [3,4] (bh (e1 pO (aC jb (ae (aa 0) (ae (aa 1) (ae (aa 2) (ae (eC (.int (0))) ai))))))) (gN 0) cC (qM (ae (aa 0) (ae (eC (.int (31))) ai))) (gN 1) (cv (gu (aE (e2 bN (aa 1) (aa 2))) (cv (aE (e2 aT (aa 1) (aa 0))) (aE (e2 bN (aa 0) (aa 3))))) (fF (dD (aC uh (ae (aa 3) (ae (aa 0) (ae (aa 1) ai))))))) (bB (ae (aa 0) (ae (aa 1) ai)))))))
noncomputable def uJ:List D->ag->Res D:=bc 1 1 (aO (Hy 4 [0] (cb (ae (eC (.int (4))) ai)) (gN 0) cC (cb (ae (eC (.int (8))) ai)) (gN 1) cC (bh (aC qZ (ae (aa 4) (ae (aa 0) (ae (aa 1) ai))))) (gT [gN 2,gN 3]) cC (bB (ae (aa 0) (ae (aa 1) (ae (aa 2) (ae (aa 3) ai)))))))
noncomputable def u5:List D->ag->Res D:=bc 1 1 (aO (cT (aC uV (ae (aa 0) ai)) (TK.Ay (aC uJ (ae (aa 0) ai)))))
noncomputable def yJ:List D->ag->Res D:=bc 3 3 (aO (i6 (e2 bN (eC (.bl true)) (aa 0)) (cT (e2 bN (eC (.bl false)) (aa 0)) (i6 (lS (aa 1)) (aa 2)))))
noncomputable def zl:List D->ag->Res D:=bc 3 3 (aO (cT (lS (aa 1)) (i6 (e2 bN (eC (.bl false)) (aa 0)) (cT (aa 2) (e2 ei (aa 0) (dR ai))))))
noncomputable def wb:List D->ag->Res D:=bc 3 9 (az (aP (rG 1 [] (cb (ae (eC (.int 31)) ai)) (gN 0) cC (dR (ae (eC (.bl false)) (ae (eC (.bl true)) ai)))) (gN 3)) (az (aP (rG 1 [] (cb (ae (eC (.int 32)) ai)) (gN 0) cC (eC (.bl false))) (gN 4)) (az (dh (bh (aa 0)) (gN 5) (az (bR (cv (aE (e2 aT (e2 aq (aa 5) (eC (.int 0))) (eC (.str "mended")))) (cv (aE (e2 aT (e2 aq (aa 5) (eC (.int 1))) (aa 1))) (aE (e2 aT (e2 aq (aa 5) (eC (.int 3))) (aa 2))))) (az (fS (ba 1 [] (bh (e2 aq (aa 3) (e2 aq (aa 5) (eC (.int 2))))) (gN 0) (fF (dD (aa 0))) (aa 0)) (aa 3) (e2 aq (aa 5) (eC (.int 2)))) (fS (eC (.bl true)) (aa 4) (e2 aq (aa 5) (eC (.int 2))))) bT) (bR (cv (aE (e2 aT (e2 aq (aa 5) (eC (.int 0))) (eC (.str "made")))) (cv (aE (e2 aT (e2 aq (aa 5) (eC (.int 1))) (aa 1))) (aE (e2 bN (aa 2) (e2 bY (e2 aq (e2 aq (aa 5) (eC (.int 3))) (eC (.int 0))) (e2 aq (e2 aq (aa 5) (eC (.int 3))) (eC (.int 1)))))))) (fS (ba 1 [2,5] (bh (e2 aq (aa 3) (e2 aq (aa 5) (eC (.int 2))))) (gN 0) (aE (e2 aT (aa 0) (e2 bN (aa 1) (e2 aq (e2 aq (aa 2) (eC (.int 3))) (eC (.int 0)))))) (aa 0)) (aa 3) (e2 aq (aa 5) (eC (.int 2)))) bT))) (az (dh (qM (ae (eC (.int 1)) (ae (eC (.int 31)) ai))) (gN 6) (az (aP (bB (ae (e2 aq (aa 3) (e2 ql (aa 6) (eC (.int 1)))) (ae (e2 aq (aa 4) (aa 6)) ai))) (gT [(gN 7),(gN 8)])) (fS (ba 1 [7,8] (bh (e2 aq (aa 3) (aa 6))) (gN 0) (gu (cv (dD (aa 0)) (aE (e2 ei (aa 1) (dR ai)))) (dD (aC zl (ae (aa 1) (ae (aa 0) (ae (aa 2) ai)))))) (aa 0)) (aa 3) (aa 6)))) (az (dh (Cu (ae (eC (.int 29)) (ae (e1 mH (eC (.int 1))) (ae (e1 mH (eC (.int 1))) ai)))) (gN 6) (fS (ba 1 [3,4,6] (bh (e2 aq (aa 3) (aa 6))) (gN 0) (dD (aC yJ (ae (e2 aq (aa 1) (e2 bY (aa 3) (eC (.int 1)))) (ae (aa 0) (ae (e2 aq (aa 2) (e2 bY (aa 3) (eC (.int 1)))) ai))))) (aa 0)) (aa 3) (aa 6))) (aO (ba 1 [] (bh (jn (aa 3))) (gN 0) cC (eB cj (ae (aa 0) ai)))))))))
noncomputable def pJ:List D->ag->Res D:=bc 1 1 (bR (fF (dD (aC u5 (ae (aa 0) ai)))) BS bT)
noncomputable def pH:List D->ag->Res D:=bc 1 1 (bR (fF (dD (aC qV (ae (aa 0) ai)))) BS bT)
noncomputable def uj:List D->ag->Res D:=bc 3 8 (az (aP (aC jb (ae (aa 0) (ae (aa 1) (ae (aa 2) (ae (eC (.int (0))) ai))))) (gN 3)) (az (aP (aC nK (ae (aa 0) (ae (aa 1) (ae (aa 2) ai)))) (gN 4)) (az (aP (eNew ai) (gN 5)) (az (aP (eC (.bl false)) (gN 6)) (az (dh (cb (ae (eC (.int (31))) ai)) (gN 7) (az (aP (i6 (e2 bN (aa 7) (aa 3)) (cT (aa 6) (e2 dg (aa 7) (aa 4)))) (gN 6)) (bR (dD (aa 6)) (dI (fJ (aa 5) (aa 7))) bT))) (aO (jn (aa 5))))))))
noncomputable def ux:List D->ag->Res D:=bc 3 8 (az (aP (aC jb (ae (aa 0) (ae (aa 1) (ae (aa 2) (ae (eC (.int (1))) ai))))) (gN 3)) (az (aP (aC nK (ae (aa 0) (ae (aa 1) (ae (aa 2) ai)))) (gN 4)) (az (aP (eNew ai) (gN 5)) (az (aP (eC (.bl false)) (gN 6)) (az (dh (Co (ae (eC (.int (31))) ai)) (gN 7) (az (bR (gu (dD (aa 6)) (gu (aE (e2 bN (aa 7) (aa 3))) (aE (e2 bN (aa 7) (aa 4))))) (dI (fJ (aa 5) (aa 7))) bT) (aP (cT (i6 (aa 6) (e2 bN (aa 7) (aa 3))) (e2 dg (aa 7) (aa 4))) (gN 6)))) (aO (jn (aa 5))))))))
noncomputable def qW:List D->ag->Res D:=bc 2 2 (aO (eB cj (ae (ba 1 [1,0] (cb (ae (eC (.int (8))) ai)) (gN 0) (aE (e2 bN (aa 1) (e2 aq (aa 2) (aa 0)))) (aa 0)) ai)))
noncomputable def pG:List D->ag->Res D:=bc 2 4 (az (aP (ba 1 [0,1] (cb (ae (eC (.int (8))) ai)) (gN 0) cC (aC uj (ae (aa 1) (ae (aa 2) (ae (aa 0) ai))))) (gN 2)) (az (aP (ba 1 [0,1] (cb (ae (eC (.int (8))) ai)) (gN 0) cC (aC ux (ae (aa 1) (ae (aa 2) (ae (aa 0) ai))))) (gN 3)) (aO (ba 1 [2,3] (cb (ae (eC (.int (31))) ai)) (gN 0) cC (bB (ae (aC qW (ae (aa 1) (ae (aa 0) ai))) (ae (aC qW (ae (aa 2) (ae (aa 0) ai))) ai)))))))
end DI
namespace DI
open PySem L2
noncomputable def lV (x:D) (o i:Env->ag->Res D) (env:Env) (s:ag):Res Unit:=au (o env s) λd s=>au (i env s) λn s=>match eR d n x s with
 |some s'=>ok () s'
 |none=>none
noncomputable def sf (fa:Env->ag->Res (List D)) (o i o' i':Env->ag->Res D):Env->ag->Res Fl:=λenv s=>au (fa env s) λds s=>match ds with
 | [x,y]=>au (lV x o i env s) λ_ s=>au (lV y o' i' env s) λ_ s=>ok (.nx env) s
 |_=>none
section
variable {X:Cx} {Ξ:Wd->bH->Prop} {a b:Expr} {pos:Pos} {fa:Env->ag->Res (List D)}
theorem GG (S:aN K w) (eo:bZ K w env σ) (du:DV K w x u)
 (h:Out K Ξ w (lV x fo fi env w.aJ) λw' _=>Q σ w'.H):I0 (tE K Ξ fo) (tE K Ξ fi) Ig u σ w.H Q:=by
 refine⟨w,env,rfl,S,eo,(Out.au h).mono λw2 d l2 S2 h2 v dv=>?_⟩;refine⟨w2,env,rfl,S2,eo.le l2,(Out.au h2).mono λw3 n l3 S3 h3 m dm=>?_⟩
 cases hd:eR d n x w3.aJ with
 |none=>rw[hd] at h3;exact h3.elim
 |some s' =>
  rw[hd] at h3;obtain⟨a,xs,k,j,e1,e2,q1,q2,w4,eH,es,le,S4⟩:=Hq S3 (l3 _ _ dv) dm ((l2.trans l3) _ _ du) hd;refine⟨a,xs,k,j,e1,e2,q1,q2,?_⟩;rw[<- eH];exact h3 w4 le S4 es
theorem SS {o i o' i':Expr} {p1 p2 pt:Pos} {kt kv} {pv:Pos} {fo fi J6 J7:Env->ag->Res D} (hc:X.calm=true) (ha:PA X [a,b] (tA X.K Ξ fa)) (ho:PE X o (tE X.K Ξ fo)) (hi:PE X i (tE X.K Ξ fi)) (cP:PE X o' (tE X.K Ξ J6)) (ma:PE X i' (tE X.K Ξ J7))
  (W4:∀v,acZ (.Subscript o i p1) X.env v=(do
   let ov <- abz [v] (eval o X.env)
   let iv <- abz [v,ov] (eval i X.env)
   acL p1
   abz [v,ov,iv] (setItem ov iv v)
   release [v,ov,iv] []):=by intro _;rfl)
  (BV:∀v,acZ (.Subscript o' i' p2) X.env v=(do
   let ov <- abz [v] (eval o' X.env)
   let iv <- abz [v,ov] (eval i' X.env)
   acL p2
   abz [v,ov,iv] (setItem ov iv v)
   release [v,ov,iv] []):=by intro _;rfl)
  (hs:abk [.Tuple [.Subscript o i p1,.Subscript o' i' p2] kt pt] (.Tuple [a,b] kv pv) pos.line X.env=pure false:=by rfl) (hw:abl [.Tuple [.Subscript o i p1,.Subscript o' i' p2] kt pt] (.Tuple [a,b] kv pv) X.env=pure none:=by rfl) :
  PS X (.Assign [.Tuple [.Subscript o i p1,.Subscript o' i' p2] kt pt] (.Tuple [a,b] kv pv) pos) (tS X.K Ξ (sf fa fo fi J6 J7)) :=
 je (v5 (G7 ha) (jE (n:=2) hc (iI (vZ ho hi set_list W4) (iI (vZ cP ma set_list BV) nT))) hs hw) λD0 σ H aB=>by
  obtain⟨w,env,eH,S,eo,h⟩:=aB;subst eH;refine⟨w,env,rfl,S,eo,(Out.au h).mono λw1 ds l1 S1 h1 vs ar=>?_⟩
  rcases ds with _ | ⟨x,_ | ⟨y,_ | ⟨z,r⟩⟩⟩
  ·exact h1.elim
  ·exact h1.elim
  ·obtain⟨u1,r1,e1,W5,u2,r2,e2,W6,e3⟩:=ar
   subst e1 e2 e3;refine⟨by show 2<=Zf;decide,λp hp=>⟨p,[u1,u2],rfl,aS.of cF,rfl,u1,[u2],rfl,?_⟩⟩;have le:=(Fw.grow (K:=X.K) (o:=.tup [u1,u2]) hp).le;have S2:=S1.grow (o:=.tup [u1,u2]) hp;refine GG (w:=w1.grow p (.tup [u1,u2])) S2 (eo.le (l1.trans le)) (le _ _ W5) ((Out.au (h1.from le)).mono λw3 _ l3 S3 h3=>⟨u2,[],rfl,?_⟩);exact GG S3 (eo.le (l1.trans (le.trans l3))) ((le.trans l3) _ _ W6) ((Out.au h3).mono λw4 _ l4 S4 h4=>⟨rfl,aK S4 h4 σ (eo.le (l1.trans (le.trans (l3.trans l4))))⟩)
  ·exact h1.elim
theorem SU {j1 j2}:PE X (.Dict [some (.Constant (.str i) j1 p1)] [.Constant (.int v) j2 p2] pos) (tE X.K Ξ (eC (.aW [(acK i,v)]))) :=
 cG (Qp (OE G3 zA Qo) rfl rfl (by simp) (by simp)) fun σ H Q aB=>by
  obtain⟨w,env,eH,S,eo,h⟩:=aB;subst eH;intro p hp;refine⟨cF,[(acK i,.int v)],rfl,by simp,?_⟩;have e:upd (upd w.H p (.dK [])) p (.dK (p9 [] [(acK i,.int v)]))=upd w.H p (.dK [(acK i,.int v)]):=by
   funext b;by_cases hb:b=p
   ·subst hb;rw[cF,cF];rfl
   ·rw[bq hb,bq hb,bq hb]
  rw[e];exact h (w.grow p (.dK [(acK i,.int v)])) (Fw.grow hp).le (S.grow hp) rfl (.ref p) ⟨p,rfl,(show ¬ w.Z p from lu S hp),cF⟩
noncomputable def zQ (ds:List D) (s:ag):Res D:=match ds with
 | [d]=>match res d s with
  | .tup es=>ok (.aj s.length) (s++[.lst es])
  |_=>none
 |_=>none
theorem QW:cf X (.type "list") (rC X.K Ξ zQ):=by
 rintro pins s σ H xs us Q I r ⟨w,ds,rfl,S,ar,h⟩;unfold zQ at h;split at h
 ·obtain⟨v,rfl,dv⟩:=lC ar
  split at h
  ·rename_i es e1
   rw[dZ e1 (by intro _ z;cases z)] at dv;simp only[DV] at dv;obtain⟨a,xs,rfl,ha,ar⟩:=dv;exact xY pins s σ w.H _ us Q I r ⟨a,xs,rfl,.inr ha,Jp S ar h⟩
  ·exact h.elim
 ·exact h.elim
end
end DI
namespace DI
open PySem L2
noncomputable def notStar:Expr->Bool
 | .Starred ..=>false
 |_=>true
theorem QX (h:notStar e=true):Zp (e::es) env=(false,eval e env)::Zp es env:=by
 cases e<;>first|rfl|cases h
section
variable {X:Cx} {Ξ:Wd->bH->Prop} {e:Expr} {es:List Expr} {f:Env->ag->Res D} {fa:Env->ag->Res (List D)} {pos:Pos}
theorem dw (ha:PE X e (tE X.K Ξ f)) (hr:PA X es (tA X.K Ξ fa)) (h:notStar e=true):PA X (e::es) (tA X.K Ξ (ae f fa)):=ah ha hr (QX h)
theorem SV {e1 e2 e3 e4 e5 e6 e7 e8:Expr} {f1 f2 f3 f4 f5 f6 f7 f8:Env->ag->Res D} (h1:PE X e1 (tE X.K Ξ f1)) (h2:PE X e2 (tE X.K Ξ f2)) (h3:PE X e3 (tE X.K Ξ f3)) (h4:PE X e4 (tE X.K Ξ f4)) (h5:PE X e5 (tE X.K Ξ f5)) (h6:PE X e6 (tE X.K Ξ f6)) (h7:PE X e7 (tE X.K Ξ f7)) (h8:PE X e8 (tE X.K Ξ f8)) (s1:notStar e1=true:=by rfl) (s2:notStar e2=true:=by rfl) (s3:notStar e3=true:=by rfl) (s4:notStar e4=true:=by rfl) (s5:notStar e5=true:=by rfl) (s6:notStar e6=true:=by rfl) (s7:notStar e7=true:=by rfl) (s8:notStar e8=true:=by rfl):PE X (.List [e1,e2,e3,e4,e5,e6,e7,e8] pos) (tE X.K Ξ (dR (ae f1 (ae f2 (ae f3 (ae f4 (ae f5 (ae f6 (ae f7 (ae f8 ai)))))))))):=fX (dw h1 (dw h2 (dw h3 (dw h4 (dw h5 (dw h6 (dw h7 (dw h8 ak s8) s7) s6) s5) s4) s3) s2) s1)
theorem QY {e1 e2 e3 e4 e5 e6 e7 e8 e9 e10 Cw Cy Cz CB CC CD CF CG:Expr} {f1 f2 f3 f4 f5 f6 f7 f8 f9 J8 J9 Ka Kb Kc Kd Ke Kf Kg:Env->ag->Res D} (h1:PE X e1 (tE X.K Ξ f1)) (h2:PE X e2 (tE X.K Ξ f2)) (h3:PE X e3 (tE X.K Ξ f3)) (h4:PE X e4 (tE X.K Ξ f4)) (h5:PE X e5 (tE X.K Ξ f5)) (h6:PE X e6 (tE X.K Ξ f6)) (h7:PE X e7 (tE X.K Ξ f7)) (h8:PE X e8 (tE X.K Ξ f8)) (h9:PE X e9 (tE X.K Ξ f9)) (W7:PE X e10 (tE X.K Ξ J8)) (nj:PE X Cw (tE X.K Ξ J9)) (ni:PE X Cy (tE X.K Ξ Ka)) (Cm:PE X Cz (tE X.K Ξ Kb)) (W8:PE X CB (tE X.K Ξ Kc)) (tH:PE X CC (tE X.K Ξ Kd)) (W9:PE X CD (tE X.K Ξ Ke)) (Xa:PE X CF (tE X.K Ξ Kf)) (Xb:PE X CG (tE X.K Ξ Kg)) (s1:notStar e1=true:=by rfl) (s2:notStar e2=true:=by rfl) (s3:notStar e3=true:=by rfl) (s4:notStar e4=true:=by rfl) (s5:notStar e5=true:=by rfl) (s6:notStar e6=true:=by rfl) (s7:notStar e7=true:=by rfl) (s8:notStar e8=true:=by rfl) (s9:notStar e9=true:=by rfl) (Xc:notStar e10=true:=by rfl) (Xd:notStar Cw=true:=by rfl) (Xe:notStar Cy=true:=by rfl) (Xf:notStar Cz=true:=by rfl) (Xg:notStar CB=true:=by rfl) (Xh:notStar CC=true:=by rfl) (Xi:notStar CD=true:=by rfl) (Xj:notStar CF=true:=by rfl) (Xk:notStar CG=true:=by rfl):PE X (.List [e1,e2,e3,e4,e5,e6,e7,e8,e9,e10,Cw,Cy,Cz,CB,CC,CD,CF,CG] pos) (tE X.K Ξ (dR (ae f1 (ae f2 (ae f3 (ae f4 (ae f5 (ae f6 (ae f7 (ae f8 (ae f9 (ae J8 (ae J9 (ae Ka (ae Kb (ae Kc (ae Kd (ae Ke (ae Kf (ae Kg ai)))))))))))))))))))):=fX (dw h1 (dw h2 (dw h3 (dw h4 (dw h5 (dw h6 (dw h7 (dw h8 (dw h9 (dw W7 (dw nj (dw ni (dw Cm (dw W8 (dw tH (dw W9 (dw Xa (dw Xb ak Xk) Xj) Xi) Xh) Xg) Xf) Xe) Xd) Xc) s9) s8) s7) s6) s5) s4) s3) s2) s1)
end
end DI
namespace DI
open PySem L2
noncomputable def yl:Env->ag->Res Fl:=(az (aP (eB jH (ae (e2 aq (e2 aq (aa 3) (aa 8)) (aa 6)) ai)) (gN 9)) (az (bR (cv (aE (e2 bN (aa 8) (aa 5))) (cv (aE (e2 bN (eC (.bl true)) (aa 9))) (aE (e2 dg (bB (ae (eC (.str "mended")) (ae (aa 2) (ae (aa 6) (ae (aa 8) ai))))) (aa 1))))) (aP (dR (ae (eC (.bl true)) ai)) (gN 9)) bT) (bR (dD (e2 aq (aa 9) (aC bX (ae (aa 0) (ae (eB dj (ae (aa 9) ai)) ai))))) (dI (fJ (aa 7) (aa 8))) bT)))
noncomputable def ym:Env->ag->Res Fl:=(az (aP (eNew ai) (gN 7)) (az (dh (cb (ae (eC (.int 8)) ai)) (gN 8) yl) (az (dI (fJ (aa 4) (eB cj (ae (aa 7) ai)))) (aP (jn (aa 7)) (gN 5)))))
noncomputable def u6:List D->ag->Res D:=bc 3 10 (az (sC 3 4 5 (ae (ba 1 [1,2] (cb (ae (eC (.int 8)) ai)) (gN 0) cC (aC wb (ae (aa 1) (ae (aa 2) (ae (aa 0) ai))))) (ae (eNew ai) (ae (dR ai) ai)))) (az (dh (cb (ae (eC (.int 31)) ai)) (gN 6) ym) (aO (eB cj (ae (aa 4) ai)))))
noncomputable def uC:List D->ag->Res D:=bc 2 2 (az (dI (aC pJ (ae (aa 0) ai))) (az (dI (aC pH (ae (aa 1) ai))) (aO (eB cj (ae (ba 2 [] (bh (aC pG (ae (aa 0) (ae (aa 1) ai)))) (gT [gN 0,gN 1]) cC (aa 0)) ai)))))
noncomputable def uK:List D->ag->Res D:=bc 2 2 (az (dI (aC pJ (ae (aa 0) ai))) (az (dI (aC pH (ae (aa 1) ai))) (aO (eB cj (ae (ba 2 [] (bh (aC pG (ae (aa 0) (ae (aa 1) ai)))) (gT [gN 0,gN 1]) cC (eB cj (ae (ba 1 [1] (cb (ae (eC (.int (8))) ai)) (gN 0) (aE (e2 dg (aa 0) (aa 1))) (aa 0)) ai))) ai)))))
noncomputable def wc:List D->ag->Res D:=bc 1 2 (az (aP (dR (ae (eC .aA) (ae (eC (.bl true)) (ae (eC (.bl false)) (ae (e1 mH (eC (.int 1))) (ae (eC (.int 8)) (ae (eC (.int 31)) (ae (eC (.int 4)) (ae (eC (.str "")) (ae (eC (.str "0")) (ae (eC (.str "made")) (ae (bB ai) (ae (dR ai) (ae (eC (.aW [])) (ae (bB (ae (eC (.int 0)) ai)) (ae (dR (ae (eC (.int 0)) ai)) (ae (e2 qm (eC (.int 10)) (eC (.int 29))) (ae (e1 mH (e2 qm (eC (.int 10)) (eC (.int 20)))) (ae (bB (ae (eC (.int 8)) ai)) ai))))))))))))))))))) (gN 1)) (az (aP (e2 bY (aa 1) (dR (ae (bB (ae (eC (.str "made")) ai)) (ae (bB (ae (eC (.int 0)) (ae (eC (.int 0)) ai))) (ae (bB (ae (bB (ae (eC (.int 0)) ai)) (ae (bB (ae (eC (.int 0)) ai)) ai))) (ae (eC (.aW [(acK "made",0)])) (ae (bB (ae (bB ai) (ae (bB ai) ai))) (ae (bB (ae (bB (ae (eC (.bl true)) ai)) (ae (bB ai) ai))) (ae (bB (ae (bB (ae (eC (.int 1)) (ae (eC (.int 0)) ai))) (ae (bB ai) ai))) (ae (eC (.str "made 0 0 -/-")) ai)))))))))) (gN 1)) (aO (e2 aq (aa 1) (aC bX (ae (aa 0) (ae (eC (.int 26)) ai)))))))
noncomputable def yK:Env->ag->Res Fl:=(az (aP (eB cj (ae (ba 1 [10,3] (cb (ae (eC (.int 8)) ai)) (gN 0) (aE (e2 ei (e2 bN (aa 0) (aa 1)) (e2 aT (aa 0) (aa 2)))) (aa 0)) ai)) (gN 11)) (dI (fJ (aa 8) (xy (aE (nr mR jW (aa 2) (aa 9) (aa 7))) (aa 11) (aa 10)))))
noncomputable def vF:List D->ag->Res D:=bc 2 12 (az (aP (bB (ae (aC bX (ae (aa 0) (ae (eC (.int 31)) ai))) (ae (aC bX (ae (aa 0) (ae (eC (.int 8)) ai))) (ae (aC bX (ae (aa 0) (ae (eC (.int 7)) ai))) ai)))) (gT [(gN 2),(gN 3),(gN 4)])) (az (aP (aC bX (ae (aa 0) (ae (eC (.int 31)) ai))) (gN 5)) (az (bR (aE (e2 aT (aa 4) (eC (.int 0)))) (aO (e2 aq (dR (ae (kb (aa 1) ka (jS (eC (.int 30)))) (ae (e2 bY (aa 1) (kb (aa 1) (jS (e1 mH (eC (.int 1)))) ka)) (ae (eB jH (ae (aa 1) ai)) (ae (e1 wX (aa 1)) ai))))) (aC bX (ae (aa 0) (ae (eC (.int 4)) ai))))) bT) (az (bR (aE (e2 aT (aa 4) (eC (.int 1)))) (az (aP (eB zQ (ae (aa 1) ai)) (gN 6)) (az (sf (ae (e2 aq (aa 6) (aa 5)) (ae (e2 aq (aa 6) (aa 2)) ai)) (aa 6) (aa 2) (aa 6) (aa 5)) (aO (eB cj (ae (aa 6) ai))))) bT) (az (aP (e2 aq (dR (ae (e2 bY (aa 2) (eC (.int 1))) (ae (eC (.int 31)) (ae (eB kC (ae (e2 bY (aa 2) (eC (.int 1))) (ae (aa 5) ai))) ai)))) (e2 jh (aa 4) (eC (.int 3)))) (gN 7)) (az (aP (eNew ai) (gN 8)) (az (dh (An (ae (aa 1) ai)) (gT [(gN 9),(gN 10)]) yK) (az (bR (aE (e2 aT (aa 4) (eC (.int 2)))) (fS (e2 aq (dR (ae (eB jH (ae (e2 aq (aa 8) (aa 2)) ai)) (ae (e2 bY (e2 aq (aa 8) (aa 2)) (bB (ae (eC (.int 9)) ai))) (ae (eC .aA) (ae (e2 bY (e2 aq (aa 8) (aa 2)) (bB (ae (eC (.int 0)) ai))) ai))))) (aC bX (ae (aa 0) (ae (eC (.int 4)) ai)))) (aa 8) (aa 2)) bT) (aO (eB cj (ae (aa 8) ai)))))))))))
noncomputable def vG:List D->ag->Res D:=bc 1 1 (aO (cT (eB cx (ae (aa 0) (ae (eC (.ty "int")) ai))) (cT (lS (eB cx (ae (aa 0) (ae (eC (.ty "bool")) ai)))) (nr mR mR (eC (.int 0)) (aa 0) (eC (.int 7))))))
noncomputable def vm:Env->ag->Res Fl:=(az (bR (gu (fF (dD (eB cx (ae (aa 3) (ae (eC (.ty "tuple")) ai))))) (aE (e2 ei (ba 1 [] (bh (aa 3)) (gN 0) (fF (dD (aC vG (ae (aa 0) ai)))) (aa 0)) (dR ai)))) (aO (eC (.bl false))) bT) (bR (aE (e2 ei (eB jH (ae (aa 3) ai)) (e1 rf (aa 3)))) (aO (eC (.bl false))) bT))
noncomputable def yL:Env->ag->Res Fl:=(bR (cv (aE (e2 dg (aa 6) (e2 aq (aa 2) (aa 5)))) (aE (e2 dg (bB (ae (aa 5) (ae (aa 6) ai))) (aa 4)))) (aO (eC (.bl false))) bT)
noncomputable def yM:Env->ag->Res Fl:=(dh (bh (e2 aq (aa 2) (e2 ql (aa 5) (eC (.int 1))))) (gN 6) yL)
noncomputable def vn:Env->ag->Res Fl:=(bR (cv (aE (e2 aT (aa 7) (eC (.str "made")))) (aE (e2 aT (aa 8) (aa 1)))) (az (aP (ba 1 [2,5] (bh (e2 aq (aa 9) (eC (.int 0)))) (gN 0) (aE (e2 dg (aa 0) (e2 aq (aa 1) (aa 2)))) (aa 0)) (gN 10)) (bR (aE (e2 ei (e2 bY (aa 10) (ba 1 [2,5] (bh (e2 aq (aa 9) (eC (.int 1)))) (gN 0) (aE (e2 bN (aa 0) (e2 aq (aa 1) (aa 2)))) (aa 0))) (dR ai))) (aO (eC (.bl false))) bT)) bT)
noncomputable def lj:List D->ag->Res D:=bc 3 11 (az (bR (gu (fF (dD (eB cx (ae (aa 2) (ae (eC (.ty "tuple")) ai))))) (aE (e2 ei (eB dj (ae (aa 2) ai)) (eC (.int 31))))) (aO (eC (.bl false))) bT) (az (dh (bh (aa 2)) (gN 3) vm) (az (aP (ba 1 [1] (bh (aa 0)) (gN 0) (aE (e2 aT (kb (aa 0) ka (jS (eC (.int 2)))) (bB (ae (eC (.str "mended")) (ae (aa 1) ai))))) (kb (aa 0) (jS (eC (.int 2))) ka)) (gN 4)) (az (dh (qM (ae (eC (.int 1)) (ae (eC (.int 31)) ai))) (gN 5) yM) (az (bR (aE (e2 ei (ba 1 [2] (bh (aa 4)) (gN 0) (aE (e2 bN (e2 aq (aa 0) (eC (.int 1))) (e2 aq (aa 1) (e2 aq (aa 0) (eC (.int 0)))))) (aa 0)) (dR ai))) (aO (eC (.bl false))) bT) (az (dh (bh (aa 0)) (gT [(gN 7),(gN 8),(gN 5),(gN 9)]) vn) (aO (eC (.bl true)))))))))
noncomputable def uL:List D->ag->Res D:=bc 4 7 (az (aP (aC nK (ae (aa 0) (ae (aa 1) (ae (aa 2) ai)))) (gN 4)) (az (aP (aC jb (ae (aa 0) (ae (aa 1) (ae (aa 2) (ae (eC (.int (1))) ai))))) (gN 5)) (az (aP (aC jb (ae (aa 0) (ae (aa 1) (ae (aa 2) (ae (eC (.int (0))) ai))))) (gN 6)) (aO (cT (eB jR (ae (ba 1 [3] (bh (aa 6)) (gN 0) cC (e2 bN (aa 0) (aa 1))) ai)) (cT (lS (eB oG (ae (ba 1 [5,4] (bh (aa 3)) (gN 0) cC (i6 (e2 bN (aa 0) (aa 1)) (e2 bN (aa 0) (aa 2)))) ai))) (eB jR (ae (ba 1 [3,4] (bh (aa 3)) (gN 0) cC (i6 (e2 bN (e2 bY (aa 0) (eC (.int 1))) (aa 1)) (i6 (e2 bN (e2 bY (aa 0) (eC (.int 1))) (aa 2)) (e2 aT (e2 bY (aa 0) (eC (.int 1))) (eC (.int (31))))))) ai))))))))
noncomputable def uM:List D->ag->Res D:=bc 2 2 (aO (ba 1 [1,0] (cb (ae (eC (.int (31))) ai)) (gN 0) (aE (e2 bN (aa 1) (e2 aq (aa 2) (aa 0)))) (aa 0)))
noncomputable def kW:List D->ag->Res D:=bc 3 3 (az (dI (aC pJ (ae (aa 0) ai))) (az (dI (aC pH (ae (aa 1) ai))) (az (bR (gu (fF (dD (eB cx (ae (aa 2) (ae (eC (.ty "tuple")) ai))))) (aE (e2 ei (eB dj (ae (aa 2) ai)) (eC (.int (31)))))) (aO (eC (.bl false))) bT) (aO (cT (eB jR (ae (ba 1 [] (bh (aa 2)) (gN 0) cC (aC nN (ae (aa 0) ai))) ai)) (eB jR (ae (ba 1 [0,1,2] (cb (ae (eC (.int (8))) ai)) (gN 0) cC (aC uL (ae (aa 1) (ae (aa 2) (ae (aa 0) (ae (aC uM (ae (aa 3) (ae (aa 0) ai))) ai)))))) ai)))))))
noncomputable def zR:Env->ag->Res Fl:=(dI (fJ (aa 6) (aC vF (ae (aa 2) (ae (e2 aq (aa 5) (aC bX (ae (aa 2) (ae (eC (.int 3)) ai)))) ai)))))
noncomputable def zS:Env->ag->Res Fl:=(az (sv 9 10 (ae (eB sd (ae (aa 8) ai)) (ae (aC lj (ae (aa 3) (ae (aa 4) (ae (aa 8) ai)))) ai))) (bR (gu (fF (dD (aC (vC 8) (ae (aC kW (ae (aa 3) (ae (aa 4) (ae (aa 8) ai)))) (ae (aa 10) ai))))) (aE (e2 ei (eB sd (ae (aa 8) ai)) (aa 9)))) (aO (eC (.bl false))) bT))
noncomputable def zT (W:World):Env->ag->Res Fl:=(az (aP (aC vh (ae (aa 0) (ae (aa 1) ai))) (gN 2)) (az (sv 3 4 (ae (kb (aC (vE W) (ae (aa 2) ai)) ka (jS (eC (.int 24)))) (ae (aC bX (ae (aa 2) (ae (eC (.int 4)) ai))) ai))) (az (aP (dR (ae (aC u6 (ae (aa 2) (ae (aa 3) (ae (aa 4) ai)))) (ae (aC uC (ae (aa 3) (ae (aa 4) ai))) (ae (aC uK (ae (aa 3) (ae (aa 4) ai))) ai)))) (gN 5)) (az (aP (e2 wa (aa 5) (dR (ae (aC wc (ae (aa 2) ai)) ai))) (gN 6)) (az (dh (cb (ae (eC (.int 5)) ai)) (gN 7) zR) (dh (bh (jn (aa 6))) (gN 8) zS))))))
noncomputable def wz (W:World):List D->ag->Res D:=bc 1 11 (az (dh (cb (ae (eB kC (ae (eC (.int 1)) (ae (eB wq (ae (eB dj (ae (aa 0) ai)) (ae (eC (.int 3)) ai))) ai))) ai)) (gN 1) (zT W)) (aO (eC (.bl true))))
end DI
namespace DI.jA
open PySem L2 DI
noncomputable def top (i:Nat):Stmt:=PySem.Challenge.pw_twinmoulds_k05_lives_looked_at.main.body.getD i (.Pass ⟨0,0,0,0⟩)
structure bJ (K:Frag) (mg:Str->Option Value):Prop where
 mB:mg "all"=none
 zU:mg "any"=none
 vH:mg "bool"=none
 Li:mg "enumerate"=none
 HJ:mg "int"=none
 fQ:mg "isinstance"=none
 kz:mg "len"=none
 ll:mg "list"=none
 zV:mg "max"=none
 SW:mg "min"=none
 cJ:mg "range"=none
 GH:mg "repr"=none
 LP:mg "reversed"=none
 HK:mg "set"=none
 yt:mg "sorted"=none
 dY:mg "tuple"=none
 HL:mg "zip"=none
 kZ:∃t,mg "MARKS"=some (.int (8) t)
 u7:∃t,mg "MOULDS"=some (.int (4) t)
 kn:∃t,mg "DAYS"=some (.int (31) t)
 yN:∃t,mg "PAGES"=some (.int (24) t)
 rM:∃t,mg "HAS"=some (.int (0) t)
 rg:∃t,mg "LACKS"=some (.int (1) t)
 LQ:∃f fd,Gd K mg "_law_cell_at" (top 42) ["_law_script","_law_k"] f fd
 NL:∃f fd,Gd K mg "_law_state" (top 43) ["_law_script","_law_k"] f fd
 pS:∃f fd,Gd K mg "_law_take" (top 44) ["_law_state_here","_law_many"] f fd
 NM:∃f fd,Gd K mg "_law_leads" (top 53) ["_law_later","_law_one","_law_free"] f fd
 O9:∃f fd,Gd K mg "_law_gone" (top 52) ["_law_ahead","_law_one","_law_free"] f fd
 QZ:∃f fd,Gd K mg "_law_may" (top 51) ["_law_laid","_law_mould","_law_mark_here"] f fd
 MD:∃f fd,Gd K mg "_law_chance" (top 54) ["_law_state_here","_law_book_here","_law_mould"] f fd
 DO:∃f fd,Gd K mg "is_rising" (top 13) ["things"] f fd
 Lj:∃f fd,Gd K mg "is_number" (top 8) ["thing"] f fd
 yf:∃f fd,Gd K mg "is_below" (top 9) ["thing","many"] f fd
 Es:∃f fd,Gd K mg "is_mark" (top 10) ["thing"] f fd
 DP:∃f fd,Gd K mg "are_marks" (top 19) ["thing"] f fd
 Ll:∃f fd,Gd K mg "are_apart" (top 21) ["marks","others"] f fd
 LR:∃f fd,Gd K mg "is_sheet" (top 20) ["thing"] f fd
 Ea:∃f fd,Gd K mg "is_mould" (top 11) ["thing"] f fd
 NN:∃f fd,Gd K mg "is_day" (top 12) ["thing"] f fd
 ME:∃f fd,Gd K mg "is_page" (top 22) ["thing"] f fd
 LS:∃f fd,Gd K mg "are_laid" (top 23) ["thing"] f fd
 uD:∃f fd,Gd K mg "days_seen" (top 28) ["pages","mould","mark","half"] f fd
 uk:∃f fd,Gd K mg "days_mended" (top 29) ["pages","mould","mark"] f fd
 Kx:∃f fd,Gd K mg "is_any_behind" (top 27) ["days","day","later"] f fd
 MF:∃f fd,Gd K mg "clashes" (top 26) ["pages","mould","mark"] f fd
 Lm:∃f fd,Gd K mg "faults_of" (top 25) ["pages"] f fd
 MG:∃f fd,Gd K mg "is_book" (top 24) ["thing"] f fd
 xZ:∃f fd,Gd K mg "need_book" (top 30) ["thing"] f fd
 xV:∃f fd,Gd K mg "need_mould" (top 14) ["thing"] f fd
 KD:∃f fd,Gd K mg "days_present" (top 37) ["book","mould","mark"] f fd
 KO:∃f fd,Gd K mg "days_absent" (top 38) ["book","mould","mark"] f fd
 LU:∃f fd,Gd K mg "marks_on" (top 36) ["days_by_mark","day"] f fd
 Dz:∃f fd,Gd K mg "sure_sheets" (top 35) ["book","mould"] f fd
 K2:∃f fd,Gd K mg "least_life" (top 33) ["book","mould"] f fd
 Ln:∃f fd,Gd K mg "most_life" (top 34) ["book","mould"] f fd
 NO:∃f fd,Gd K mg "_law_lived" (top 49) ["_law_state_here","_law_mended"] f fd
 Pa:∃f fd,Gd K mg "_law_book" (top 50) ["_law_state_here"] f fd
 Q0:∃f fd,Gd K mg "_law_odd" (top 46) ["_law_state_here"] f fd
 Pb:∃f fd,Gd K mg "_law_bent" (top 55) ["_law_state_here","_law_life"] f fd
 Pc:∃f fd,Gd K mg "_law_mark" (top 57) ["_law_thing"] f fd
 Pd:∃f fd,Gd K mg "_law_good" (top 56) ["_law_book_here","_law_mould","_law_thing"] f fd
 Pe:∃f fd,Gd K mg "_law_same" (top 45) ["_law_found","_law_due"] f fd
 Lo:∃f fd,Gd K mg "goes_with" (top 40) ["book","mould","mark","days"] f fd
 Lp:∃f fd,Gd K mg "days_with" (top 39) ["life","mark"] f fd
 MH:∃f fd,Gd K mg "is_life" (top 32) ["book","mould","thing"] f fd
section
variable {P:ZE} {w:World} {K:Frag} {mg:Str->Option Value} {base:Heap}
theorem Eb:bz ["_law_script","_law_k"] ["_law_script","_law_k"] (aX (top 42)):=⟨rfl,rfl,rfl,by decide +kernel,rfl,by decide +kernel,by decide +kernel⟩
theorem LV (F:bJ K mg) {f:Addr} {fd:ZA} (G:Gd K mg "_law_cell_at" (top 42) ["_law_script","_law_k"] f fd):aV P w K mg base aY 1 f fd ["_law_script","_law_k"] (bx K qT):=by
 have ay:=Eb.nd;exact bI (k:=0) G.fn Eb λbg A outer s H E hr=>(aD (cU (aZ (sA hr) (af 1) (bE kB rfl F.kz kD (ah (af 0) ak)) (bt _)) (aH (aU (aQ (af 0) (af 1)))) cR) (aH (aU ax)))
theorem E5:bz ["_law_script","_law_k","_law_cell"] ["_law_script","_law_k"] (aX (top 43)):=⟨rfl,rfl,rfl,by decide +kernel,rfl,by decide +kernel,by decide +kernel⟩
theorem NP (F:bJ K mg) {f:Addr} {fd:ZA} (G:Gd K mg "_law_state" (top 43) ["_law_script","_law_k"] f fd):aV P w K mg base aY 2 f fd ["_law_script","_law_k"] (bx K vh):=by
 obtain⟨_,_,uW⟩:=F.LQ;have ay:=E5.nd;exact bI (k:=1) G.fn E5 λbg A outer s H E hr=>(aD (bS 2 ay (aL (LV F uW) (hr.mono (by decide)) rfl uW.mg uW.fn.kp uW.b (ah (af 0) (ah (af 1) ak)))) (aH (aU (lK (ah (bE (zI rfl) rfl F.zV Av (ah ax (ah (bO Ao (af 2) (bO Ap ax ax)) ak))) (ah (bO om (af 2) ax) ak))))))
theorem FK:bz ["_law_state_here","_law_many","_law_found","_law_stirred"] ["_law_state_here","_law_many"] (aX (top 44)):=⟨rfl,rfl,rfl,by decide +kernel,rfl,by decide +kernel,by decide +kernel⟩
theorem eV (F:bJ K mg) {f:Addr} {fd:ZA} (G:Gd K mg "_law_take" (top 44) ["_law_state_here","_law_many"] f fd):aV P w K mg base aY 1 f fd ["_law_state_here","_law_many"] (bx K bX):=by
 have ay:=FK.nd;exact bI (k:=0) G.fn FK λbg A outer s H E hr=>(aD (cU (aZ VI (aQ (af 0) ax) ax (bt _)) (aD (bS 2 ay (bO om (aQ (af 0) ax) (af 1))) (aD (mK (bO Io (aQ (af 0) ax) (af 1)) (af 0) ax) (aH (aU (af 2))))) cR) (aD (mK (bO om (bO fm (bO r6 (aQ (af 0) ax) ax) ax) ax) (af 0) ax) (aD (bS 3 ay (bO om (bO fm (bO fm (bO r6 (aQ (af 0) ax) (aQ (af 0) ax)) (bO r6 ax (aQ (af 0) ax))) ax) ax)) (aD (bS 3 ay (bO om (bO fm (bO r6 (af 3) (af 3)) (bO r6 ax (af 3))) ax)) (aH (aU (bO om (bO Io (af 3) ax) (af 1))))))))
theorem E6:bz ["_law_later","_law_one","_law_free"] ["_law_later","_law_one","_law_free"] (aX (top 53)):=⟨rfl,rfl,rfl,by decide +kernel,rfl,by decide +kernel,by decide +kernel⟩
theorem NQ (F:bJ K mg) {f:Addr} {fd:ZA} (G:Gd K mg "_law_leads" (top 53) ["_law_later","_law_one","_law_free"] f fd):aV P w K mg base aY 1 f fd ["_law_later","_law_one","_law_free"] (bx K yJ):=by
 have ay:=E6.nd;exact bI (k:=0) G.fn E6 λbg A outer s H E hr=>(aH (aU (lT (cQ (dE hr) cN (af 0) rfl) (dA (dH (cQ (dE hr) cN (af 0) rfl) (dA (lT (qk (af 1)) (dA (af 2)))))))))
theorem FL:bz ["_law_ahead","_law_one","_law_free"] ["_law_ahead","_law_one","_law_free"] (aX (top 52)):=⟨rfl,rfl,rfl,by decide +kernel,rfl,by decide +kernel,by decide +kernel⟩
theorem Pf (F:bJ K mg) {f:Addr} {fd:ZA} (G:Gd K mg "_law_gone" (top 52) ["_law_ahead","_law_one","_law_free"] f fd):aV P w K mg base aY 1 f fd ["_law_ahead","_law_one","_law_free"] (bx K zl):=by
 have ay:=FL.nd;exact bI (k:=0) G.fn FL λbg A outer s H E hr=>(aH (aU (dH (qk (af 1)) (dA (lT (cQ (dE hr) cN (af 0) rfl) (dA (dH (af 2) (dA (cQ (iC hr) (af 0) (fX ak) (bt _))))))))))
theorem GI:bz ["_law_laid","_law_mould","_law_mark_here","_law_rows","_law_free","_law_page","_law_day","_law_ahead","_law_off"] ["_law_laid","_law_mould","_law_mark_here"] (aX (top 51)):=⟨rfl,rfl,rfl,by decide +kernel,rfl,by decide +kernel,by decide +kernel⟩
theorem Q2 (F:bJ K mg) {f:Addr} {fd:ZA} (G:Gd K mg "_law_may" (top 51) ["_law_laid","_law_mould","_law_mark_here"] f fd):aV P w K mg base aY 2 f fd ["_law_laid","_law_mould","_law_mark_here"] (bx K wb):=by
 obtain⟨_,_,vI⟩:=F.O9;obtain⟨_,_,vo⟩:=F.NM;have bo:(["_law_day"]:List Str).Nodup:=by decide +kernel
 have i8:(["_law_day"]:List Str).Nodup:=by decide +kernel
 have mf:(["_law_one"]:List Str).Nodup:=by decide +kernel
 have t9:(["_law_one","_law_mark_here","_law_page"]:List Str).Nodup:=by decide +kernel
 have CH:(["_law_one","_law_ahead","_law_off"]:List Str).Nodup:=by decide +kernel
 have Xl:(["_law_one","_law_rows","_law_free","_law_day"]:List Str).Nodup:=by decide +kernel
 have Xm:(["_law_row"]:List Str).Nodup:=by decide +kernel
 have ay:=GI.nd;exact bI (k:=1) G.fn GI λbg A outer s H E hr=>(aD (bS 3 ay (FF (N:=["_law_day"]) (nt:=1) (cap:=[]) rfl (bV (by kernel_rfl)) (bU 0) (dG rfl F.cJ (ah ax ak)) (λcl C s H ex pn=>⟨(bp (i:=0) bo rfl (aap rfl)),dJ,(fX (ah cN (ah cN ak)))⟩))) (aD (bS 4 ay (FF (N:=["_law_day"]) (nt:=1) (cap:=[]) rfl (bV (by kernel_rfl)) (bU 0) (dG rfl F.cJ (ah ax ak)) (λcl C s H ex pn=>⟨(bp (i:=0) i8 rfl (aap rfl)),dJ,cN⟩))) (aD (fk ZV rfl (cH (af 0)) (bK 5 ay) (aD (cU (PW.pt (w_and (aZ (cY hr) (aQ (af 5) ax) gE (bt _)) (w_and (aZ (cY hr) (aQ (af 5) ax) (af 1) (bt _)) (ku (aZ (cY hr) (aQ (af 5) ax) (af 2) (bt _)))))) (aD (mK (cq (N:=["_law_one"]) (nt:=1) (cap:=[]) rfl (bV (by kernel_rfl)) (bU 0) (cH (aQ (af 3) (aQ (af 5) ax))) (λcl C s H ex pn=>⟨(bp (i:=0) mf rfl (aap rfl)),(fC (iL (eZ (af 0)))),(af 0)⟩)) (af 3) (aQ (af 5) ax)) (aH (mK cN (af 4) (aQ (af 5) ax)))) cR) (aH (cU (PW.pt (w_and (aZ (cY hr) (aQ (af 5) ax) gE (bt _)) (w_and (aZ (cY hr) (aQ (af 5) ax) (af 1) (bt _)) (ku (aZ (dE hr) (af 2) (bO fm (aQ (aQ (af 5) ax) ax) (aQ (aQ (af 5) ax) ax)) rfl))))) (aH (mK (cq (N:=["_law_one","_law_mark_here","_law_page"]) (nt:=1) (cap:=[2,5]) rfl (bV (by kernel_rfl)) (bU 0) (cH (aQ (af 3) (aQ (af 5) ax))) (λcl C s H ex pn=>⟨(bp (i:=0) t9 rfl (aap rfl)),(fC (aZ (cY hr) (af 0) (cQ (dE hr) (af 1) (aQ (aQ (af 2) ax) ax) rfl) (bt _))),(af 0)⟩)) (af 3) (aQ (af 5) ax))) cR)))) (aD (fk ZV rfl (zG rfl F.cJ (ah ax (ah ax ak))) (bK 6 ay) (aD (oh (cA (ah (aQ (af 3) (bO Ao (af 6) ax)) (ah (aQ (af 4) (af 6)) ak))) (lL rfl (dP (bK 7 ay) (dP (bK 8 ay) lA)))) (aH (mK (cq (N:=["_law_one","_law_ahead","_law_off"]) (nt:=1) (cap:=[7,8]) rfl (bV (by kernel_rfl)) (bU 0) (cH (aQ (af 3) (af 6))) (λcl C s H ex pn=>⟨(bp (i:=0) CH rfl (aap rfl)),(fC (PW.pt (w_or (PW.pt (w_and (eZ (af 0)) (ku (aZ (iC hr) (af 1) (fX ak) (bt _))))) (jG (eZ (aL (Pf F vI) (hr.mono (by decide)) rfl vI.mg vI.fn.kp vI.b (ah (af 1) (ah (af 0) (ah (af 2) ak))))))))),(af 0)⟩)) (af 3) (af 6))))) (aD (fk ZV rfl (SE rfl F.cJ (ah ax (ah (so r9 ax) (ah (so r9 ax) ak)))) (bK 6 ay) (aH (mK (cq (N:=["_law_one","_law_rows","_law_free","_law_day"]) (nt:=1) (cap:=[3,4,6]) rfl (bV (by kernel_rfl)) (bU 0) (cH (aQ (af 3) (af 6))) (λcl C s H ex pn=>⟨(bp (i:=0) Xl rfl (aap rfl)),(fC (eZ (aL (NQ F vo) (hr.mono (by decide)) rfl vo.mg vo.fn.kp vo.b (ah (aQ (af 1) (bO fm (af 3) ax)) (ah (af 0) (ah (aQ (af 2) (bO fm (af 3) ax)) ak)))))),(af 0)⟩)) (af 3) (af 6)))) (aH (aU (cq (N:=["_law_row"]) (nt:=1) (cap:=[]) rfl (bV (by kernel_rfl)) (bU 0) (cH (qj (af 3))) (λcl C s H ex pn=>⟨(bp (i:=0) Xm rfl (aap rfl)),dJ,(fy iJ rfl F.dY ef (ah (af 0) ak))⟩)))))))))
theorem Et:bz ["_law_state_here","_law_book_here","_law_mould","_law_rows","_law_found","_law_ahead","_law_day","_law_here","_law_mark_here","_law_some"] ["_law_state_here","_law_book_here","_law_mould"] (aX (top 54)):=⟨rfl,rfl,rfl,by decide +kernel,rfl,by decide +kernel,by decide +kernel⟩
theorem MI (F:bJ K mg) {f:Addr} {fd:ZA} (G:Gd K mg "_law_chance" (top 54) ["_law_state_here","_law_book_here","_law_mould"] f fd):aV P w K mg base aY 3 f fd ["_law_state_here","_law_book_here","_law_mould"] (bx K u6):=by
 obtain⟨_,_,we⟩:=F.QZ;obtain⟨_,_,aI⟩:=F.pS;have bo:(["_law_mark_here","_law_book_here","_law_mould"]:List Str).Nodup:=by decide +kernel
 have ay:=Et.nd;exact bI (k:=2) G.fn Et λbg A outer s H E hr=>(aD (HI 3 4 5 rfl ay (ah (cq (N:=["_law_mark_here","_law_book_here","_law_mould"]) (nt:=1) (cap:=[1,2]) rfl (bV (by kernel_rfl)) (bU 0) (dG rfl F.cJ (ah ax ak)) (λcl C s H ex pn=>⟨(bp (i:=0) bo rfl (aap rfl)),dJ,(aL (Q2 F we) (hr.mono (by decide)) rfl we.mg we.fn.kp we.b (ah (af 1) (ah (af 2) (ah (af 0) ak))))⟩)) (ah (lK ak) (ah (fX ak) ak)))) (aD (fk ZV rfl (dG rfl F.cJ (ah ax ak)) (bK 6 ay) (aD (bS 7 ay (lK ak)) (aD (fk ZV rfl (dG rfl F.cJ (ah ax ak)) (bK 8 ay) (aD (bS 9 ay (fy v8 rfl F.ll lD (ah (aQ (aQ (af 3) (af 8)) (af 6)) ak))) (aD (cU (PW.pt (w_and (aZ (dE hr) (af 8) (af 5) rfl) (w_and (aZ (dE hr) cN (af 9) rfl) (ku (aZ (lh hr) (cA (ah gE (ah (af 2) (ah (af 6) (ah (af 8) ak))))) (af 1) rfl))))) (aH (bS 9 ay (fX (ah cN ak)))) cR) (aH (cU (eZ (aQ (af 9) (aL (eV F aI) (hr.mono (by decide)) rfl aI.mg aI.fn.kp aI.b (ah (af 0) (ah (bE kB rfl F.kz kD (ah (af 9) ak)) ak))))) (aH (gY (lO (af 7) (af 8)))) cR))))) (aD (gY (lO (af 4) (fy iJ rfl F.dY ef (ah (af 7) ak)))) (aH (bS 5 ay (qj (af 7)))))))) (aH (aU (fy iJ rfl F.dY ef (ah (af 4) ak))))))
theorem DQ:bz ["things"] ["things"] (aX (top 13)):=⟨rfl,rfl,rfl,by decide +kernel,rfl,by decide +kernel,by decide +kernel⟩
theorem DR (F:bJ K mg) {f:Addr} {fd:ZA} (G:Gd K mg "is_rising" (top 13) ["things"] f fd):aV P w K mg base aY 1 f fd ["things"] (bx K nM):=by
 have bo:(["ahead","behind"]:List Str).Nodup:=by decide +kernel
 have ay:=DQ.nd;exact bI (k:=0) G.fn DQ λbg A outer s H E hr=>(aH (aU (bE (mI rfl) rfl F.mB mM (ah (cq (N:=["ahead","behind"]) (nt:=2) (cap:=[]) rfl (bV (by kernel_rfl)) (rH (km 0 (km 1 rn))) (Im rfl F.HL (ah (af 0) (ah (qz (af 0) (qo ax) qy) ak))) (λcl C s H ex pn=>⟨(jE rfl (iI (bp (i:=0) bo rfl (aap rfl)) (iI (bp (i:=1) bo rfl (aap rfl)) nT))),dJ,(cQ (sA hr) (af 0) (af 1) (bt _))⟩)) ak))))
theorem DT:bz ["thing"] ["thing"] (aX (top 8)):=⟨rfl,rfl,rfl,by decide +kernel,rfl,by decide +kernel,by decide +kernel⟩
theorem Lq (F:bJ K mg) {f:Addr} {fd:ZA} (G:Gd K mg "is_number" (top 8) ["thing"] f fd):aV P w K mg base aY 1 f fd ["thing"] (bx K ye):=by
 have ay:=DT.nd;exact bI (k:=0) G.fn DT λbg A outer s H E hr=>(aH (aU (dH (bE fY rfl F.fQ fR (ah (af 0) (ah (gg Iw rfl F.HJ) ak))) (dH (qk (bE fY rfl F.fQ fR (ah (af 0) (ah (gg v9 rfl F.vH) ak)))) (dA (cQ VJ (af 0) ax (bt _)))))))
theorem Ec:bz ["thing","many"] ["thing","many"] (aX (top 9)):=⟨rfl,rfl,rfl,by decide +kernel,rfl,by decide +kernel,by decide +kernel⟩
theorem yg (F:bJ K mg) {f:Addr} {fd:ZA} (G:Gd K mg "is_below" (top 9) ["thing","many"] f fd):aV P w K mg base aY 2 f fd ["thing","many"] (bx K pL):=by
 obtain⟨_,_,uN⟩:=F.Lj;have ay:=Ec.nd;exact bI (k:=1) G.fn Ec λbg A outer s H E hr=>(aH (aU (dH (aL (Lq F uN) (hr.mono (by decide)) rfl uN.mg uN.fn.kp uN.b (ah (af 0) ak)) (dA (cQ (sA hr) (af 0) (af 1) (bt _))))))
theorem Eu:bz ["thing"] ["thing"] (aX (top 10)):=⟨rfl,rfl,rfl,by decide +kernel,rfl,by decide +kernel,by decide +kernel⟩
theorem Ew (F:bJ K mg) {f:Addr} {fd:ZA} (G:Gd K mg "is_mark" (top 10) ["thing"] f fd):aV P w K mg base aY 3 f fd ["thing"] (bx K qY):=by
 obtain⟨_,_,ix⟩:=F.yf;have ay:=Eu.nd;exact bI (k:=2) G.fn Eu λbg A outer s H E hr=>(aH (aU (aL (yg F ix) (hr.mono (by decide)) rfl ix.mg ix.fn.kp ix.b (ah (af 0) (ah (dS F.kZ rfl) ak)))))
theorem DU:bz ["thing"] ["thing"] (aX (top 19)):=⟨rfl,rfl,rfl,by decide +kernel,rfl,by decide +kernel,by decide +kernel⟩
theorem ya (F:bJ K mg) {f:Addr} {fd:ZA} (G:Gd K mg "are_marks" (top 19) ["thing"] f fd):aV P w K mg base aY 4 f fd ["thing"] (bx K nN):=by
 obtain⟨_,_,kX⟩:=F.Es;obtain⟨_,_,kT⟩:=F.DO;have bo:(["mark"]:List Str).Nodup:=by decide +kernel
 have ay:=DU.nd;exact bI (k:=3) G.fn DU λbg A outer s H E hr=>(aH (aU (dH (bE fY rfl F.fQ fR (ah (af 0) (ah (gg ef rfl F.dY) ak))) (dH (bE (mI rfl) rfl F.mB mM (ah (cq (N:=["mark"]) (nt:=1) (cap:=[]) rfl (bV (by kernel_rfl)) (bU 0) (cH (af 0)) (λcl C s H ex pn=>⟨(bp (i:=0) bo rfl (aap rfl)),dJ,(aL (Ew F kX) (hr.mono (by decide)) rfl kX.mg kX.fn.kp kX.b (ah (af 0) ak))⟩)) ak)) (dA (aL (DR F kT) (hr.mono (by decide)) rfl kT.mg kT.fn.kp kT.b (ah (af 0) ak)))))))
theorem DW:bz ["marks","others"] ["marks","others"] (aX (top 21)):=⟨rfl,rfl,rfl,by decide +kernel,rfl,by decide +kernel,by decide +kernel⟩
theorem Lr (F:bJ K mg) {f:Addr} {fd:ZA} (G:Gd K mg "are_apart" (top 21) ["marks","others"] f fd):aV P w K mg base aY 1 f fd ["marks","others"] (bx K uH):=by
 have bo:(["mark","others"]:List Str).Nodup:=by decide +kernel
 have ay:=DW.nd;exact bI (k:=0) G.fn DW λbg A outer s H E hr=>(aH (aU (qk (bE (Aq rfl) rfl F.zU Au (ah (cq (N:=["mark","others"]) (nt:=1) (cap:=[1]) rfl (bV (by kernel_rfl)) (bU 0) (cH (af 0)) (λcl C s H ex pn=>⟨(bp (i:=0) bo rfl (aap rfl)),dJ,(cQ (dE hr) (af 0) (af 1) rfl)⟩)) ak)))))
theorem Ed:bz ["thing","has","lacks"] ["thing"] (aX (top 20)):=⟨rfl,rfl,rfl,by decide +kernel,rfl,by decide +kernel,by decide +kernel⟩
theorem LW (F:bJ K mg) {f:Addr} {fd:ZA} (G:Gd K mg "is_sheet" (top 20) ["thing"] f fd):aV P w K mg base aY 5 f fd ["thing"] (bx K uU):=by
 obtain⟨_,_,iH⟩:=F.DP;obtain⟨_,_,uO⟩:=F.Ll;have ay:=Ed.nd;exact bI (k:=4) G.fn Ed λbg A outer s H E hr=>(aD (cU (PW.pt (w_or (iL (eZ (bE fY rfl F.fQ fR (ah (af 0) (ah (gg ef rfl F.dY) ak))))) (jG (aZ (iC hr) (bE kB rfl F.kz kD (ah (af 0) ak)) ax (bt _))))) (aH (aU cN)) cR) (aD (oh (af 0) (lL rfl (dP (bK 1 ay) (dP (bK 2 ay) lA)))) (aH (aU (dH (aL (ya F iH) (hr.mono (by decide)) rfl iH.mg iH.fn.kp iH.b (ah (af 1) ak)) (dH (aL (ya F iH) (hr.mono (by decide)) rfl iH.mg iH.fn.kp iH.b (ah (af 2) ak)) (dA (aL (Lr F uO) (hr.mono (by decide)) rfl uO.mg uO.fn.kp uO.b (ah (af 1) (ah (af 2) ak))))))))))
theorem Ee:bz ["thing"] ["thing"] (aX (top 11)):=⟨rfl,rfl,rfl,by decide +kernel,rfl,by decide +kernel,by decide +kernel⟩
theorem Ef (F:bJ K mg) {f:Addr} {fd:ZA} (G:Gd K mg "is_mould" (top 11) ["thing"] f fd):aV P w K mg base aY 3 f fd ["thing"] (bx K qV):=by
 obtain⟨_,_,ix⟩:=F.yf;have ay:=Ee.nd;exact bI (k:=2) G.fn Ee λbg A outer s H E hr=>(aH (aU (aL (yg F ix) (hr.mono (by decide)) rfl ix.mg ix.fn.kp ix.b (ah (af 0) (ah (dS F.u7 rfl) ak)))))
theorem E7:bz ["thing"] ["thing"] (aX (top 12)):=⟨rfl,rfl,rfl,by decide +kernel,rfl,by decide +kernel,by decide +kernel⟩
theorem NR (F:bJ K mg) {f:Addr} {fd:ZA} (G:Gd K mg "is_day" (top 12) ["thing"] f fd):aV P w K mg base aY 3 f fd ["thing"] (bx K vj):=by
 obtain⟨_,_,ix⟩:=F.yf;have ay:=E7.nd;exact bI (k:=2) G.fn E7 λbg A outer s H E hr=>(aH (aU (aL (yg F ix) (hr.mono (by decide)) rfl ix.mg ix.fn.kp ix.b (ah (af 0) (ah (dS F.kn rfl) ak)))))
theorem Ey:bz ["thing","word","mould","day","what"] ["thing"] (aX (top 22)):=⟨rfl,rfl,rfl,by decide +kernel,rfl,by decide +kernel,by decide +kernel⟩
theorem MJ (F:bJ K mg) {f:Addr} {fd:ZA} (G:Gd K mg "is_page" (top 22) ["thing"] f fd):aV P w K mg base aY 6 f fd ["thing"] (bx K u4):=by
 obtain⟨_,_,kU⟩:=F.Ea;obtain⟨_,_,vp⟩:=F.NN;obtain⟨_,_,uX⟩:=F.LR;obtain⟨_,_,kX⟩:=F.Es;have ay:=Ey.nd;exact bI (k:=5) G.fn Ey λbg A outer s H E hr=>(aD (cU (PW.pt (w_or (iL (eZ (bE fY rfl F.fQ fR (ah (af 0) (ah (gg ef rfl F.dY) ak))))) (jG (aZ (iC hr) (bE kB rfl F.kz kD (ah (af 0) ak)) ax (bt _))))) (aH (aU cN)) cR) (aD (oh (af 0) (lL rfl (dP (bK 1 ay) (dP (bK 2 ay) (dP (bK 3 ay) (dP (bK 4 ay) lA)))))) (aD (cU (PW.pt (w_or (iL (eZ (aL (Ef F kU) (hr.mono (by decide)) rfl kU.mg kU.fn.kp kU.b (ah (af 2) ak)))) (jG (iL (eZ (aL (NR F vp) (hr.mono (by decide)) rfl vp.mg vp.fn.kp vp.b (ah (af 3) ak))))))) (aH (aU cN)) cR) (aD (cU (aZ (cY hr) (af 1) gE (bt _)) (aH (aU (aL (LW F uX) (hr.mono (by decide)) rfl uX.mg uX.fn.kp uX.b (ah (af 4) ak)))) cR) (aH (aU (dH (cQ (cY hr) (af 1) gE (bt _)) (dA (aL (Ew F kX) (hr.mono (by decide)) rfl kX.mg kX.fn.kp kX.b (ah (af 4) ak))))))))))
theorem Eg:bz ["thing"] ["thing"] (aX (top 23)):=⟨rfl,rfl,rfl,by decide +kernel,rfl,by decide +kernel,by decide +kernel⟩
theorem LX (F:bJ K mg) {f:Addr} {fd:ZA} (G:Gd K mg "are_laid" (top 23) ["thing"] f fd):aV P w K mg base aY 7 f fd ["thing"] (bx K uV):=by
 obtain⟨_,_,u9⟩:=F.ME;obtain⟨_,_,kT⟩:=F.DO;have bo:(["page"]:List Str).Nodup:=by decide +kernel
 have ay:=Eg.nd;exact bI (k:=6) G.fn Eg λbg A outer s H E hr=>(aH (aU (dH (bE fY rfl F.fQ fR (ah (af 0) (ah (gg ef rfl F.dY) ak))) (dH (cQ su (bE kB rfl F.kz kD (ah (af 0) ak)) (dS F.yN rfl) (bt _)) (dH (bE (mI rfl) rfl F.mB mM (ah (cq (N:=["page"]) (nt:=1) (cap:=[]) rfl (bV (by kernel_rfl)) (bU 0) (cH (af 0)) (λcl C s H ex pn=>⟨(bp (i:=0) bo rfl (aap rfl)),dJ,(aL (MJ F u9) (hr.mono (by decide)) rfl u9.mg u9.fn.kp u9.b (ah (af 0) ak))⟩)) ak)) (dA (aL (DR F kT) (hr.mono (by decide)) rfl kT.mg kT.fn.kp kT.b (ah (af 0) ak))))))))
theorem DY:bz ["pages","mould","mark","half"] ["pages","mould","mark","half"] (aX (top 28)):=⟨rfl,rfl,rfl,by decide +kernel,rfl,by decide +kernel,by decide +kernel⟩
theorem pI (F:bJ K mg) {f:Addr} {fd:ZA} (G:Gd K mg "days_seen" (top 28) ["pages","mould","mark","half"] f fd):aV P w K mg base aY 1 f fd ["pages","mould","mark","half"] (bx K jb):=by
 have bo:(["page","mould","mark","half"]:List Str).Nodup:=by decide +kernel
 have ay:=DY.nd;exact bI (k:=0) G.fn DY λbg A outer s H E hr=>(aH (aU (cq (N:=["page","mould","mark","half"]) (nt:=1) (cap:=[1,2,3]) rfl (bV (by kernel_rfl)) (bU 0) (cH (af 0)) (λcl C s H ex pn=>⟨(bp (i:=0) bo rfl (aap rfl)),(fC (PW.pt (w_and (aZ (cY hr) (aQ (af 0) ax) gE (bt _)) (w_and (aZ (cY hr) (aQ (af 0) ax) (af 1) (bt _)) (ku (aZ (dE hr) (af 2) (aQ (aQ (af 0) ax) (af 3)) rfl)))))),(aQ (af 0) ax)⟩))))
theorem DA:bz ["pages","mould","mark"] ["pages","mould","mark"] (aX (top 29)):=⟨rfl,rfl,rfl,by decide +kernel,rfl,by decide +kernel,by decide +kernel⟩
theorem uq (F:bJ K mg) {f:Addr} {fd:ZA} (G:Gd K mg "days_mended" (top 29) ["pages","mould","mark"] f fd):aV P w K mg base aY 1 f fd ["pages","mould","mark"] (bx K nK):=by
 have bo:(["page","mould","mark"]:List Str).Nodup:=by decide +kernel
 have ay:=DA.nd;exact bI (k:=0) G.fn DA λbg A outer s H E hr=>(aH (aU (cq (N:=["page","mould","mark"]) (nt:=1) (cap:=[1,2]) rfl (bV (by kernel_rfl)) (bU 0) (cH (af 0)) (λcl C s H ex pn=>⟨(bp (i:=0) bo rfl (aap rfl)),(fC (PW.pt (w_and (aZ (cY hr) (aQ (af 0) ax) gE (bt _)) (w_and (aZ (cY hr) (aQ (af 0) ax) (af 1) (bt _)) (ku (aZ (cY hr) (aQ (af 0) ax) (af 2) (bt _))))))),(aQ (af 0) ax)⟩))))
theorem Dx:bz ["days","day","later"] ["days","day","later"] (aX (top 27)):=⟨rfl,rfl,rfl,by decide +kernel,rfl,by decide +kernel,by decide +kernel⟩
theorem Ky (F:bJ K mg) {f:Addr} {fd:ZA} (G:Gd K mg "is_any_behind" (top 27) ["days","day","later"] f fd):aV P w K mg base aY 1 f fd ["days","day","later"] (bx K uh):=by
 have bo:(["other","day","later"]:List Str).Nodup:=by decide +kernel
 have ay:=Dx.nd;exact bI (k:=0) G.fn Dx λbg A outer s H E hr=>(aH (aU (bE (Aq rfl) rfl F.zU Au (ah (cq (N:=["other","day","later"]) (nt:=1) (cap:=[1,2]) rfl (bV (by kernel_rfl)) (bU 0) (cH (af 0)) (λcl C s H ex pn=>⟨(bp (i:=0) bo rfl (aap rfl)),dJ,(Gp (sA hr) su (af 1) (af 0) (af 2))⟩)) ak))))
theorem Ez:bz ["pages","mould","mark","lacked","mended"] ["pages","mould","mark"] (aX (top 26)):=⟨rfl,rfl,rfl,by decide +kernel,rfl,by decide +kernel,by decide +kernel⟩
theorem MK (F:bJ K mg) {f:Addr} {fd:ZA} (G:Gd K mg "clashes" (top 26) ["pages","mould","mark"] f fd):aV P w K mg base aY 2 f fd ["pages","mould","mark"] (bx K qZ):=by
 obtain⟨_,_,de⟩:=F.uD;obtain⟨_,_,fv⟩:=F.uk;obtain⟨_,_,ui⟩:=F.Kx;have bo:(["day","later","lacked","mended"]:List Str).Nodup:=by decide +kernel
 have ay:=Ez.nd;exact bI (k:=1) G.fn Ez λbg A outer s H E hr=>(aD (bS 3 ay (aL (pI F de) (hr.mono (by decide)) rfl de.mg de.fn.kp de.b (ah (af 0) (ah (af 1) (ah (af 2) (ah (dS F.rg rfl) ak)))))) (aD (bS 4 ay (aL (uq F fv) (hr.mono (by decide)) rfl fv.mg fv.fn.kp fv.b (ah (af 0) (ah (af 1) (ah (af 2) ak))))) (aH (aU (QE (N:=["day","later","lacked","mended"]) (nt:=2) (cap:=[3,4]) rfl (Ih (by kernel_rfl)) (bU 0) (vB 0) (bU 1) (vB 1) (cH (My (aL (pI F de) (hr.mono (by decide)) rfl de.mg de.fn.kp de.b (ah (af 0) (ah (af 1) (ah (af 2) (ah (dS F.rM rfl) ak))))) rfl rfl F.yt yE rfl F.HK Iy)) (λcl C s H ex pn=>⟨(bp (i:=0) bo rfl (aap rfl)),dJ,(zG rfl F.cJ (ah (af 0) (ah (dS F.kn rfl) ak))),(bp (i:=1) bo rfl (aap rfl)),(fC (PW.pt (w_and (PW.pt (w_or (aZ (dE hr) (af 1) (af 2) rfl) (jG (PW.pt (w_and (aZ (cY hr) (af 1) (af 0) (bt _)) (ku (aZ (dE hr) (af 0) (af 3) rfl))))))) (ku (iL (eZ (aL (Ky F ui) (hr.mono (by decide)) rfl ui.mg ui.fn.kp ui.b (ah (af 3) (ah (af 0) (ah (af 1) ak)))))))))),(cA (ah (af 0) (ah (af 1) ak)))⟩))))))
theorem DZ:bz ["pages"] ["pages"] (aX (top 25)):=⟨rfl,rfl,rfl,by decide +kernel,rfl,by decide +kernel,by decide +kernel⟩
theorem Ls (F:bJ K mg) {f:Addr} {fd:ZA} (G:Gd K mg "faults_of" (top 25) ["pages"] f fd):aV P w K mg base aY 3 f fd ["pages"] (bx K uJ):=by
 obtain⟨_,_,va⟩:=F.MF;have bo:(["mould","mark","day","later","pages"]:List Str).Nodup:=by decide +kernel
 have ay:=DZ.nd;exact bI (k:=2) G.fn DZ λbg A outer s H E hr=>(aH (aU (QG (N:=["mould","mark","day","later","pages"]) (nt:=4) (cap:=[0]) rfl (Ih (by kernel_rfl)) (bU 0) (vB 0) (bU 1) (vB 1) (rH (km 2 (km 3 rn))) (zC [2,3]) (dG rfl F.cJ (ah (dS F.u7 rfl) ak)) (λcl C s H ex pn=>⟨(bp (i:=0) bo rfl (aap rfl)),dJ,(dG rfl F.cJ (ah (dS F.kZ rfl) ak)),(bp (i:=1) bo rfl (aap rfl)),dJ,(cH (aL (MK F va) (hr.mono (by decide)) rfl va.mg va.fn.kp va.b (ah (af 4) (ah (af 0) (ah (af 1) ak))))),(jE rfl (iI (bp (i:=2) bo rfl (aap rfl)) (iI (bp (i:=3) bo rfl (aap rfl)) nT))),dJ,(cA (ah (af 0) (ah (af 1) (ah (af 2) (ah (af 3) ak)))))⟩))))
theorem EA:bz ["thing"] ["thing"] (aX (top 24)):=⟨rfl,rfl,rfl,by decide +kernel,rfl,by decide +kernel,by decide +kernel⟩
theorem ML (F:bJ K mg) {f:Addr} {fd:ZA} (G:Gd K mg "is_book" (top 24) ["thing"] f fd):aV P w K mg base aY 8 f fd ["thing"] (bx K u5):=by
 obtain⟨_,_,uY⟩:=F.LS;obtain⟨_,_,uP⟩:=F.Lm;have ay:=EA.nd;exact bI (k:=7) G.fn EA λbg A outer s H E hr=>(aH (aU (dH (aL (LX F uY) (hr.mono (by decide)) rfl uY.mg uY.fn.kp uY.b (ah (af 0) ak)) (dA (TK.SO (aL (Ls F uP) (hr.mono (by decide)) rfl uP.mg uP.fn.kp uP.b (ah (af 0) ak)))))))
theorem D1:bz ["thing"] ["thing"] (aX (top 30)):=⟨rfl,rfl,rfl,by decide +kernel,rfl,by decide +kernel,by decide +kernel⟩
theorem yb (F:bJ K mg) {f:Addr} {fd:ZA} (G:Gd K mg "need_book" (top 30) ["thing"] f fd):aV P w K mg base aY 9 f fd ["thing"] (bx K pJ):=by
 obtain⟨_,_,vc⟩:=F.MG;have ay:=D1.nd;exact bI (k:=8) G.fn D1 λbg A outer s H E hr=>(aH (cU (iL (eZ (aL (ML F vc) (hr.mono (by decide)) rfl vc.mg vc.fn.kp vc.b (ah (af 0) ak)))) Fv cR))
theorem DG:bz ["thing"] ["thing"] (aX (top 14)):=⟨rfl,rfl,rfl,by decide +kernel,rfl,by decide +kernel,by decide +kernel⟩
theorem xW (F:bJ K mg) {f:Addr} {fd:ZA} (G:Gd K mg "need_mould" (top 14) ["thing"] f fd):aV P w K mg base aY 4 f fd ["thing"] (bx K pH):=by
 obtain⟨_,_,kU⟩:=F.Ea;have ay:=DG.nd;exact bI (k:=3) G.fn DG λbg A outer s H E hr=>(aH (cU (iL (eZ (aL (Ef F kU) (hr.mono (by decide)) rfl kU.mg kU.fn.kp kU.b (ah (af 0) ak)))) Fv cR))
theorem Dy:bz ["book","mould","mark","shown","mended","present","stays","day"] ["book","mould","mark"] (aX (top 37)):=⟨rfl,rfl,rfl,by decide +kernel,rfl,by decide +kernel,by decide +kernel⟩
theorem KG (F:bJ K mg) {f:Addr} {fd:ZA} (G:Gd K mg "days_present" (top 37) ["book","mould","mark"] f fd):aV P w K mg base aY 2 f fd ["book","mould","mark"] (bx K uj):=by
 obtain⟨_,_,de⟩:=F.uD;obtain⟨_,_,fv⟩:=F.uk;have ay:=Dy.nd;exact bI (k:=1) G.fn Dy λbg A outer s H E hr=>(aD (bS 3 ay (aL (pI F de) (hr.mono (by decide)) rfl de.mg de.fn.kp de.b (ah (af 0) (ah (af 1) (ah (af 2) (ah (dS F.rM rfl) ak)))))) (aD (bS 4 ay (aL (uq F fv) (hr.mono (by decide)) rfl fv.mg fv.fn.kp fv.b (ah (af 0) (ah (af 1) (ah (af 2) ak))))) (aD (bS 5 ay (lK ak)) (aD (bS 6 ay cN) (aD (fk ZV rfl (dG rfl F.cJ (ah (dS F.kn rfl) ak)) (bK 7 ay) (aD (bS 6 ay (lT (cQ (dE hr) (af 7) (af 3) rfl) (dA (dH (af 6) (dA (cQ (lh hr) (af 7) (af 4) rfl)))))) (aH (cU (eZ (af 6)) (aH (gY (lO (af 5) (af 7)))) cR)))) (aH (aU (qj (af 5)))))))))
theorem DB:bz ["book","mould","mark","lacked","mended","absent","barred","day"] ["book","mould","mark"] (aX (top 38)):=⟨rfl,rfl,rfl,by decide +kernel,rfl,by decide +kernel,by decide +kernel⟩
theorem KP (F:bJ K mg) {f:Addr} {fd:ZA} (G:Gd K mg "days_absent" (top 38) ["book","mould","mark"] f fd):aV P w K mg base aY 2 f fd ["book","mould","mark"] (bx K ux):=by
 obtain⟨_,_,de⟩:=F.uD;obtain⟨_,_,fv⟩:=F.uk;have ay:=DB.nd;exact bI (k:=1) G.fn DB λbg A outer s H E hr=>(aD (bS 3 ay (aL (pI F de) (hr.mono (by decide)) rfl de.mg de.fn.kp de.b (ah (af 0) (ah (af 1) (ah (af 2) (ah (dS F.rg rfl) ak)))))) (aD (bS 4 ay (aL (uq F fv) (hr.mono (by decide)) rfl fv.mg fv.fn.kp fv.b (ah (af 0) (ah (af 1) (ah (af 2) ak))))) (aD (bS 5 ay (lK ak)) (aD (bS 6 ay cN) (aD (fk ZV rfl (Ux rfl F.LP rfl F.cJ (ah (dS F.kn rfl) ak)) (bK 7 ay) (aD (cU (PW.pt (w_or (eZ (af 6)) (w_or (aZ (dE hr) (af 7) (af 3) rfl) (jG (aZ (dE hr) (af 7) (af 4) rfl))))) (aH (gY (lO (af 5) (af 7)))) cR) (aH (bS 6 ay (dH (lT (af 6) (dA (cQ (dE hr) (af 7) (af 3) rfl))) (dA (cQ (lh hr) (af 7) (af 4) rfl))))))) (aH (aU (qj (af 5)))))))))
theorem Eh:bz ["days_by_mark","day"] ["days_by_mark","day"] (aX (top 36)):=⟨rfl,rfl,rfl,by decide +kernel,rfl,by decide +kernel,by decide +kernel⟩
theorem Ei (F:bJ K mg) {f:Addr} {fd:ZA} (G:Gd K mg "marks_on" (top 36) ["days_by_mark","day"] f fd):aV P w K mg base aY 1 f fd ["days_by_mark","day"] (bx K qW):=by
 have bo:(["mark","day","days_by_mark"]:List Str).Nodup:=by decide +kernel
 have ay:=Eh.nd;exact bI (k:=0) G.fn Eh λbg A outer s H E hr=>(aH (aU (fy iJ rfl F.dY ef (ah (cq (N:=["mark","day","days_by_mark"]) (nt:=1) (cap:=[1,0]) rfl (bV (by kernel_rfl)) (bU 0) (dG rfl F.cJ (ah (dS F.kZ rfl) ak)) (λcl C s H ex pn=>⟨(bp (i:=0) bo rfl (aap rfl)),(fC (aZ (dE hr) (af 1) (aQ (af 2) (af 0)) rfl)),(af 0)⟩)) ak))))
theorem DC:bz ["book","mould","present","absent"] ["book","mould"] (aX (top 35)):=⟨rfl,rfl,rfl,by decide +kernel,rfl,by decide +kernel,by decide +kernel⟩
theorem DD (F:bJ K mg) {f:Addr} {fd:ZA} (G:Gd K mg "sure_sheets" (top 35) ["book","mould"] f fd):aV P w K mg base aY 3 f fd ["book","mould"] (bx K pG):=by
 obtain⟨_,_,uu⟩:=F.KD;obtain⟨_,_,uy⟩:=F.KO;obtain⟨_,_,mj⟩:=F.LU;have bo:(["mark","book","mould"]:List Str).Nodup:=by decide +kernel
 have i8:(["mark","book","mould"]:List Str).Nodup:=by decide +kernel
 have mf:(["day","present","absent"]:List Str).Nodup:=by decide +kernel
 have ay:=DC.nd;exact bI (k:=2) G.fn DC λbg A outer s H E hr=>(aD (bS 2 ay (cq (N:=["mark","book","mould"]) (nt:=1) (cap:=[0,1]) rfl (bV (by kernel_rfl)) (bU 0) (dG rfl F.cJ (ah (dS F.kZ rfl) ak)) (λcl C s H ex pn=>⟨(bp (i:=0) bo rfl (aap rfl)),dJ,(aL (KG F uu) (hr.mono (by decide)) rfl uu.mg uu.fn.kp uu.b (ah (af 1) (ah (af 2) (ah (af 0) ak))))⟩))) (aD (bS 3 ay (cq (N:=["mark","book","mould"]) (nt:=1) (cap:=[0,1]) rfl (bV (by kernel_rfl)) (bU 0) (dG rfl F.cJ (ah (dS F.kZ rfl) ak)) (λcl C s H ex pn=>⟨(bp (i:=0) i8 rfl (aap rfl)),dJ,(aL (KP F uy) (hr.mono (by decide)) rfl uy.mg uy.fn.kp uy.b (ah (af 1) (ah (af 2) (ah (af 0) ak))))⟩))) (aH (aU (cq (N:=["day","present","absent"]) (nt:=1) (cap:=[2,3]) rfl (bV (by kernel_rfl)) (bU 0) (dG rfl F.cJ (ah (dS F.kn rfl) ak)) (λcl C s H ex pn=>⟨(bp (i:=0) mf rfl (aap rfl)),dJ,(cA (ah (aL (Ei F mj) (hr.mono (by decide)) rfl mj.mg mj.fn.kp mj.b (ah (af 1) (ah (af 0) ak))) (ah (aL (Ei F mj) (hr.mono (by decide)) rfl mj.mg mj.fn.kp mj.b (ah (af 2) (ah (af 0) ak))) ak)))⟩))))))
theorem DH:bz ["book","mould"] ["book","mould"] (aX (top 33)):=⟨rfl,rfl,rfl,by decide +kernel,rfl,by decide +kernel,by decide +kernel⟩
theorem K3 (F:bJ K mg) {f:Addr} {fd:ZA} (G:Gd K mg "least_life" (top 33) ["book","mould"] f fd):aV P w K mg base aY 10 f fd ["book","mould"] (bx K uC):=by
 obtain⟨_,_,iw⟩:=F.xZ;obtain⟨_,_,iu⟩:=F.xV;obtain⟨_,_,kS⟩:=F.Dz;have bo:(["has","lacks"]:List Str).Nodup:=by decide +kernel
 have ay:=DH.nd;exact bI (k:=9) G.fn DH λbg A outer s H E hr=>(aD (gY (aL (yb F iw) (hr.mono (by decide)) rfl iw.mg iw.fn.kp iw.b (ah (af 0) ak))) (aD (gY (aL (xW F iu) (hr.mono (by decide)) rfl iu.mg iu.fn.kp iu.b (ah (af 1) ak))) (aH (aU (fy iJ rfl F.dY ef (ah (cq (N:=["has","lacks"]) (nt:=2) (cap:=[]) rfl (bV (by kernel_rfl)) (rH (km 0 (km 1 rn))) (cH (aL (DD F kS) (hr.mono (by decide)) rfl kS.mg kS.fn.kp kS.b (ah (af 0) (ah (af 1) ak)))) (λcl C s H ex pn=>⟨(jE rfl (iI (bp (i:=0) bo rfl (aap rfl)) (iI (bp (i:=1) bo rfl (aap rfl)) nT))),dJ,(af 0)⟩)) ak))))))
theorem D2:bz ["book","mould"] ["book","mould"] (aX (top 34)):=⟨rfl,rfl,rfl,by decide +kernel,rfl,by decide +kernel,by decide +kernel⟩
theorem Lu (F:bJ K mg) {f:Addr} {fd:ZA} (G:Gd K mg "most_life" (top 34) ["book","mould"] f fd):aV P w K mg base aY 10 f fd ["book","mould"] (bx K uK):=by
 obtain⟨_,_,iw⟩:=F.xZ;obtain⟨_,_,iu⟩:=F.xV;obtain⟨_,_,kS⟩:=F.Dz;have bo:(["has","lacks"]:List Str).Nodup:=by decide +kernel
 have i8:(["mark","lacks"]:List Str).Nodup:=by decide +kernel
 have ay:=D2.nd;exact bI (k:=9) G.fn D2 λbg A outer s H E hr=>(aD (gY (aL (yb F iw) (hr.mono (by decide)) rfl iw.mg iw.fn.kp iw.b (ah (af 0) ak))) (aD (gY (aL (xW F iu) (hr.mono (by decide)) rfl iu.mg iu.fn.kp iu.b (ah (af 1) ak))) (aH (aU (fy iJ rfl F.dY ef (ah (cq (N:=["has","lacks"]) (nt:=2) (cap:=[]) rfl (bV (by kernel_rfl)) (rH (km 0 (km 1 rn))) (cH (aL (DD F kS) (hr.mono (by decide)) rfl kS.mg kS.fn.kp kS.b (ah (af 0) (ah (af 1) ak)))) (λcl C s H ex pn=>⟨(jE rfl (iI (bp (i:=0) bo rfl (aap rfl)) (iI (bp (i:=1) bo rfl (Or.inr rfl)) nT))),dJ,(fy iJ rfl F.dY ef (ah (cq (N:=["mark","lacks"]) (nt:=1) (cap:=[1]) rfl (bV (by kernel_rfl)) (bU 0) (dG rfl F.cJ (ah (dS F.kZ rfl) ak)) (λcl C s H ex pn=>⟨(bp (i:=0) i8 rfl (aap rfl)),(fC (aZ (lh hr) (af 0) (af 1) rfl)),(af 0)⟩)) ak))⟩)) ak))))))
theorem E8:bz ["_law_state_here","_law_mended","_law_there","_law_found","_law_way","_law_day"] ["_law_state_here","_law_mended"] (aX (top 49)):=⟨rfl,rfl,rfl,by decide +kernel,rfl,by decide +kernel,by decide +kernel⟩
theorem NS (F:bJ K mg) {f:Addr} {fd:ZA} (G:Gd K mg "_law_lived" (top 49) ["_law_state_here","_law_mended"] f fd):aV P w K mg base aY 2 f fd ["_law_state_here","_law_mended"] (bx K pR):=by
 obtain⟨_,_,aI⟩:=F.pS;have ay:=E8.nd;exact bI (k:=1) G.fn E8 λbg A outer s H E hr=>(aD (HI 2 3 4 rfl ay (ah (cQ (cY hr) (aL (eV F aI) (hr.mono (by decide)) rfl aI.mg aI.fn.kp aI.b (ah (af 0) (ah ax ak))) ax (bt _)) (ah (lK ak) (ah (bO fm ax (aL (eV F aI) (hr.mono (by decide)) rfl aI.mg aI.fn.kp aI.b (ah (af 0) (ah ax ak)))) ak)))) (aD (fk ZV rfl (dG rfl F.cJ (ah ax ak)) (bK 5 ay) (aD (bS 2 ay (dH (lT (af 2) (dA (cQ (cY hr) (aL (eV F aI) (hr.mono (by decide)) rfl aI.mg aI.fn.kp aI.b (ah (af 0) (ah (af 4) ak))) ax (bt _)))) (dA (cQ (lh hr) (af 5) (af 1) rfl)))) (aH (cU (eZ (af 2)) (aH (gY (lO (af 3) (af 5)))) cR)))) (aH (aU (qj (af 3))))))
theorem FN:bz ["_law_state_here","_law_found","_law_moulds","_law_often","_law_mould","_law_mended","_law_lives","_law_turn","_law_mark_here","_law_day","_law_seen","_law_has"] ["_law_state_here"] (aX (top 50)):=⟨rfl,rfl,rfl,by decide +kernel,rfl,by decide +kernel,by decide +kernel⟩
theorem Ph (F:bJ K mg) {f:Addr} {fd:ZA} (G:Gd K mg "_law_book" (top 50) ["_law_state_here"] f fd):aV P w K mg base aY 3 f fd ["_law_state_here"] (bx K (vE w)):=by
 obtain⟨_,_,aI⟩:=F.pS;obtain⟨_,_,vq⟩:=F.NO;have bo:(["_law_mark_here"]:List Str).Nodup:=by decide +kernel
 have i8:(["_law_mark_here","_law_state_here","_law_often"]:List Str).Nodup:=by decide +kernel
 have mf:(["_law_mark_here","_law_day","_law_lives"]:List Str).Nodup:=by decide +kernel
 have t9:(["_law_mark_here","_law_day","_law_lives"]:List Str).Nodup:=by decide +kernel
 have ay:=FN.nd;exact bI (k:=2) G.fn FN λbg A outer s H E hr=>(aD (oh (cA (ah TK.SM (ah (bO fm ax (aL (eV F aI) (hr.mono (by decide)) rfl aI.mg aI.fn.kp aI.b (ah (af 0) (ah ax ak)))) (ah (bO fm ax (aL (eV F aI) (hr.mono (by decide)) rfl aI.mg aI.fn.kp aI.b (ah (af 0) (ah ax ak)))) ak)))) (lL rfl (dP (bK 1 ay) (dP (bK 2 ay) (dP (bK 3 ay) lA))))) (aD (fk ZV rfl (dG rfl F.cJ (ah (af 2) ak)) (bK 4 ay) (aD (oh (cA (ah (cq (N:=["_law_mark_here"]) (nt:=1) (cap:=[]) rfl (bV (by kernel_rfl)) (bU 0) (dG rfl F.cJ (ah ax ak)) (λcl C s H ex pn=>⟨(bp (i:=0) bo rfl (aap rfl)),dJ,(lK ak)⟩)) (ah (lK ak) ak))) (lL rfl (dP (bK 5 ay) (dP (bK 6 ay) lA)))) (aD (fk ZV rfl (dG rfl F.cJ (ah (aL (eV F aI) (hr.mono (by decide)) rfl aI.mg aI.fn.kp aI.b (ah (af 0) (ah ax ak))) ak)) (bK 7 ay) (aD (oh (cA (ah (aL (eV F aI) (hr.mono (by decide)) rfl aI.mg aI.fn.kp aI.b (ah (af 0) (ah ax ak))) (ah (aL (eV F aI) (hr.mono (by decide)) rfl aI.mg aI.fn.kp aI.b (ah (af 0) (ah ax ak))) ak))) (lL rfl (dP (bK 8 ay) (dP (bK 9 ay) lA)))) (aD (gY (lO (aQ (af 5) (af 8)) (af 9))) (aH (TK.HG rfl hr cN (af 1) (cA (ah gE (ah (af 4) (ah (af 9) (ah (af 8) ak)))))))))) (aD (fk ZV rfl (dG rfl F.cJ (ah ax ak)) (bK 8 ay) (aH (gY (lO (af 6) (aL (NS F vq) (hr.mono (by decide)) rfl vq.mg vq.fn.kp vq.b (ah (af 0) (ah (aQ (af 5) (af 8)) ak))))))) (aH (fk ZV rfl (dG rfl F.cJ (ah (aL (eV F aI) (hr.mono (by decide)) rfl aI.mg aI.fn.kp aI.b (ah (af 0) (ah ax ak))) ak)) (bK 7 ay) (aD (bS 9 ay (aL (eV F aI) (hr.mono (by decide)) rfl aI.mg aI.fn.kp aI.b (ah (af 0) (ah ax ak)))) (aD (zj 10 (N:=["_law_mark_here","_law_state_here","_law_often"]) (nt:=1) (cap:=[0,3]) ay rfl (bV (by kernel_rfl)) (bU 0) (dG rfl F.cJ (ah ax ak)) (λcl C s H ex pn=>⟨(bp (i:=0) i8 rfl (aap rfl)),(fC (aZ (cY hr) (aL (eV F aI) (hr.mono (by decide)) rfl aI.mg aI.fn.kp aI.b (ah (af 1) (ah (af 2) ak))) ax (bt _))),(af 0)⟩)) (aD (bS 11 ay (fy iJ rfl F.dY ef (ah (cq (N:=["_law_mark_here","_law_day","_law_lives"]) (nt:=1) (cap:=[9,6]) rfl (bV (by kernel_rfl)) (bU 0) (cH (af 10)) (λcl C s H ex pn=>⟨(bp (i:=0) mf rfl (aap rfl)),(fC (aZ (dE hr) (af 1) (aQ (af 2) (af 0)) rfl)),(af 0)⟩)) ak))) (aH (TK.HG rfl hr cN (af 1) (cA (ah gE (ah (af 4) (ah (af 9) (ah (cA (ah (af 11) (ah (fy iJ rfl F.dY ef (ah (cq (N:=["_law_mark_here","_law_day","_law_lives"]) (nt:=1) (cap:=[9,6]) rfl (bV (by kernel_rfl)) (bU 0) (cH (af 10)) (λcl C s H ex pn=>⟨(bp (i:=0) t9 rfl (aap rfl)),(fC (aZ (lh hr) (af 1) (aQ (af 2) (af 0)) rfl)),(af 0)⟩)) ak)) ak))) ak)))))))))))))))) (aH (aU (fy iJ rfl F.dY ef (ah (bE (TK.QU hr) rfl F.yt yE (ah (fy (TK.QP rfl) rfl F.ll lD (ah (af 1) ak)) ak)) ak))))))
theorem GJ:bz ["_law_state_here","_law_some"] ["_law_state_here"] (aX (top 46)):=⟨rfl,rfl,rfl,by decide +kernel,rfl,by decide +kernel,by decide +kernel⟩
theorem Q3 (F:bJ K mg) {f:Addr} {fd:ZA} (G:Gd K mg "_law_odd" (top 46) ["_law_state_here"] f fd):aV P w K mg base aY 2 f fd ["_law_state_here"] (bx K wc):=by
 obtain⟨_,_,aI⟩:=F.pS;have ay:=GJ.nd;exact bI (k:=1) G.fn GJ λbg A outer s H E hr=>(aD (bS 1 ay (by refine' QY ?_ ?_ ?_ ?_ ?_ ?_ ?_ ?_ ?_ ?_ ?_ ?_ ?_ ?_ ?_ ?_ ?_ ?_;exact Ik;exact cN;exact cN;exact(so r9 ax);exact ax;exact ax;exact ax;exact gE;exact gE;exact gE;exact(cA ak);exact(fX ak);exact SR;exact(cA (ah ax ak));exact(fX (ah ax ak));exact(bO Ap ax ax);exact(so r9 (bO Ap ax ax));exact(cA (ah ax ak)))) (aD (bS 1 ay (bO fm (af 1) (by refine' SV ?_ ?_ ?_ ?_ ?_ ?_ ?_ ?_;exact(cA (ah gE ak));exact(cA (ah ax (ah ax ak)));exact(cA (ah (cA (ah ax ak)) (ah (cA (ah ax ak)) ak)));exact SU;exact(cA (ah (cA ak) (ah (cA ak) ak)));exact(cA (ah (cA (ah cN ak)) (ah (cA ak) ak)));exact(cA (ah (cA (ah ax (ah ax ak))) (ah (cA ak) ak)));exact gE))) (aH (aU (aQ (af 1) (aL (eV F aI) (hr.mono (by decide)) rfl aI.mg aI.fn.kp aI.b (ah (af 0) (ah ax ak))))))))
theorem FO:bz ["_law_state_here","_law_life","_law_at","_law_mark_here","_law_way","_law_to","_law_rows","_law_last","_law_found","_law_day","_law_here","_law_more"] ["_law_state_here","_law_life"] (aX (top 55)):=⟨rfl,rfl,rfl,by decide +kernel,rfl,by decide +kernel,by decide +kernel⟩
theorem Pj (F:bJ K mg) {f:Addr} {fd:ZA} (G:Gd K mg "_law_bent" (top 55) ["_law_state_here","_law_life"] f fd):aV P w K mg base aY 2 f fd ["_law_state_here","_law_life"] (bx K vF):=by
 obtain⟨_,_,aI⟩:=F.pS;have bo:(["_law_one","_law_here","_law_mark_here"]:List Str).Nodup:=by decide +kernel
 have ay:=FO.nd;exact bI (k:=1) G.fn FO λbg A outer s H E hr=>(aD (oh (cA (ah (aL (eV F aI) (hr.mono (by decide)) rfl aI.mg aI.fn.kp aI.b (ah (af 0) (ah ax ak))) (ah (aL (eV F aI) (hr.mono (by decide)) rfl aI.mg aI.fn.kp aI.b (ah (af 0) (ah ax ak))) (ah (aL (eV F aI) (hr.mono (by decide)) rfl aI.mg aI.fn.kp aI.b (ah (af 0) (ah ax ak))) ak)))) (lL rfl (dP (bK 2 ay) (dP (bK 3 ay) (dP (bK 4 ay) lA))))) (aD (bS 5 ay (aL (eV F aI) (hr.mono (by decide)) rfl aI.mg aI.fn.kp aI.b (ah (af 0) (ah ax ak)))) (aD (cU (aZ (cY hr) (af 4) ax (bt _)) (aH (aU (aQ (fX (ah (qz (af 1) qy (qo ax)) (ah (bO fm (af 1) (qz (af 1) (qo (so r9 ax)) qy)) (ah (fy v8 rfl F.ll lD (ah (af 1) ak)) (ah (Ut (af 1)) ak))))) (aL (eV F aI) (hr.mono (by decide)) rfl aI.mg aI.fn.kp aI.b (ah (af 0) (ah ax ak)))))) cR) (aD (cU (aZ (cY hr) (af 4) ax (bt _)) (aD (bS 6 ay (fy QW rfl F.ll lD (ah (af 1) ak))) (aD (SS rfl (ah (aQ (af 6) (af 5)) (ah (aQ (af 6) (af 2)) ak)) (af 6) (af 2) (af 6) (af 5)) (aH (aU (fy iJ rfl F.dY ef (ah (af 6) ak)))))) cR) (aD (bS 7 ay (aQ (fX (ah (bO fm (af 2) ax) (ah ax (ah (bE (zI rfl) rfl F.zV Av (ah (bO fm (af 2) ax) (ah (af 5) ak))) ak)))) (bO om (af 4) ax))) (aD (bS 8 ay (lK ak)) (aD (fk ZV rfl (Sr rfl F.Li (ah (af 1) ak)) (lL rfl (dP (bK 9 ay) (dP (bK 10 ay) lA))) (aD (bS 11 ay (fy iJ rfl F.dY ef (ah (cq (N:=["_law_one","_law_here","_law_mark_here"]) (nt:=1) (cap:=[10,3]) rfl (bV (by kernel_rfl)) (bU 0) (dG rfl F.cJ (ah ax ak)) (λcl C s H ex pn=>⟨(bp (i:=0) bo rfl (aap rfl)),(fC (aZ (iC hr) (cQ (dE hr) (af 0) (af 1) rfl) (cQ (cY hr) (af 0) (af 2) (bt _)) (bt _))),(af 0)⟩)) ak))) (aH (gY (lO (af 8) (VH (Qx su (sA hr) (af 2) (af 9) (af 7)) (af 11) (af 10))))))) (aD (cU (aZ (cY hr) (af 4) ax (bt _)) (aH (mK (aQ (fX (ah (fy v8 rfl F.ll lD (ah (aQ (af 8) (af 2)) ak)) (ah (bO fm (aQ (af 8) (af 2)) (cA (ah ax ak))) (ah Ik (ah (bO fm (aQ (af 8) (af 2)) (cA (ah ax ak))) ak))))) (aL (eV F aI) (hr.mono (by decide)) rfl aI.mg aI.fn.kp aI.b (ah (af 0) (ah ax ak)))) (af 8) (af 2))) cR) (aH (aU (fy iJ rfl F.dY ef (ah (af 8) ak))))))))))))
theorem FP:bz ["_law_thing"] ["_law_thing"] (aX (top 57)):=⟨rfl,rfl,rfl,by decide +kernel,rfl,by decide +kernel,by decide +kernel⟩
theorem Pk (F:bJ K mg) {f:Addr} {fd:ZA} (G:Gd K mg "_law_mark" (top 57) ["_law_thing"] f fd):aV P w K mg base aY 1 f fd ["_law_thing"] (bx K vG):=by
 have ay:=FP.nd;exact bI (k:=0) G.fn FP λbg A outer s H E hr=>(aH (aU (dH (bE fY rfl F.fQ fR (ah (af 0) (ah (gg Iw rfl F.HJ) ak))) (dH (qk (bE fY rfl F.fQ fR (ah (af 0) (ah (gg v9 rfl F.vH) ak)))) (dA (Gp su su ax (af 0) ax))))))
theorem FQ:bz ["_law_book_here","_law_mould","_law_thing","_law_here","_law_mended","_law_day","_law_mark_here","_law_word","_law_other","_law_seen","_law_short"] ["_law_book_here","_law_mould","_law_thing"] (aX (top 56)):=⟨rfl,rfl,rfl,by decide +kernel,rfl,by decide +kernel,by decide +kernel⟩
theorem Pl (F:bJ K mg) {f:Addr} {fd:ZA} (G:Gd K mg "_law_good" (top 56) ["_law_book_here","_law_mould","_law_thing"] f fd):aV P w K mg base aY 2 f fd ["_law_book_here","_law_mould","_law_thing"] (bx K lj):=by
 obtain⟨_,_,vJ⟩:=F.Pc;have bo:(["_law_mark_here"]:List Str).Nodup:=by decide +kernel
 have i8:(["_law_page","_law_mould"]:List Str).Nodup:=by decide +kernel
 have mf:(["_law_row","_law_thing"]:List Str).Nodup:=by decide +kernel
 have t9:(["_law_mark_here","_law_thing","_law_day"]:List Str).Nodup:=by decide +kernel
 have CH:(["_law_mark_here","_law_thing","_law_day"]:List Str).Nodup:=by decide +kernel
 have ay:=FQ.nd;exact bI (k:=1) G.fn FQ λbg A outer s H E hr=>(aD (cU (PW.pt (w_or (iL (eZ (bE fY rfl F.fQ fR (ah (af 2) (ah (gg ef rfl F.dY) ak))))) (jG (aZ (iC hr) (bE kB rfl F.kz kD (ah (af 2) ak)) ax (bt _))))) (aH (aU cN)) cR) (aD (fk ZV rfl (cH (af 2)) (bK 3 ay) (aD (cU (PW.pt (w_or (iL (eZ (bE fY rfl F.fQ fR (ah (af 3) (ah (gg ef rfl F.dY) ak))))) (jG (aZ (iC hr) (cq (N:=["_law_mark_here"]) (nt:=1) (cap:=[]) rfl (bV (by kernel_rfl)) (bU 0) (cH (af 3)) (λcl C s H ex pn=>⟨(bp (i:=0) bo rfl (aap rfl)),(fC (iL (eZ (aL (Pk F vJ) (hr.mono (by decide)) rfl vJ.mg vJ.fn.kp vJ.b (ah (af 0) ak))))),(af 0)⟩)) (fX ak) (bt _))))) (aH (aU cN)) cR) (aH (cU (aZ (iC hr) (fy v8 rfl F.ll lD (ah (af 3) ak)) (Mz (af 3) rfl rfl F.yt yE rfl F.HK Iy) (bt _)) (aH (aU cN)) cR)))) (aD (zj 4 (N:=["_law_page","_law_mould"]) (nt:=1) (cap:=[1]) ay rfl (bV (by kernel_rfl)) (bU 0) (cH (af 0)) (λcl C s H ex pn=>⟨(bp (i:=0) i8 rfl (aap rfl)),(fC (aZ (cY hr) (qz (af 0) qy (qo ax)) (cA (ah gE (ah (af 1) ak))) (bt _))),(qz (af 0) (qo ax) qy)⟩)) (aD (fk ZV rfl (zG rfl F.cJ (ah ax (ah ax ak))) (bK 5 ay) (aH (fk ZV rfl (cH (aQ (af 2) (bO Ao (af 5) ax))) (bK 6 ay) (aH (cU (PW.pt (w_and (aZ (lh hr) (af 6) (aQ (af 2) (af 5)) rfl) (ku (aZ (lh hr) (cA (ah (af 5) (ah (af 6) ak))) (af 4) rfl)))) (aH (aU cN)) cR))))) (aD (cU (aZ (iC hr) (cq (N:=["_law_row","_law_thing"]) (nt:=1) (cap:=[2]) rfl (bV (by kernel_rfl)) (bU 0) (cH (af 4)) (λcl C s H ex pn=>⟨(bp (i:=0) mf rfl (aap rfl)),(fC (aZ (dE hr) (aQ (af 0) ax) (aQ (af 1) (aQ (af 0) ax)) rfl)),(af 0)⟩)) (fX ak) (bt _)) (aH (aU cN)) cR) (aD (fk ZV rfl (cH (af 0)) (lL rfl (dP (bK 7 ay) (dP (bK 8 ay) (dP (bK 5 ay) (dP (bK 9 ay) lA))))) (aH (cU (PW.pt (w_and (aZ (cY hr) (af 7) gE (bt _)) (ku (aZ (cY hr) (af 8) (af 1) (bt _))))) (aD (zj 10 (N:=["_law_mark_here","_law_thing","_law_day"]) (nt:=1) (cap:=[2,5]) ay rfl (bV (by kernel_rfl)) (bU 0) (cH (aQ (af 9) ax)) (λcl C s H ex pn=>⟨(bp (i:=0) t9 rfl (aap rfl)),(fC (aZ (lh hr) (af 0) (aQ (af 1) (af 2)) rfl)),(af 0)⟩)) (aH (cU (aZ (iC hr) (bO fm (af 10) (cq (N:=["_law_mark_here","_law_thing","_law_day"]) (nt:=1) (cap:=[2,5]) rfl (bV (by kernel_rfl)) (bU 0) (cH (aQ (af 9) ax)) (λcl C s H ex pn=>⟨(bp (i:=0) CH rfl (aap rfl)),(fC (aZ (dE hr) (af 0) (aQ (af 1) (af 2)) rfl)),(af 0)⟩))) (fX ak) (bt _)) (aH (aU cN)) cR))) cR))) (aH (aU cN))))))))
theorem FT:bz ["_law_found","_law_due"] ["_law_found","_law_due"] (aX (top 45)):=⟨rfl,rfl,rfl,by decide +kernel,rfl,by decide +kernel,by decide +kernel⟩
theorem FU (F:bJ K mg) {f:Addr} {fd:ZA} (G:Gd K mg "_law_same" (top 45) ["_law_found","_law_due"] f fd):∀n,aV P w K mg base aY (1+n) f fd ["_law_found","_law_due"] (bx K (vC n))
 |0=>Uv λ_ _=>rfl
 |n+1=>by
  have bo:(["_law_one","_law_other"]:List Str).Nodup:=by decide +kernel
  have ay:=FT.nd;have ih:=FU F G n;exact bI G.fn FT λbg A outer s H E hr=>(aD (cU (eZ (QD (af 1) rfl F.fQ fR (yW rfl F.dY ef rfl) (yW rfl F.ll lD rfl))) (aD (cU (PW.pt (w_or (aZ (iC hr) (bE fY rfl F.fQ fR (ah (af 0) (ah (gg ef rfl F.dY) ak))) (bE fY rfl F.fQ fR (ah (af 1) (ah (gg ef rfl F.dY) ak))) (bt _)) (jG (aZ (iC hr) (bE fY rfl F.fQ fR (ah (af 0) (ah (gg lD rfl F.ll) ak))) (bE fY rfl F.fQ fR (ah (af 1) (ah (gg lD rfl F.ll) ak))) (bt _))))) (aH (aU cN)) cR) (aH (aU (dH (cQ (cY hr) (bE kB rfl F.kz kD (ah (af 0) ak)) (bE kB rfl F.kz kD (ah (af 1) ak)) (bt _)) (dA (bE (mI rfl) rfl F.mB mM (ah (cq (N:=["_law_one","_law_other"]) (nt:=2) (cap:=[]) rfl (bV (by kernel_rfl)) (rH (km 0 (km 1 rn))) (Im rfl F.HL (ah (af 0) (ah (af 1) ak))) (λcl C s H ex pn=>⟨(jE rfl (iI (bp (i:=0) bo rfl (aap rfl)) (iI (bp (i:=1) bo rfl (aap rfl)) nT))),dJ,(aL ih hr rfl G.mg G.fn.kp G.b (ah (af 0) (ah (af 1) ak)))⟩)) ak))))))) cR) (aH (aU (dH (cQ (cY hr) (bE fY rfl F.fQ fR (ah (af 0) (ah (gg v9 rfl F.vH) ak))) (bE fY rfl F.fQ fR (ah (af 1) (ah (gg v9 rfl F.vH) ak))) (bt _)) (dA (cQ (cY hr) (af 0) (af 1) (bt _)))))))
theorem D3:bz ["book","mould","mark","days","mended","lacked","shown"] ["book","mould","mark","days"] (aX (top 40)):=⟨rfl,rfl,rfl,by decide +kernel,rfl,by decide +kernel,by decide +kernel⟩
theorem Lw (F:bJ K mg) {f:Addr} {fd:ZA} (G:Gd K mg "goes_with" (top 40) ["book","mould","mark","days"] f fd):aV P w K mg base aY 2 f fd ["book","mould","mark","days"] (bx K uL):=by
 obtain⟨_,_,fv⟩:=F.uk;obtain⟨_,_,de⟩:=F.uD;have bo:(["day","days"]:List Str).Nodup:=by decide +kernel
 have i8:(["day","lacked","mended"]:List Str).Nodup:=by decide +kernel
 have mf:(["day","days","mended"]:List Str).Nodup:=by decide +kernel
 have ay:=D3.nd;exact bI (k:=1) G.fn D3 λbg A outer s H E hr=>(aD (bS 4 ay (aL (uq F fv) (hr.mono (by decide)) rfl fv.mg fv.fn.kp fv.b (ah (af 0) (ah (af 1) (ah (af 2) ak))))) (aD (bS 5 ay (aL (pI F de) (hr.mono (by decide)) rfl de.mg de.fn.kp de.b (ah (af 0) (ah (af 1) (ah (af 2) (ah (dS F.rg rfl) ak)))))) (aD (bS 6 ay (aL (pI F de) (hr.mono (by decide)) rfl de.mg de.fn.kp de.b (ah (af 0) (ah (af 1) (ah (af 2) (ah (dS F.rM rfl) ak)))))) (aH (aU (dH (bE (mI rfl) rfl F.mB mM (ah (cq (N:=["day","days"]) (nt:=1) (cap:=[3]) rfl (bV (by kernel_rfl)) (bU 0) (cH (af 6)) (λcl C s H ex pn=>⟨(bp (i:=0) bo rfl (aap rfl)),dJ,(cQ (dE hr) (af 0) (af 1) rfl)⟩)) ak)) (dH (qk (bE (Aq rfl) rfl F.zU Au (ah (cq (N:=["day","lacked","mended"]) (nt:=1) (cap:=[5,4]) rfl (bV (by kernel_rfl)) (bU 0) (cH (af 3)) (λcl C s H ex pn=>⟨(bp (i:=0) i8 rfl (aap rfl)),dJ,(lT (cQ (dE hr) (af 0) (af 1) rfl) (dA (cQ (dE hr) (af 0) (af 2) rfl)))⟩)) ak))) (dA (bE (mI rfl) rfl F.mB mM (ah (cq (N:=["day","days","mended"]) (nt:=1) (cap:=[3,4]) rfl (bV (by kernel_rfl)) (bU 0) (cH (af 3)) (λcl C s H ex pn=>⟨(bp (i:=0) mf rfl (aap rfl)),dJ,(lT (cQ (dE hr) (bO fm (af 0) ax) (af 1) rfl) (lT (cQ (dE hr) (bO fm (af 0) ax) (af 2) rfl) (dA (cQ (cY hr) (bO fm (af 0) ax) (dS F.kn rfl) (bt _)))))⟩)) ak))))))))))
theorem D4:bz ["life","mark"] ["life","mark"] (aX (top 39)):=⟨rfl,rfl,rfl,by decide +kernel,rfl,by decide +kernel,by decide +kernel⟩
theorem Lx (F:bJ K mg) {f:Addr} {fd:ZA} (G:Gd K mg "days_with" (top 39) ["life","mark"] f fd):aV P w K mg base aY 1 f fd ["life","mark"] (bx K uM):=by
 have bo:(["day","mark","life"]:List Str).Nodup:=by decide +kernel
 have ay:=D4.nd;exact bI (k:=0) G.fn D4 λbg A outer s H E hr=>(aH (aU (cq (N:=["day","mark","life"]) (nt:=1) (cap:=[1,0]) rfl (bV (by kernel_rfl)) (bU 0) (dG rfl F.cJ (ah (dS F.kn rfl) ak)) (λcl C s H ex pn=>⟨(bp (i:=0) bo rfl (aap rfl)),(fC (aZ (dE hr) (af 1) (aQ (af 2) (af 0)) rfl)),(af 0)⟩))))
theorem EB:bz ["book","mould","thing"] ["book","mould","thing"] (aX (top 32)):=⟨rfl,rfl,rfl,by decide +kernel,rfl,by decide +kernel,by decide +kernel⟩
theorem MN (F:bJ K mg) {f:Addr} {fd:ZA} (G:Gd K mg "is_life" (top 32) ["book","mould","thing"] f fd):aV P w K mg base aY 10 f fd ["book","mould","thing"] (bx K kW):=by
 obtain⟨_,_,iw⟩:=F.xZ;obtain⟨_,_,iu⟩:=F.xV;obtain⟨_,_,iH⟩:=F.DP;obtain⟨_,_,uQ⟩:=F.Lp;obtain⟨_,_,uR⟩:=F.Lo;have bo:(["marks"]:List Str).Nodup:=by decide +kernel
 have i8:(["mark","book","mould","thing"]:List Str).Nodup:=by decide +kernel
 have ay:=EB.nd;exact bI (k:=9) G.fn EB λbg A outer s H E hr=>(aD (gY (aL (yb F iw) (hr.mono (by decide)) rfl iw.mg iw.fn.kp iw.b (ah (af 0) ak))) (aD (gY (aL (xW F iu) (hr.mono (by decide)) rfl iu.mg iu.fn.kp iu.b (ah (af 1) ak))) (aD (cU (PW.pt (w_or (iL (eZ (bE fY rfl F.fQ fR (ah (af 2) (ah (gg ef rfl F.dY) ak))))) (jG (aZ (iC hr) (bE kB rfl F.kz kD (ah (af 2) ak)) (dS F.kn rfl) (bt _))))) (aH (aU cN)) cR) (aH (aU (dH (bE (mI rfl) rfl F.mB mM (ah (cq (N:=["marks"]) (nt:=1) (cap:=[]) rfl (bV (by kernel_rfl)) (bU 0) (cH (af 2)) (λcl C s H ex pn=>⟨(bp (i:=0) bo rfl (aap rfl)),dJ,(aL (ya F iH) (hr.mono (by decide)) rfl iH.mg iH.fn.kp iH.b (ah (af 0) ak))⟩)) ak)) (dA (bE (mI rfl) rfl F.mB mM (ah (cq (N:=["mark","book","mould","thing"]) (nt:=1) (cap:=[0,1,2]) rfl (bV (by kernel_rfl)) (bU 0) (dG rfl F.cJ (ah (dS F.kZ rfl) ak)) (λcl C s H ex pn=>⟨(bp (i:=0) i8 rfl (aap rfl)),dJ,(aL (Lw F uR) (hr.mono (by decide)) rfl uR.mg uR.fn.kp uR.b (ah (af 1) (ah (af 2) (ah (af 0) (ah (aL (Lx F uQ) (hr.mono (by decide)) rfl uQ.mg uQ.fn.kp uQ.b (ah (af 3) (ah (af 0) ak))) ak)))))⟩)) ak)))))))))
theorem HM:bz ["_law_script","_law_k","_law_state_here","_law_book_here","_law_mould","_law_lives","_law_things","_law_turn","_law_thing","_law_kept","_law_due"] ["_law_script"] (aX (top 58)):=⟨rfl,rfl,rfl,by decide +kernel,rfl,by decide +kernel,by decide +kernel⟩
theorem SX (F:bJ K mg) {f:Addr} {fd:ZA} (G:Gd K mg "law" (top 58) ["_law_script"] f fd):aV P w K mg base aY 11 f fd ["_law_script"] (bx K (wz w)):=by
 obtain⟨_,_,vt⟩:=F.NL;obtain⟨_,_,vK⟩:=F.Pa;obtain⟨_,_,aI⟩:=F.pS;obtain⟨_,_,vd⟩:=F.MD;obtain⟨_,_,uE⟩:=F.K2;obtain⟨_,_,uT⟩:=F.Ln;obtain⟨_,_,wg⟩:=F.Q0;obtain⟨_,_,vL⟩:=F.Pb;obtain⟨_,_,vM⟩:=F.Pd;obtain⟨_,_,ve⟩:=F.MH;obtain⟨_,_,vN⟩:=F.Pe;have ay:=HM.nd;exact bI (k:=10) G.fn HM λbg A outer s H E hr=>(aD (fk ZV rfl (dG rfl F.cJ (ah (bE (zI rfl) rfl F.zV Av (ah ax (ah (bE (Sv rfl) rfl F.SW Uu (ah (bE kB rfl F.kz kD (ah (af 0) ak)) (ah ax ak))) ak))) ak)) (bK 1 ay) (aD (bS 2 ay (aL (NP F vt) (hr.mono (by decide)) rfl vt.mg vt.fn.kp vt.b (ah (af 0) (ah (af 1) ak)))) (aD (Ht 3 4 rfl ay (ah (qz (aL (Ph F vK) (hr.mono (by decide)) rfl vK.mg vK.fn.kp vK.b (ah (af 2) ak)) qy (qo ax)) (ah (aL (eV F aI) (hr.mono (by decide)) rfl aI.mg aI.fn.kp aI.b (ah (af 2) (ah ax ak))) ak))) (aD (bS 5 ay (fX (ah (aL (MI F vd) (hr.mono (by decide)) rfl vd.mg vd.fn.kp vd.b (ah (af 2) (ah (af 3) (ah (af 4) ak)))) (ah (aL (K3 F uE) (hr.mono (by decide)) rfl uE.mg uE.fn.kp uE.b (ah (af 3) (ah (af 4) ak))) (ah (aL (Lu F uT) (hr.mono (by decide)) rfl uT.mg uT.fn.kp uT.b (ah (af 3) (ah (af 4) ak))) ak))))) (aD (bS 6 ay (bO SQ (af 5) (fX (ah (aL (Q3 F wg) (hr.mono (by decide)) rfl wg.mg wg.fn.kp wg.b (ah (af 2) ak)) ak)))) (aD (fk ZV rfl (dG rfl F.cJ (ah ax ak)) (bK 7 ay) (aH (gY (lO (af 6) (aL (Pj F vL) (hr.mono (by decide)) rfl vL.mg vL.fn.kp vL.b (ah (af 2) (ah (aQ (af 5) (aL (eV F aI) (hr.mono (by decide)) rfl aI.mg aI.fn.kp aI.b (ah (af 2) (ah ax ak)))) ak))))))) (aH (fk ZV rfl (cH (qj (af 6))) (bK 8 ay) (aD (Ht 9 10 rfl ay (ah (bE (Hs hr) rfl F.GH Hw (ah (af 8) ak)) (ah (aL (Pl F vM) (hr.mono (by decide)) rfl vM.mg vM.fn.kp vM.b (ah (af 3) (ah (af 4) (ah (af 8) ak)))) ak))) (aH (cU (PW.pt (w_or (iL (eZ (aL (FU F vN 8) (hr.mono (by decide)) rfl vN.mg vN.fn.kp vN.b (ah (aL (MN F ve) (hr.mono (by decide)) rfl ve.mg ve.fn.kp ve.b (ah (af 3) (ah (af 4) (ah (af 8) ak)))) (ah (af 10) ak))))) (jG (aZ (iC hr) (bE (Hs hr) rfl F.GH Hw (ah (af 8) ak)) (af 9) (bt _))))) (aH (aU cN)) cR))))))))))) (aH (aU cN)))
end
end DI.jA
namespace DI
open PySem L2
def Wp {α:Type} (r:Res α) (Q:α->ag->Prop):Prop:=∃a s,r=some (.ok a,s)/\Q a s
section
variable {α β:Type} {r:Res α} {k:α->ag->Res β} {Q Q':α->ag->Prop} {R:β->ag->Prop} {env:Env} {s:ag}
theorem Wp.ok {a:α} (h:Q a s):Wp (DI.ok a s) Q:=⟨a,s,rfl,h⟩
theorem Wp.mono (h:Wp r Q) (i:∀a s,Q a s->Q' a s):Wp r Q':=by
 obtain⟨a,s,e,q⟩:=h;exact⟨a,s,e,i a s q⟩
theorem Wp.au (h:Wp r λa s=>Wp (k a s) R):Wp (DI.au r k) R:=by
 obtain⟨a,s,e,b,s',e',q⟩:=h;exact⟨b,s',by rw[e];exact e',q⟩
theorem Wp.ne (h:Wp r Q):Wp (DI.ne r) Q:=by
 obtain⟨a,s,e,q⟩:=h;exact⟨a,s,by rw[e];rfl,q⟩
theorem Wp.of (e:r=some (.ok a,s)) (h:Q a s):Wp r Q:=⟨a,s,e,h⟩
theorem Wp.seq {f g:Env->ag->Res Fl} {Q:Fl->ag->Prop} (h:Wp (f env s) λfl s=>match fl with
  | .nx env=>Wp (g env s) Q
  |fl=>Q fl s):Wp (az f g env s) Q:=by
 obtain⟨fl,s',e,h⟩:=h;unfold az;rw[e]
 cases fl with
 |nx env=>exact h
 |rt d=>exact⟨_,_,rfl,h⟩
 |bk e=>exact⟨_,_,rfl,h⟩
 |ct e=>exact⟨_,_,rfl,h⟩
theorem Wp.gL {Q:Fl->ag->Prop} (I:Nat->Env->ag->Prop) (all:List D) (h0:I 0 env s)
 (step:∀i d env s,all[i]?=some d->I i env s->∃env',g d env=some env'/\Wp (b env' s) λfl s=>match fl with
   | .nx e=>I (i+1) e s
   | .ct e=>I (i+1) e s
   | .bk e=>Q (.nx e) s
   | .rt d=>Q (.rt d) s) (fin:∀env s,I all.length env s->Q (.nx env) s):Wp (iM g b all env s) Q:=by
 have key:∀(ds:List D) (i:Nat) (env:Env) (s:ag),all.drop i=ds->i<=all.length->I i env s->Wp (iM g b ds env s) Q:=by
  intro ds
  induction ds with
  |nil =>
   intro i env s hd hi h;have e:i=all.length:=by
    have:=congrArg List.length hd;simp at this;omega
   subst e;exact Wp.ok (fin _ _ h)
  |cons d ds ih =>
   intro i env s hd hi h;have hx:all[i]?=some d:=by
    have:=congrArg (λl=>l[0]?) hd;simpa using this
   have gp:all.drop (i+1)=ds:=by
    have:=congrArg (List.drop 1) hd;simpa [List.drop_drop] using this
   obtain⟨env',hg,hb⟩:=step i d env s hx h;have bC:=(Y0.mp hx).1;unfold iM;rw[hg];refine Wp.au (hb.mono λfl s q=>?_)
   cases fl with
   |nx e=>exact ih (i+1) e s gp bC q
   |ct e=>exact ih (i+1) e s gp bC q
   |bk e=>exact Wp.ok q
   |rt d=>exact Wp.ok q
 exact key all 0 env s rfl (aad _) h0
theorem vO {nt:Nat} {t:Env->ag->Res Bool} {Q:List D->ag->Prop} (I:Nat->List D->ag->Prop) (all:List D) (h0:I 0 [] s)
 (step:∀i d acc s,all[i]?=some d->I i acc s->∃env,g d (Za nt none++caps)=some env/\Wp (t env s) λb s=>if b=true then Wp (f env s) λx s=>I (i+1) (acc++[x]) s else I (i+1) acc s)
 (fin:∀acc s,I all.length acc s->Q acc s):Wp (fB nt caps g t f all s) Q:=by
 have key:∀(ds:List D) (i:Nat) (acc:List D) (s:ag),all.drop i=ds->i<=all.length->I i acc s->Wp (fB nt caps g t f ds s) λxs s=>Q (acc++xs) s:=by
  intro ds
  induction ds with
  |nil =>
   intro i acc s hd hi h;have e:i=all.length:=by
    have:=congrArg List.length hd;simp at this;omega
   subst e;exact Wp.ok (by rw[aa8];exact fin _ _ h)
  |cons d ds ih =>
   intro i acc s hd hi h;have hx:all[i]?=some d:=by
    have:=congrArg (λl=>l[0]?) hd;simpa using this
   have gp:all.drop (i+1)=ds:=by
    have:=congrArg (List.drop 1) hd;simpa [List.drop_drop] using this
   obtain⟨env',hg,hb⟩:=step i d acc s hx h;have bC:=(Y0.mp hx).1;unfold fB;rw[hg];refine Wp.au (Wp.ne (hb.mono λb s q=>?_))
   cases b with
   |true =>
    rw[if_pos rfl] at q |-;refine Wp.au (Wp.ne (q.mono λx s q=>?_));refine Wp.au ((ih (i+1) (acc++[x]) s gp bC q).mono λxs s q=>Wp.ok ?_);rw[aax] at q;exact q
   |false =>
    rw[if_neg Y7] at q |-;exact ih (i+1) acc s gp bC q
 have:=key all 0 [] s rfl (aad _) h0;simpa using this
end
section
variable {α β:Type} {Q:D->ag->Prop} {QL:List D->ag->Prop} {QB:Bool->ag->Prop} {QF:Fl->ag->Prop} {QO:Option Int->ag->Prop} {env:Env} {s:ag} {f g h:Env->ag->Res D} {fa:Env->ag->Res (List D)} {c c':Env->ag->Res Bool} {st dq:Env->ag->Res Fl} {o o':D->D->ag->Res D} {u:D->ag->Res D} {bf:List D->ag->Res D}
theorem wp_ok {a:α} {Q:α->ag->Prop}:Wp (ok a s) Q=Q a s:=propext ⟨λ⟨b,s',e,q⟩=>by cases e;exact q,λq=>⟨a,s,rfl,q⟩⟩
theorem wp_ok' {Q:α->ag->Prop}:Wp (some (Except.ok a,s)) Q=Q a s:=wp_ok
theorem bu {r:Res α} {k:α->ag->Res β} {R:β->ag->Prop}:Wp (au r k) R=Wp r λa s=>Wp (k a s) R:=propext ⟨λ⟨b,s',e,q⟩=>by
 obtain⟨a,s,e1,e2⟩:=pP e;exact⟨a,s,e1,b,s',e2,q⟩,λh=>Wp.au h⟩
theorem wp_ne {Q:α->ag->Prop}:Wp (ne r) Q=Wp r Q:=propext ⟨λ⟨b,s',e,q⟩=>⟨b,s',zh e,q⟩,λh=>h.ne⟩
theorem wp_loc0 {a:D} {r:Env}:Wp (aa 0 (some a::r) s) Q=Q a s:=by rw[show aa 0 (some a::r) s=ok a s from rfl,wp_ok]
theorem wp_locS {i:Nat} {a:Option D} {r:Env}:Wp (aa (i+1) (a::r) s) Q=Wp (aa i r s) Q:=by rw[show aa (i+1) (a::r) s=aa i r s from rfl]
theorem wp_C:Wp (eC d env s) Q=Q d s:=by rw[show eC d env s=ok d s from rfl,wp_ok]
theorem wp_e1:Wp (e1 u f env s) Q=Wp (f env s) λx s=>Wp (u x s) Q:=by unfold e1;rw[bu]
theorem wp_e2:Wp (e2 o f g env s) Q=Wp (f env s) λx s=>Wp (g env s) λy s=>Wp (o x y s) Q:=by unfold e2;simp only[bu]
theorem wp_aNil:Wp (ai env s) QL=QL [] s:=by unfold ai;rw[wp_ok]
theorem wp_aCons:Wp (ae f fa env s) QL=Wp (f env s) λx s=>Wp (fa env s) λxs s=>QL (x::xs) s:=by unfold ae;simp only[bu,wp_ok]
theorem wp_eB:Wp (eB bf fa env s) Q=Wp (fa env s) λds s=>Wp (bf ds s) Q:=by unfold eB;rw[bu]
theorem wp_call:Wp (aC fn fa env s) Q=Wp (fa env s) λds s=>Wp (fn ds s) Q:=by unfold aC;simp only[bu,wp_ne]
theorem nR {Q:α->ag->Prop}:Wp (iB ds r) Q=(ds.length<=Zf/\Wp r Q):=propext ⟨λ⟨b,s',e,q⟩=>by
 unfold iB at e;split at e
 ·exact⟨by assumption,b,s',e,q⟩
 ·(cases e),λ⟨hl,b,s',e,q⟩=>⟨b,s',by unfold iB;rw[if_pos hl];exact e,q⟩⟩
theorem wp_tup:Wp (bB fa env s) Q=Wp (fa env s) λds s=>ds.length<=Zf/\Q (.tup ds) s:=by unfold bB;simp only[bu,nR,wp_ok]
theorem wp_lst:Wp (dR fa env s) Q=Wp (fa env s) λds s=>ds.length<=Zf/\Q (.lst ds) s:=by unfold dR;simp only[bu,nR,wp_ok]
theorem wp_new:Wp (eNew fa env s) Q=Wp (fa env s) λds s=>ds.length<=Zf/\Q (.aj s.length) (s++[.lst ds]):=by unfold eNew;simp only[bu,nR,wp_ok]
theorem wp_frz:Wp (jn f env s) Q=Wp (f env s) λd s=>Wp (cE d s) Q:=by unfold jn;rw[bu]
theorem wp_tBl:Wp (aE f env s) QB=Wp (f env s) λd s=>Wp (gf d s) QB:=by unfold aE;rw[bu]
theorem wp_isBl {b:Bool}:Wp (gf (.bl b) s) QB=QB b s:=by rw[show gf (.bl b) s=ok b s from rfl,wp_ok]
theorem wp_tru:Wp (dD f env s) QB=Wp (f env s) λd s=>Wp (truth d s) QB:=by unfold dD;rw[bu]
theorem wp_truB {b:Bool}:Wp (truth (.bl b) s) QB=QB b s:=by rw[show truth (.bl b) s=ok b s from rfl,wp_ok]
theorem wp_tAnd:Wp (cv c c' env s) QB=Wp (c env s) λb s=>if b=true then Wp (c' env s) QB else QB false s:=by
 unfold cv;rw[bu];congr 1;funext b s
 cases b<;>simp[wp_ok]
theorem wp_tOr:Wp (gu c c' env s) QB=Wp (c env s) λb s=>if b=true then QB true s else Wp (c' env s) QB:=by
 unfold gu;rw[bu];congr 1;funext b s
 cases b<;>simp[wp_ok]
theorem wp_tNot:Wp (fF c env s) QB=Wp (c env s) λb s=>QB (!b) s:=by unfold fF;simp only[bu,wp_ok]
theorem wp_eAnd:Wp (cT f g env s) Q=Wp (f env s) λx s=>Wp (gf x s) λb s=>if b=true then Wp (g env s) Q else Q (.bl false) s:=by
 unfold cT;rw[bu];congr 1;funext x s;rw[bu];congr 1;funext b s
 cases b<;>simp[wp_ok]
theorem wp_eOr:Wp (i6 f g env s) Q=Wp (f env s) λx s=>Wp (gf x s) λb s=>if b=true then Q (.bl true) s else Wp (g env s) Q:=by
 unfold i6;rw[bu];congr 1;funext x s;rw[bu];congr 1;funext b s
 cases b<;>simp[wp_ok]
theorem wp_eNot:Wp (lS f env s) Q=Wp (f env s) λx s=>Wp (gf x s) λb s=>Q (.bl (!b)) s:=by unfold lS;simp only[bu,wp_ok]
theorem wp_eIf:Wp (xy c f g env s) Q=Wp (c env s) λb s=>if b=true then Wp (f env s) Q else Wp (g env s) Q:=by
 unfold xy;rw[bu];congr 1;funext b s
 cases b<;>simp
theorem wp_eCh:Wp (nr o o' f g h env s) Q=Wp (f env s) λx s=>Wp (g env s) λy s=>Wp (o x y s) λz s=>Wp (gf z s) λb s=>if b=true then Wp (h env s) λu s=>Wp (o' y u s) Q else Q (.bl false) s:=by
 unfold nr;simp only[bu];congr 1;funext x s;congr 1;funext y s;congr 1;funext z s;congr 1;funext b s
 cases b<;>simp[wp_ok,bu]
theorem wp_sNil:Wp (bT env s) QF=QF (.nx env) s:=by unfold bT;rw[wp_ok]
theorem wp_sRet:Wp (aO f env s) QF=Wp (f env s) λd s=>QF (.rt d) s:=by unfold aO;simp only[bu,wp_ok]
theorem wp_sExpr:Wp (dI f env s) QF=Wp (f env s) λ_ s=>QF (.nx env) s:=by unfold dI;simp only[bu,wp_ok]
theorem wp_sCont:Wp (Il env s) QF=QF (.ct env) s:=by unfold Il;rw[wp_ok]
noncomputable def pq (st:Env->ag->Res Fl) (Q:Fl->ag->Prop):Fl->ag->Prop:=λfl s=>match fl with
 | .nx env=>Wp (st env s) Q
 |fl=>Q fl s
theorem wp_sSeq:Wp (az st dq env s) QF=Wp (st env s) (pq dq QF):=propext ⟨λh=>by
 unfold az at h;rw[bu] at h;refine h.mono λfl s q=>?_
 cases fl with
 |nx e=>exact q
 |rt d=>have q:Wp (ok (Fl.rt d) s) QF:=q;rw[wp_ok] at q;exact q
 |bk d=>have q:Wp (ok (Fl.bk d) s) QF:=q;rw[wp_ok] at q;exact q
 |ct d=>have q:Wp (ok (Fl.ct d) s) QF:=q;rw[wp_ok] at q;exact q,λh=>Wp.seq (h.mono λfl s q=>by cases fl<;>exact q)⟩
theorem Wp.step (h:∀R,R=dq->Wp (st env s) (pq R QF)):Wp (az st dq env s) QF:=by rw[wp_sSeq];exact h _ rfl
theorem mO {env':Env} {s':ag} (h:st env s=ok (.nx env') s') (k:Wp (dq env' s') QF):Wp (az st dq env s) QF:=by
 rw[wp_sSeq,h,wp_ok];exact k
theorem aft_nx:pq st QF (.nx env) s=Wp (st env s) QF:=rfl
theorem aft_rt:pq st QF (.rt d) s=QF (.rt d) s:=rfl
theorem aft_ct:pq st QF (.ct env) s=QF (.ct env) s:=rfl
theorem wp_sIf:Wp (bR c st dq env s) QF=Wp (c env s) λb s=>if b=true then Wp (st env s) QF else Wp (dq env s) QF:=by
 unfold bR;rw[bu];congr 1;funext b s
 cases b<;>simp
theorem wp_sAsg {gd:D->Env->Option Env}:Wp (aP f gd env s) QF=Wp (f env s) λd s=>∃e,gd d env=some e/\QF (.nx e) s:=by
 unfold aP;rw[bu];congr 1;funext d s
 cases h:gd d env with
 |none=>exact propext ⟨λ⟨_,_,e,_⟩=>(by cases e),λ⟨_,e,_⟩=>(by cases e)⟩
 |some e=>rw[wp_ok];exact propext ⟨λq=>⟨e,rfl,q⟩,λ⟨e',z,q⟩=>by cases z;exact q⟩
theorem asg_N {i:Nat} {P:Env->Prop}:(∃e,gN i d env=some e/\P e)=P (env.set i (some d)):=propext ⟨λ⟨e,z,q⟩=>by cases z;exact q,λq=>⟨_,rfl,q⟩⟩
theorem asg_T {P:Env->Prop}:(∃e,gT gs (.tup ds) env=some e/\P e)=∃e,gH gs ds env=some e/\P e:=rfl
theorem asg_nil {P:Env->Prop}:(∃e,gH [] [] env=some e/\P e)=P env:=propext ⟨λ⟨e,z,q⟩=>by cases z;exact q,λq=>⟨_,rfl,q⟩⟩
theorem asg_cons {i:Nat} {P:Env->Prop}:(∃e,gH (gN i::gs) (d::ds) env=some e/\P e)=∃e,gH gs ds (env.set i (some d))=some e/\P e:=rfl
theorem wp_par2 {i j:Nat}:Wp (sv i j fa env s) QF=Wp (fa env s) λds s=>∃x y,ds=[x,y]/\QF (.nx ((env.set i (some x)).set j (some y))) s:=by
 unfold sv;rw[bu];congr 1;funext ds s
 match ds with
 | [x,y] =>
  show Wp (ok (Fl.nx ((env.set i (some x)).set j (some y))) s) QF=_;rw[wp_ok];exact propext ⟨λq=>⟨x,y,rfl,q⟩,λ⟨x',y',e,q⟩=>by cases e;exact q⟩
 | []=>exact propext ⟨λ⟨_,_,e,_⟩=>(by cases e),λ⟨_,_,e,_⟩=>(by cases e)⟩
 | [_]=>exact propext ⟨λ⟨_,_,e,_⟩=>(by cases e),λ⟨_,_,e,_⟩=>(by cases e)⟩
 |_::_::_::_=>exact propext ⟨λ⟨_,_,e,_⟩=>(by cases e),λ⟨_,_,e,_⟩=>(by cases e)⟩
theorem par_of {P:D->D->Prop}:(∃x' y',[x,y]=[x',y']/\P x' y')=P x y:=propext ⟨λ⟨_,_,e,q⟩=>by cases e;exact q,λq=>⟨x,y,rfl,q⟩⟩
theorem wp_sFor:Wp (dh it gd st env s) QF=Wp (it env s) λds s=>Wp (iM gd st ds env s) QF:=by unfold dh;rw[bu]
theorem wp_sSub {fo fi:Env->ag->Res D}:Wp (fS f fo fi env s) QF=Wp (f env s) λx s=>Wp (fo env s) λd s=>Wp (fi env s) λn s=>∃s',eR d n x s=some s'/\QF (.nx env) s':=by
 unfold fS;simp only[bu];congr 1;funext x s;congr 1;funext d s;congr 1;funext n s
 cases h:eR d n x s with
 |none=>exact propext ⟨λ⟨_,_,e,_⟩=>(by cases e),λ⟨_,e,_⟩=>(by cases e)⟩
 |some e=>simp only[wp_ok];exact propext ⟨λq=>⟨e,rfl,q⟩,λ⟨e',z,q⟩=>by cases z;exact q⟩
theorem wp_app:Wp (fJ f g env s) Q=Wp (f env s) λd s=>gJ d s=true/\Wp (g env s) λx s=>Wp (gI d x s) Q:=by
 unfold fJ;rw[bu];congr 1;funext d s
 cases h:gJ d s with
 |true=>rw[if_pos rfl,bu];simp
 |false=>rw[if_neg Y7];exact propext ⟨λ⟨_,_,e,_⟩=>(by cases e),λ⟨e,_⟩=>(by cases e)⟩
noncomputable def oI (Q:D->ag->Prop):Fl->ag->Prop:=λfl s=>match fl with
 | .rt d=>Q d s
 | .nx _=>Q .aA s
 |_=>False
theorem wp_fn:Wp (bc np ns st ds s) Q=(ds.length=np/\Wp (st (ds.map some++Za (ns-np) none) s) (oI Q)):=by
 unfold bc;by_cases h:ds.length=np
 ·rw[if_pos h,bu]
  refine propext ⟨λq=>⟨h,q.mono λfl s q=>?_⟩,λ⟨_,q⟩=>q.mono λfl s q=>?_⟩
  ·cases fl with
   |rt d=>exact(show Wp (ok d s) Q from q) |> λz=>by rw[wp_ok] at z;exact z
   |nx e=>exact(show Wp (ok D.aA s) Q from q) |> λz=>by rw[wp_ok] at z;exact z
   |bk e=>obtain⟨_,_,e,_⟩:=q;cases e
   |ct e=>obtain⟨_,_,e,_⟩:=q;cases e
  ·cases fl with
   |rt d=>exact Wp.ok q
   |nx e=>exact Wp.ok q
   |bk e=>exact q.elim
   |ct e=>exact q.elim
 ·rw[if_neg h]
  exact propext ⟨λ⟨_,_,e,_⟩=>(by cases e),λ⟨e,_⟩=>absurd e h⟩
theorem fin_rt:oI Q (.rt d) s=Q d s:=rfl
theorem fin_nx:oI Q (.nx env) s=Q .aA s:=rfl
theorem wp_comp:Wp (ba nt cap it gd c f env s) Q=Wp (it env s) λds s=>ds.length<=Zf/\Wp (fB nt (gF cap env) gd c f ds s) λxs s=>Q (.lst xs) s:=by
 unfold ba;simp only[bu,nR,wp_ok]
theorem wp_sl:Wp (kb f l' h' env s) Q=Wp (f env s) λd s=>Wp (l' env s) λlo s=>Wp (h' env s) λhi s=>Wp (jf d lo hi s) Q:=by unfold kb;simp only[bu]
theorem wp_pNo:Wp (ka env s) QO=QO none s:=by unfold ka;rw[wp_ok]
theorem nV {i:Int} (hi:f env s=ok (.int i) s):Wp (jS f env s) QO=QO (some i) s:=by unfold jS;rw[hi,fg,wp_ok]
end
end DI
namespace DI
open PySem L2
def bP (s:ag) (k:Nat):Prop:=∃a b:Int,s[k]?=some (.lst [.int a,.int b])/\0<=a/\0<=b/\b<2147483647
structure Ex (k:Nat) (s s':ag):Prop where
 len:s.length<=s'.length
 val:∀j,j<s.length->j≠k->s'[j]?=s[j]?
theorem Ex.refl (k:Nat) (s:ag):Ex k s s:=⟨Nat.le_refl _,λ_ _ _=>rfl⟩
theorem Ex.trans (h:Ex k a b) (g:Ex k b c):Ex k a c:=⟨Zo h.len g.len,λj hj hk=>(g.val j (Y5 hj h.len) hk).trans (h.val j hj hk)⟩
theorem Ex.set (k:Nat) (s:ag) (c:Cell):Ex k s (s.set k c):=⟨by simp,λj _ hj=>Ze (abe hj)⟩
theorem Ex.app (k:Nat) (s:ag) (c:List Cell):Ex k s (s++c):=⟨by simp,λj hj _=>Zm hj⟩
theorem bP.lt (h:bP s k):k<s.length:=by
 obtain⟨a,b,e,_⟩:=h;exact(Y0.mp e).1
theorem bP.app (h:bP s k) (c:List Cell):bP (s++c) k:=by
 obtain⟨a,b,e,r⟩:=h;exact⟨a,b,by rw[Zm (Y0.mp e).1];exact e,r⟩
theorem bP.set (h:bP s k) (hj:j≠k) (c:Cell):bP (s.set j c) k:=by
 obtain⟨a,b,e,r⟩:=h;exact⟨a,b,by rw[Ze hj];exact e,r⟩
theorem CI (x y:D) (k:Nat) (s:ag) (h:s[k]?=some (.lst [x,y])):aq (.aj k) (.int 0) s=ok x s:=by
 simp[aq,ic,res,h,eI,fq,bF]
theorem CJ (x y:D) (k:Nat) (s:ag) (h:s[k]?=some (.lst [x,y])):aq (.aj k) (.int 1) s=ok y s:=by
 simp[aq,ic,res,h,eI,fq,bF]
theorem Jq (x y z:D) (k:Nat) (s:ag) (h:s[k]?=some (.lst [x,y])):eR (.aj k) (.int 0) z s=some (s.set k (.lst [z,y])):=by
 simp[eR,h,fq]
theorem Jr (x y z:D) (k:Nat) (s:ag) (h:s[k]?=some (.lst [x,y])):eR (.aj k) (.int 1) z s=some (s.set k (.lst [x,z])):=by
 simp[eR,h,fq]
@[simp] theorem rN {a:D} {r:Env} {s:ag}:aa 0 (some a::r) s=ok a s:=rfl
@[simp] theorem rP {i:Nat} {a:Option D} {r:Env} {s:ag}:aa (i+1) (a::r) s=aa i r s:=rfl
theorem ltI (i j:Int) (s:ag):jW (.int i) (.int j) s=ok (.bl (decide (i<j))) s:=rfl
theorem CK (i j:Int) (s:ag):wU (.int i) (.int j) s=ok (.bl (decide (j<i))) s:=rfl
theorem Xn (i j:Int) (s:ag):wV (.int i) (.int j) s=ok (.bl (decide (j<=i))) s:=rfl
theorem Xo (i j:Int) (s:ag):mR (.int i) (.int j) s=ok (.bl (decide (i<=j))) s:=rfl
theorem Js (i j:Int) (s:ag):bY (.int i) (.int j) s=ok (.int (i+j)) s:=rfl
theorem Jt (i j:Int) (s:ag):ql (.int i) (.int j) s=ok (.int (i-j)) s:=rfl
theorem Xp (i j:Int) (s:ag):aT (.int i) (.int j) s=ok (.bl (i==j)) s:=rfl
theorem Xq (i j:Int) (s:ag):ei (.int i) (.int j) s=ok (.bl (!(i==j))) s:=rfl
theorem oJ {i j:Int} (s:ag) (h:0<j):jh (.int i) (.int j) s=ok (.int (i % j)) s:=by
 simp[jh,Bb,h,bF]
theorem Ju (s:ag) (h:0<j) (h2:j<1073741824):rZ (.int i) (.int j) s=ok (.int (i / j)) s:=by
 simp[rZ,Bc,h,h2,bF]
theorem sD (s:ag) (h:rY i j=true):iN (.int i) (.int j) s=ok (.int (i*j)) s:=by
 simp[iN,Ba,h,bF]
theorem mulOk_of (h1:-(2 ^ 64)<i) (h2:i<2 ^ 64):rY i j=true:=by
 unfold rY;rw[decide_eq_true h1,decide_eq_true h2];rfl
theorem eY (h:bP s k) (h1:0<m) (h2:m<1073741824):Wp (bX [.aj k,.int m] s) λd s'=>∃r:Int,d=.int r/\0<=r/\r<m/\bP s' k/\Ex k s s':=by
 obtain⟨a,b,e,ha,hb,ph⟩:=h;have hk:=(Y0.mp e).1;by_cases h0:0<a
 ·have es:(s.set k (.lst [.int (a / m),.int b]))[k]?=some (.lst [.int (a / m),.int b]):=Zi hk
  refine⟨.int (a % m),s.set k (.lst [.int (a / m),.int b]),?_,a % m,rfl,acE _ (by omega),abM _ h1,⟨a / m,b,es,Int.ediv_nonneg ha (by omega),hb,ph⟩,Ex.set _ _ _⟩;simp only[bX,bc,az,bR,aE,e2,rN,rP,eC,fg,Zl,aaL,aaf,aaB,CI _ _ k s e,CK,gf,Zz,ZY,decide_eq_true h0,if_true,aP,gN,oJ s h1,fS,Ju s h1 h2,Jq _ _ _ k s e,aO,Z8,Z9,Za]
 ·have hn:decide (0<a)=false:=decide_eq_false h0
  have ex:0<=(b*48271+29) % 2147483647/\(b*48271+29) % 2147483647<2147483647:=⟨acE _ (by decide),abM _ (by decide)⟩;generalize hx:(b*48271+29) % 2147483647=x at ex;have es:(s.set k (.lst [.int a,.int x]))[k]?=some (.lst [.int a,.int x]):=Zi hk;generalize hy:(x*x+39373*x+7) % 2147483629=y;have ey:0<=y/\y<2147483629:=by rw[<- hy];exact⟨acE _ (by decide),abM _ (by decide)⟩
  generalize hz:(y*y+16807*y) % 2147483587=z;refine⟨.int (z / 8 % m),s.set k (.lst [.int a,.int x]),?_,_,rfl,acE _ (by omega),abM _ h1,⟨a,x,es,ha,ex.1,ex.2⟩,Ex.set _ _ _⟩;have m1:iN (.int b) (.int 48271) s=ok (.int (b*48271)) s:=sD s (mulOk_of (by omega) (by omega));have m2:∀s',iN (.int x) (.int x) s'=ok (.int (x*x)) s':=λs'=>sD s' (mulOk_of (by omega) (by omega));have m3:∀s',iN (.int 39373) (.int x) s'=ok (.int (39373*x)) s':=λs'=>sD s' (mulOk_of (by decide) (by decide));have m4:∀s',iN (.int y) (.int y) s'=ok (.int (y*y)) s':=λs'=>sD s' (mulOk_of (by omega) (by omega));have m5:∀s',iN (.int 16807) (.int y) s'=ok (.int (16807*y)) s':=λs'=>sD s' (mulOk_of (by decide) (by decide));simp only[bX,bc,az,bR,aE,e2,rN,rP,eC,fg,Zl,aaL,aaf,aaB,CI _ _ k s e,CJ _ _ k s e,CK,gf,Zz,ZY,hn,Y2,if_false,if_true,bT,fS,m1,Js,oJ _ (show (0:Int)<2147483647 by decide),hx,Jr _ _ _ k s e,aP,gN,CJ _ _ k _ es,m2,m3,
   oJ _ (show (0:Int)<2147483629 by decide),hy,Z8,Z9,Za,m4,m5,oJ _ (show (0:Int)<2147483587 by decide),hz,aO,Ju _ (show (0:Int)<8 by decide) (by decide),oJ _ h1]
theorem le_size (h:n<=1000000):n<=Zf:=Zo h (by decide)
theorem yO (h1:-1000000<=j) (h2:j<=1000000):jg j=true:=by
 unfold jg;rw[decide_eq_true (show -(2 ^ 62)<=j by omega),decide_eq_true (show j<2 ^ 62 by omega)];rfl
theorem Pn {α:Type} {ds:List D} {r:Res α} (h:ds.length<=1000000):iB ds r=r:=if_pos (le_size h)
theorem Q4 {α β:Type} (f:α->β) (xs:List α) (i:Int):eI (xs.map f) i=(eI xs i).map f:=by
 unfold eI;rw[Y1]
 cases fq xs.length i with
 |none=>rfl
 |some j=>simp
theorem mC {α:Type} {xs:List α} {i:Int} (h0:0<=i) (h1:i<xs.length):∃x,eI xs i=some x/\xs[i.toNat]?=some x:=by
 have hj:i.toNat<xs.length:=by omega
 refine⟨xs[i.toNat],?_,Y8 hj⟩;unfold eI fq;rw[if_pos h0,if_pos h1];exact Y8 hj
theorem Q5 {ns:List Int} {i:Int} {s:ag} (h0:0<=i):∃c:Int,qT [.bG ns,.int i] s=ok (.int c) s:=by
 by_cases h:i<(ns.length:Int)
 ·obtain⟨x,h1,_⟩:=mC h0 h
  refine⟨x,?_⟩;have hx:aq (.bG ns) (.int i) s=ok (.int x) s:=by simp[aq,ic,res,h1,bF]
  simp only[qT,bc,az,bR,aE,e2,eB,ae,ai,dj,wW,res,bF,rN,rP,eC,fg,Zl,aaL,aaf,aaB,Zz,ZY,if_true,ltI,gf,decide_eq_true h,aO,hx,Za]
 ·refine⟨0,?_⟩
  simp only[qT,bc,az,bR,aE,e2,eB,ae,ai,dj,wW,res,bF,rN,rP,eC,fg,Zl,aaL,aaf,aaB,Zz,ZY,if_true,ltI,gf,decide_eq_false h,Y2,if_false,bT,aO,Za]
theorem Po {ns:List Int} {i:Int} {s:ag} (h0:0<=i):Wp (vh [.bG ns,.int i] s) λd s'=>d=.aj s.length/\bP s' s.length/\∃c,s'=s++[c]:=by
 obtain⟨c,hc⟩:=Q5 (ns:=ns) (s:=s) h0;have hp:∀s,qm (.int 10) (.int 18) s=ok (.int (10 ^ 18)) s:=λs=>by
  have e:Bd (.int 10) (.int 18)=some (.int (10 ^ 18)):=by
   show (if (decide ((0:Int)<=18)&&decide ((18:Int)<=1000000)&&decide ((10:Int).natAbs<2 ^ 64))=true then some (D.int (10 ^ (18:Int).toNat)) else none)=_
   rw[if_pos (by decide)];rfl
  simp only[qm,e,bF]
 refine⟨.aj s.length,s++[.lst [.int (if c-10 ^ 18 > 0 then c-10 ^ 18 else 0),.int (c % 2147483647)]],?_,rfl,⟨_,_,by simp;exact⟨rfl,rfl⟩,?_,acE _ (by decide),abM _ (by decide)⟩,_,rfl⟩
 ·simp only[vh,bc,az,aP,aC,ae,ai,rN,rP,eC,fg,Zl,aaL,aaf,aaB,Zz,ZY,if_true,hc,og,gN,Z8,Z9,Za,aO,eNew,eB,kC,e2,hp,Jt,oJ _ (show (0:Int)<2147483647 by decide)]
  rw[Pn (by simp)];rfl
 ·split<;>omega
structure bW (m:Nat) (ns:List Int):Prop where
 lo:∀x∈ns,0<=x/\x<m
 up:ns.Pairwise (· < ·)
noncomputable abbrev mD (ns:List Int):D:=.tup (ns.map D.int)
theorem bW.len (h:bW m ns):ns.length<=m:=by
 have key:∀(l:List Int) (b:Int),l.Pairwise (· < ·)->(∀x∈l,b<=x/\x<m)->(l.length:Int)<=m-b\/l=[]:=by
  intro l
  induction l with
  |nil=>intro b _ _;exact .inr rfl
  |cons x l ih =>
   intro b hp hb;obtain⟨h1,h2⟩:=ZN.mp hp;have hx:=hb x Zb;left
   rcases ih (x+1) h2 (λy hy=>⟨by have:=h1 y hy;omega,(hb y (Zd _ hy)).2⟩) with h|h
   ·rw[Zz];omega
   ·subst h
    simp;omega
 rcases key ns 0 h.up h.lo with h'|h'
 ·omega
 ·subst h';simp
theorem eQ (h:fa env s=ok [.int n] s1) (hn:n<=1000000):cb fa env s=ok (cg 0 n) s1:=by
 unfold cb;rw[h,fg]
 show (if jg (n:Int)=true then ok (cg 0 (n:Int).toNat) s1 else none)=_
 rw[if_pos (yO (by omega) (by omega)),ZD]
theorem zm {n:Nat} {i:Int} (h:fa env s=ok [.int i] s1) (hi:i=n) (hn:n<=1000000):cb fa env s=ok (cg 0 n) s1:=by
 subst hi;exact eQ h hn
theorem zW (h:fa env s=ok [.int i,.int j] s1) (h1:-1000000<=i) (h2:i<=1000000) (h3:-1000000<=j) (h4:j<=1000000):qM fa env s=ok (cg i (j-i).toNat) s1:=by
 unfold qM;rw[h,fg]
 show (if (jg i&&jg j)=true then ok (cg i (j-i).toNat) s1 else none)=_
 rw[if_pos (by rw[yO h1 h2,yO h3 h4];rfl)]
theorem wp_ltI:Wp (jW (.int i) (.int j) s) Q=Q (.bl (decide (i<j))) s:=by rw[ltI,wp_ok]
theorem wp_gtI:Wp (wU (.int i) (.int j) s) Q=Q (.bl (decide (j<i))) s:=by rw[CK,wp_ok]
theorem wp_geI:Wp (wV (.int i) (.int j) s) Q=Q (.bl (decide (j<=i))) s:=by rw[Xn,wp_ok]
theorem wp_leI:Wp (mR (.int i) (.int j) s) Q=Q (.bl (decide (i<=j))) s:=by rw[Xo,wp_ok]
theorem wp_addI:Wp (bY (.int i) (.int j) s) Q=Q (.int (i+j)) s:=by rw[Js,wp_ok]
theorem wp_subI:Wp (ql (.int i) (.int j) s) Q=Q (.int (i-j)) s:=by rw[Jt,wp_ok]
theorem wp_eqI:Wp (aT (.int i) (.int j) s) Q=Q (.bl (i==j)) s:=by rw[Xp,wp_ok]
theorem wp_neI:Wp (ei (.int i) (.int j) s) Q=Q (.bl (!(i==j))) s:=by rw[Xq,wp_ok]
end DI
local macro_rules | `(tactic| simp only[VC])=>`(tactic| simp only[DI.wp_ok,DI.wp_ok',DI.wp_ne,DI.wp_loc0,DI.wp_locS,DI.wp_C,DI.wp_e1,DI.wp_e2,DI.wp_aNil,DI.wp_aCons,DI.wp_eB,DI.wp_call,DI.wp_tup,DI.wp_lst,DI.wp_new,DI.wp_frz,DI.wp_tBl,DI.wp_isBl,DI.wp_tru,DI.wp_truB,DI.wp_tAnd,DI.wp_tOr,DI.wp_tNot,DI.wp_eAnd,DI.wp_eOr,DI.wp_eNot,DI.wp_eIf,DI.wp_eCh,DI.wp_sNil,DI.wp_sRet,DI.wp_sExpr,DI.wp_sCont,DI.wp_sSeq,DI.aft_nx,DI.aft_rt,DI.aft_ct,DI.wp_sIf,DI.wp_sAsg,DI.asg_N,DI.asg_T,DI.asg_nil,DI.asg_cons,DI.wp_par2,DI.par_of,DI.wp_sFor,DI.wp_sSub,DI.wp_app,DI.wp_fn,DI.fin_rt,DI.fin_nx,DI.wp_comp,DI.wp_sl,DI.wp_pNo,List.map_cons,List.map_nil,List.cons_append,List.nil_append,List.length_cons,List.length_nil,List.set_cons_succ,List.set_cons_zero,List.replicate,true_and,Nat.reduceSub,Nat.reduceAdd,DI.wp_ltI,DI.wp_gtI,DI.wp_geI,DI.wp_leI,DI.wp_addI,DI.wp_subI,DI.wp_eqI,DI.wp_neI])
local macro_rules | `(tactic| simp only[VC,$xs,*])=>`(tactic| simp only[DI.wp_ok,DI.wp_ok',DI.wp_ne,DI.wp_loc0,DI.wp_locS,DI.wp_C,DI.wp_e1,DI.wp_e2,DI.wp_aNil,DI.wp_aCons,DI.wp_eB,DI.wp_call,DI.wp_tup,DI.wp_lst,DI.wp_new,DI.wp_frz,DI.wp_tBl,DI.wp_isBl,DI.wp_tru,DI.wp_truB,DI.wp_tAnd,DI.wp_tOr,DI.wp_tNot,DI.wp_eAnd,DI.wp_eOr,DI.wp_eNot,DI.wp_eIf,DI.wp_eCh,DI.wp_sNil,DI.wp_sRet,DI.wp_sExpr,DI.wp_sCont,DI.wp_sSeq,DI.aft_nx,DI.aft_rt,DI.aft_ct,DI.wp_sIf,DI.wp_sAsg,DI.asg_N,DI.asg_T,DI.asg_nil,DI.asg_cons,DI.wp_par2,DI.par_of,DI.wp_sFor,DI.wp_sSub,DI.wp_app,DI.wp_fn,DI.fin_rt,DI.fin_nx,DI.wp_comp,DI.wp_sl,DI.wp_pNo,List.map_cons,List.map_nil,List.cons_append,List.nil_append,List.length_cons,List.length_nil,List.set_cons_succ,List.set_cons_zero,List.replicate,true_and,Nat.reduceSub,Nat.reduceAdd,DI.wp_ltI,DI.wp_gtI,DI.wp_geI,DI.wp_leI,DI.wp_addI,DI.wp_subI,DI.wp_eqI,DI.wp_neI,$xs,*])
namespace DI
open PySem L2
theorem Wp.eq {α:Type} {r:Res α} {d:α} {s:ag} (h:Wp r λa s'=>a=d/\s'=s):r=DI.ok d s:=by
 obtain⟨a,s',e,rfl,rfl⟩:=h;exact e
theorem gU {f:Env->ag->Res D} {env:Env} {s s1:ag} {ds:List D} (h:f env s=ok (.tup ds) s1):bh f env s=ok ds s1:=by
 unfold bh;rw[h];rfl
theorem gW (h:f env s=ok (.lst ds) s1):bh f env s=ok ds s1:=by
 unfold bh;rw[h];rfl
theorem nQ:∀(ns:List Int),cO (ns.map D.int)=true
 | []=>rfl
 |n::ns=>by simp only[Zl,cO,lay,nQ ns,aay]
theorem E9:∀(ns:List Int),cB (ns.map D.int)=0
 | []=>rfl
 |n::ns=>by simp only[Zl,cB,dep,E9 ns,Nat.max_self]
theorem GK (x:Int) (ns:List Int):((ns.map D.int).any λy=>beq y (.int x))=decide (x∈ns):=by
 induction ns with
 |nil=>simp
 |cons n ns ih =>
  simp only[Zl,adf,ih,beq];by_cases h:n=x
  ·subst h;simp
  ·have h':¬ x=n:=λe=>h e.symm
   simp[h,h']
theorem ko {x:Int} {ns:List Int} {s:ag}:bN (.int x) (mD ns) s=ok (.bl (decide (x∈ns))) s:=by
 have hl:mJ 100 (.int x) (ns.map D.int)=true:=by simp only[mJ,lay,nQ,dep,aay,aad,decide_true]
 have e:inD (.int x) (ns.map D.int)=some (decide (x∈ns)):=by unfold inD;rw[if_pos hl,GK]
 unfold bN;rw[show lM (mD ns) s=some (ns.map D.int) from rfl];simp only[e];rfl
theorem EC:dg (.int x) (mD ns) s=ok (.bl (!decide (x∈ns))) s:=by
 have hl:mJ 100 (.int x) (ns.map D.int)=true:=by simp only[mJ,lay,nQ,dep,aay,aad,decide_true]
 have e:inD (.int x) (ns.map D.int)=some (decide (x∈ns)):=by unfold inD;rw[if_pos hl,GK]
 unfold dg;rw[show lM (mD ns) s=some (ns.map D.int) from rfl];simp only[e];rfl
noncomputable def sub (a b:List Int):Bool:=a.all λx=>decide (x∈b)
theorem mr {α:Type} (p:α->Bool) (xs:List α) (s:ag):jR [.lst (xs.map λx=>D.bl (p x))] s=ok (.bl (xs.all p)) s:=by
 have e:ie (xs.map λx=>D.bl (p x))=some (xs.map p):=by
  have:=QA (bs:=xs.map p);rw[Z7] at this;exact this
 show bF ((ie (xs.map λx=>D.bl (p x))).map λ(bs:List Bool)=>D.bl (bs.all id)) s=_;rw[e];show ok (D.bl ((xs.map p).all id)) s=_;rw[List.all_map];rfl
theorem filter_tt {α:Type} (xs:List α):xs.filter (λ_=>true)=xs:=by simp
theorem fx {nt:Nat} {caps:Env} {g:D->Env->Option Env} {t:Env->ag->Res Bool} {f:Env->ag->Res D} {s:ag} (p:Int->Bool) (h:Int->D) (ns:List Int) (hh:∀n∈ns,∃env,g (.int n) (Za nt none++caps)=some env/\t env s=ok (p n) s/\(p n=true->f env s=ok (h n) s)) :
  fB nt caps g t f (ns.map D.int) s=ok ((ns.filter p).map h) s:=by
 induction ns with
 |nil=>rfl
 |cons n ns ih =>
  obtain⟨env,h1,h2,h3⟩:=hh n Zb;have ih:=ih λn' h'=>hh n' (Zd _ h');rw[Zl];unfold fB;rw[h1];simp only[h2,og,fg]
  cases hp:p n with
  |true=>simp only[if_true,h3 hp,og,fg,ih,aaN,hp,Zl]
  |false=>simp only[Y2,if_false,ih,aaN,hp]
theorem comp_map {α:Type} (d:α->D) (p:α->Bool) (h:α->D) (xs:List α) (hh:∀x∈xs,∃env,g (d x) (Za nt none++caps)=some env/\t env s=ok (p x) s/\(p x=true->f env s=ok (h x) s)) :
  fB nt caps g t f (xs.map d) s=ok ((xs.filter p).map h) s:=by
 induction xs with
 |nil=>rfl
 |cons n ns ih =>
  obtain⟨env,h1,h2,h3⟩:=hh n Zb;have ih:=ih λn' h'=>hh n' (Zd _ h');rw[Zl];unfold fB;rw[h1];simp only[h2,og,fg]
  cases hp:p n with
  |true=>simp only[if_true,h3 hp,og,fg,ih,aaN,hp,Zl]
  |false=>simp only[Y2,if_false,ih,aaN,hp]
end DI
namespace DI
open PySem L2
theorem NT:ye [.int i] s=ok (.bl (decide (0<=i))) s:=by
 rfl
theorem pN:pL [.int i,.int m] s=ok (.bl (decide (0<=i)&&decide (i<m))) s:=by
 refine Wp.eq ?_;unfold pL;simp only[VC,NT];by_cases h:0<=i
 ·simp[h]
 ·simp[h]
theorem GN:qY [.int i] s=ok (.bl (decide (0<=i)&&decide (i<8))) s:=by
 refine Wp.eq ?_;unfold qY;simp only[VC,pN,true_and]
theorem FV (xs:List D):cutD xs (some 1) none=xs.drop 1:=by
 unfold cutD HT.aR
 cases xs with
 |nil=>simp
 |cons x xs =>
  simp only[Zz]
  have e:(if (1:Int)<0 then (1+((xs.length+1:Nat):Int)).toNat else min (1:Int).toNat (xs.length+1))=1:=by simp
  simp
noncomputable def rise:List Int->Bool
 | []=>true
 | [_]=>true
 |a::b::r=>decide (a<b)&&rise (b::r)
theorem GO (h:ns.Pairwise (· < ·)):rise ns=true:=by
 induction ns with
 |nil=>rfl
 |cons a ns ih =>
  cases ns with
  |nil=>rfl
  |cons b r =>
   obtain⟨h1,h2⟩:=ZN.mp h;simp only[rise,ih h2,abZ];exact decide_eq_true (h1 b Zb)
theorem FW:∀(ns:List Int),((ns.zip (ns.drop 1)).all λp=>decide (p.1<p.2))=rise ns
 | []=>rfl
 | [_]=>rfl
 |a::b::r=>by
  have ih:=FW (b::r);simp only[List.drop_succ_cons,List.drop_zero,aau,List.all_cons,rise] at ih |-;rw[ih]
theorem NU (xs ys:List Int):iR (xs.map D.int) (ys.map D.int)=(xs.zip ys).map λp=>D.tup [.int p.1,.int p.2]:=by
 unfold iR;rw[List.zip_map,Z7];rfl
theorem FX (h:fa env s=ok [.tup xs,.tup ys] s1):oE fa env s=ok (iR xs ys) s1:=by
 unfold oE;rw[h];rfl
theorem NV (hl:ns.length<=1000000):nM [mD ns] s=ok (.bl (rise ns)) s:=by
 refine Wp.eq ?_;unfold nM;simp only[VC];have hz:oE (ae (aa 0) (ae (kb (aa 0) (jS (eC (.int 1))) ka) ai)) [some (mD ns)] s=ok (iR (ns.map D.int) ((ns.drop 1).map D.int)) s:=by
  refine FX (Wp.eq ?_);simp only[VC];rw[nV (i:=1) rfl]
  try simp only[VC]
  refine Wp.of (show jf (mD ns) (some 1) none s=ok (.tup (cutD (ns.map D.int) (some 1) none)) s from rfl) ⟨?_,rfl⟩;rw[FV,List.map_drop]
 refine Wp.of hz ⟨le_size (by rw[yz];simp only[Y1];omega),?_⟩;rw[NU];refine Wp.of (comp_map (λp:Int×Int=>D.tup [.int p.1,.int p.2]) (λ_=>true) (λp=>.bl (decide (p.1<p.2))) _ λp _=>⟨[some (.int p.1),some (.int p.2)],rfl,rfl,λ_=>rfl⟩) ?_;rw[filter_tt];exact Wp.of (mr _ _ _) ⟨by rw[FW],rfl⟩
structure YB (rs:List (List Int)):Prop where
 lo:1<=rs.length
 hi:rs.length<=10
 gR:∀r∈rs,bW 8 r
end DI
namespace DI
open PySem L2
theorem getD_some {α:Type} {xs:List α} {i:Nat} {d:α} (h:i<xs.length):xs[i]?=some (xs.getD i d):=by
 rw[ab3,Y8 h];rfl
theorem zo (lo:Int) (n:Nat):cg lo n=(Zk n).map λi:Nat=>D.int (lo+i):=rfl
noncomputable def SY (rs:List (List Int)) (laid:List Int) (m:Int):Bool:=((Zk laid.length).filter λi=>laid.getD i 0==m).all λi=>sub (rs.getD i []) (rs.getD laid.length [])
theorem rQ {α:Type} (d:α->D) (p:α->Bool) (h:α->List D) (xs:List α) (hh:∀x∈xs,∃env,g (d x) oz=some env/\t env s=ok (p x) s/\(p x=true->act env s=ok (h x) s)) :
  jq g t act oz (xs.map d) s=ok ((xs.filter p).flatMap h) s:=by
 induction xs with
 |nil=>rfl
 |cons n ns ih =>
  obtain⟨env,h1,h2,h3⟩:=hh n Zb;have ih:=ih λn' h'=>hh n' (Zd _ h');rw[Zl];unfold jq;rw[h1];simp only[h2,og,fg]
  cases hp:p n with
  |true=>simp only[if_true,h3 hp,og,fg,ih,aaN,hp,List.flatMap_cons]
  |false=>simp only[Y2,if_false,ih,aaN,hp]
theorem FY :
  Wp (rK nt cap it gd c act env s) Q=Wp (it env s) λds s=>Wp (jq gd c act (Za nt none++gF cap env) ds s) λxs s=>xs.length<=Zf/\Q (.lst xs) s:=by
 unfold rK;simp only[bu,wp_ne,nR,wp_ok]
noncomputable def step (rs:List (List Int)) (told:List (List Int)):List (List Int):=told.flatMap λlaid=>([0,1].filter λm=>SY rs laid m).map λm=>laid++[m]
theorem fK (h:a.length+b.length<=1000000):bY (mD a) (mD b) s=ok (mD (a++b)) s:=by
 have e:oF (mD a) (mD b)=some (mD (a++b)):=by
  show (if jQ (a.map D.int) (b.map D.int)=true then some (D.tup (a.map D.int++b.map D.int)) else none)=_
  have hf:jQ (a.map D.int) (b.map D.int)=true:=by
   unfold jQ;rw[Y1,Y1];exact decide_eq_true (le_size h)
  rw[if_pos hf];show some (D.tup (a.map D.int++b.map D.int))=some (D.tup ((a++b).map D.int));rw[Z3]
 show bF (oF (mD a) (mD b)) s=_;rw[e];rfl
end DI
namespace DI
open PySem L2 TK
noncomputable def markB (i:Int):Bool:=decide (0<=i)&&decide (i<8)
noncomputable def iz (i:Int):Bool:=decide (0<=i)&&decide (i<4)
noncomputable def iV (i:Int):Bool:=decide (0<=i)&&decide (i<31)
noncomputable def gC (ns:List Int):Bool:=ns.all markB&&rise ns
noncomputable def rR (a b:List Int):Bool:=!(a.any λx=>decide (x∈b))
noncomputable def eh:Pg->Bool
 | .made m d h l=>iz m&&iV d&&(gC h&&(gC l&&rR h l))
 | .aM m d k=>iz m&&iV d&&markB k
noncomputable def gk:Pg->Prop
 | .made _ _ h l=>h.length<=1000/\l.length<=1000
 | .aM _ _ _=>True
theorem Pp:ie (bs.map D.bl)=some bs:=by
 induction bs with
 |nil=>rfl
 |cons b bs ih=>simp only[Zl,ie,ih];rfl
theorem yP {α:Type} (p:α->Bool) (xs:List α) (s:ag):oG [.lst (xs.map λx=>D.bl (p x))] s=ok (.bl (xs.any p)) s:=by
 have e:ie (xs.map λx=>D.bl (p x))=some (xs.map p):=by
  have:=Pp (bs:=xs.map p);rw[Z7] at this;exact this
 simp only[oG,res,e,bF,aaU,List.any_map,aaT,id]
theorem yQ (hl:ns.length<=1000):nN [mD ns] s=ok (.bl (gC ns)) s:=by
 refine Wp.eq ?_;unfold nN;simp only[VC];refine Wp.of (show cx [mD ns,.ty "tuple"] s=ok (.bl true) s from rfl) ?_;simp only[VC,if_true];refine Wp.of (gU rfl) ⟨le_size (by rw[Y1];omega),?_⟩;refine Wp.of (fx (λ_=>true) (λx=>.bl (markB x)) ns λn _=>⟨[some (.int n)],rfl,rfl,λ_=>?_⟩) ?_
 ·refine Wp.eq ?_
  simp only[VC,GN,markB,true_and]
 ·rw[filter_tt]
  refine Wp.of (mr _ _ _) ?_;simp only[VC];unfold gC
  cases e:ns.all markB with
  |true =>
   simp only[if_true,Zw];exact Wp.of (NV (by omega)) ⟨rfl,rfl⟩
  |false=>simp
theorem Pq (ha:a.length<=1000):uH [mD a,mD b] s=ok (.bl (rR a b)) s:=by
 refine Wp.eq ?_;unfold uH;simp only[VC];refine Wp.of (gU rfl) ⟨le_size (by rw[Y1];omega),?_⟩;refine Wp.of (fx (λ_=>true) (λx=>.bl (decide (x∈b))) a λn _=>⟨[some (.int n),some (mD b)],rfl,rfl,λ_=>?_⟩) ?_
 ·refine Wp.eq ?_
  simp only[VC,ko,true_and]
 ·rw[filter_tt]
  refine Wp.of (yP _ _ _) ?_;simp only[VC];exact⟨rfl,trivial⟩
theorem Pr (h1:h.length<=1000) (h2:l.length<=1000):uU [.tup [mD h,mD l]] s=ok (.bl (gC h&&(gC l&&rR h l))) s:=by
 refine Wp.eq ?_;unfold uU;simp only[VC];refine Wp.of (show cx [.tup [mD h,mD l],.ty "tuple"] s=ok (.bl true) s from rfl) ?_;simp only[VC,Zr,Y2,if_false];refine Wp.of (show dj [.tup [mD h,mD l]] s=ok (.int 2) s from rfl) ?_;simp only[VC];simp only[VC,beq_self_eq_true,Zr,Y2,if_false];refine Wp.of (yQ h1) ?_;simp only[VC]
 cases gC h with
 |false=>simp
 |true =>
  simp only[if_true,Zw];refine Wp.of (yQ h2) ?_;simp only[VC]
  cases gC l with
  |false=>simp
  |true =>
   simp only[if_true,Zw];exact Wp.of (Pq h1) ⟨rfl,rfl⟩
theorem yR:qV [.int i] s=ok (.bl (iz i)) s:=by
 refine Wp.eq ?_;unfold qV;simp only[VC,pN,iz,and_self]
theorem HN:vj [.int i] s=ok (.bl (iV i)) s:=by
 refine Wp.eq ?_;unfold vj;simp only[VC,pN,iV,and_self]
theorem ig:aT (.str x) (.str y) s=ok (.bl (decide (x=y))) s:=by
 show ok (D.bl (x==y)) s=_
 by_cases e:x=y<;>simp[e]
theorem zp:¬ (ZJ "made"=ZJ "mended"):=by decide +kernel
theorem rz:¬ (ZJ "mended"=ZJ "made"):=by decide +kernel
theorem Q6 (hf:gk p):u4 [p.d] s=ok (.bl (eh p)) s:=by
 refine Wp.eq ?_;unfold u4;have key:∀(a b c d:D),p.d=.tup [a,b,c,d]->cx [p.d,.ty "tuple"] s=ok (.bl true) s/\dj [p.d] s=ok (.int 4) s:=λa b c d e=>by rw[e];exact⟨rfl,rfl⟩
 cases p with
 |made m d h l =>
  obtain⟨k1,k2⟩:=key _ _ _ _ rfl;simp only[VC];refine Wp.of k1 ?_;simp only[VC,Zr,Y2,if_false];refine Wp.of k2 ?_;simp only[VC];simp only[VC,beq_self_eq_true,Zr,Y2,if_false,Pg.d];refine Wp.of yR ?_;simp only[VC,eh]
  cases iz m with
  |false=>simp[aft_rt,fin_rt,wp_sRet,wp_C]
  |true =>
   simp only[Zr,Y2,if_false,Zw];refine Wp.of HN ?_;simp only[VC]
   cases iV d with
   |false=>simp[aft_rt,fin_rt,wp_sRet,wp_C]
   |true =>
    simp only[VC,Zr,Y2,if_false,Zw];refine Wp.of ig ?_;simp only[VC,decide_true,if_true];exact Wp.of (Pr hf.1 hf.2) ⟨rfl,rfl⟩
 |aM m d k =>
  obtain⟨k1,k2⟩:=key _ _ _ _ rfl;simp only[VC];refine Wp.of k1 ?_;simp only[VC,Zr,Y2,if_false];refine Wp.of k2 ?_;simp only[VC];simp only[VC,beq_self_eq_true,Zr,Y2,if_false,Pg.d];refine Wp.of yR ?_;simp only[VC,eh]
  cases iz m with
  |false=>simp[aft_rt,fin_rt,wp_sRet,wp_C]
  |true =>
   simp only[Zr,Y2,if_false,Zw];refine Wp.of HN ?_;simp only[VC]
   cases iV d with
   |false=>simp[aft_rt,fin_rt,wp_sRet,wp_C]
   |true =>
    simp only[VC,Zr,Y2,if_false,Zw];refine Wp.of ig ?_;simp only[VC,decide_eq_false rz,Y2,if_false];refine Wp.of ig ?_;simp only[VC,decide_true,if_true];exact Wp.of GN ⟨rfl,rfl⟩
end DI
namespace DI
open PySem L2 TK
noncomputable abbrev bD (ps:List Pg):D:=.tup (ps.map Pg.d)
theorem S0:jW p.d q.d s=ok (.bl (eU.lt p q)) s:=by
 unfold jW;rw[if_pos (by rw[nZ _ (jI p),nZ _ (jI q)];simp only[aay,Zw,decide_eq_true_eq];have:=zP p;omega),IH];rfl
noncomputable def wA (ps:List Pg):Bool:=(ps.zip (ps.drop 1)).all λp=>eU.lt p.1 p.2
theorem Pt (xs ys:List Pg):iR (xs.map Pg.d) (ys.map Pg.d)=(xs.zip ys).map λp=>D.tup [p.1.d,p.2.d]:=by
 unfold iR;rw[List.zip_map,Z7];rfl
theorem MO (hl:ps.length<=1000):nM [bD ps] s=ok (.bl (wA ps)) s:=by
 refine Wp.eq ?_;unfold nM;simp only[VC];have hz:oE (ae (aa 0) (ae (kb (aa 0) (jS (eC (.int 1))) ka) ai)) [some (bD ps)] s=ok (iR (ps.map Pg.d) ((ps.drop 1).map Pg.d)) s:=by
  refine FX (Wp.eq ?_);simp only[VC];rw[nV (i:=1) rfl]
  try simp only[VC]
  refine Wp.of (show jf (bD ps) (some 1) none s=ok (.tup (cutD (ps.map Pg.d) (some 1) none)) s from rfl) ⟨?_,rfl⟩;rw[FV,List.map_drop]
 refine Wp.of hz ⟨le_size (by rw[yz];simp only[Y1];omega),?_⟩;rw[Pt];refine Wp.of (comp_map (λp:Pg×Pg=>D.tup [p.1.d,p.2.d]) (λ_=>true) (λp=>.bl (eU.lt p.1 p.2)) _ λp _=>⟨[some p.1.d,some p.2.d],rfl,rfl,λ_=>?_⟩) ?_
 ·refine Wp.eq ?_
  simp only[VC,S0,and_self]
 rw[filter_tt];exact Wp.of (mr _ _ _) ⟨rfl,rfl⟩
noncomputable def jj (ps:List Pg):Bool:=decide (ps.length<=24)&&(ps.all eh&&wA ps)
theorem Q7 (hl:ps.length<=1000) (hf:∀p∈ps,gk p):uV [bD ps] s=ok (.bl (jj ps)) s:=by
 refine Wp.eq ?_;unfold uV jj;simp only[VC];refine Wp.of (show cx [bD ps,.ty "tuple"] s=ok (.bl true) s from rfl) ?_;simp only[VC,if_true];refine Wp.of (show dj [bD ps] s=ok (.int ps.length) s from by show ok (D.int (ps.map Pg.d).length) s=_;rw[Y1]) ?_;simp only[VC];by_cases h:ps.length<=24
 ·have h':(ps.length:Int)<=24:=by omega
  simp only[h,h',decide_true,if_true,Zw];refine Wp.of (gU rfl) ⟨le_size (by rw[Y1];omega),?_⟩;refine Wp.of (comp_map Pg.d (λ_=>true) (λp=>.bl (eh p)) ps λp hp=>⟨[some p.d],rfl,rfl,λ_=>?_⟩) ?_
  ·refine Wp.eq ?_
   simp only[VC,Q6 (hf p hp),and_self]
  ·rw[filter_tt]
   refine Wp.of (mr _ _ _) ?_;simp only[VC]
   cases ps.all eh with
   |false=>simp
   |true =>
    simp only[if_true,Zw];exact Wp.of (MO hl) ⟨rfl,rfl⟩
 ·have h':¬ (ps.length:Int)<=24:=by omega
  simp[h,h']
noncomputable def _root_.TK.Pg.day:Pg->Int
 | .made _ d _ _=>d
 | .aM _ d _=>d
noncomputable def i9 (m k:Int):Pg->Bool
 | .made m' _ h _=>decide (m'=m)&&decide (k∈h)
 |_=>false
noncomputable def ja (m k:Int):Pg->Bool
 | .made m' _ _ l=>decide (m'=m)&&decide (k∈l)
 |_=>false
noncomputable def il (m k:Int):Pg->Bool
 | .aM m' _ k'=>decide (m'=m)&&decide (k'=k)
 |_=>false
noncomputable def shown (ps:List Pg) (m k:Int):List Int:=(ps.filter (i9 m k)).map Pg.day
noncomputable def cz (ps:List Pg) (m k:Int):List Int:=(ps.filter (ja m k)).map Pg.day
noncomputable def bL (ps:List Pg) (m k:Int):List Int:=(ps.filter (il m k)).map Pg.day
noncomputable abbrev lI (ns:List Int):D:=.lst (ns.map D.int)
theorem fc (a b c d:D) (s:ag):aq (.tup [a,b,c,d]) (.int 0) s=ok a s/\aq (.tup [a,b,c,d]) (.int 1) s=ok b s/\aq (.tup [a,b,c,d]) (.int 2) s=ok c s/\aq (.tup [a,b,c,d]) (.int 3) s=ok d s:=⟨rfl,rfl,rfl,rfl⟩
theorem ua (a b:D) (s:ag):aq (.tup [a,b]) (.int 0) s=ok a s/\aq (.tup [a,b]) (.int 1) s=ok b s:=⟨rfl,rfl⟩
theorem pw (p:Pg) (s:ag):aq p.d (.int 1) s=ok (.int (match p with | .made m _ _ _=>m | .aM m _ _=>m)) s/\aq p.d (.int 2) s=ok (.int p.day) s:=by cases p<;>exact⟨rfl,rfl⟩
theorem pV (hl:ps.length<=1000):jb [bD ps,.int m,.int k,.int 0] s=ok (lI (shown ps m k)) s/\jb [bD ps,.int m,.int k,.int 1] s=ok (lI (cz ps m k)) s:=by
 constructor
 ·refine Wp.eq ?_
  unfold jb;simp only[VC];refine Wp.of (gU rfl) ⟨le_size (by rw[Y1];omega),?_⟩;refine Wp.of (comp_map Pg.d (i9 m k) (λp=>.int p.day) ps λp hp=>⟨[some p.d,some (.int m),some (.int k),some (.int 0)],rfl,?_,λ_=>?_⟩) ?_
  ·refine Wp.eq ?_
   cases p with
   |made m' d h l =>
    simp only[VC,Pg.d];rw[(fc _ _ _ _ s).1];simp only[VC,ig,decide_true,if_true];rw[(fc _ _ _ _ s).2.1];simp only[VC,i9];by_cases e:m'=m
    ·simp only[e,beq_self_eq_true,if_true,decide_true,Zw]
     rw[(fc _ _ _ _ s).2.2.2];simp only[VC];rw[(ua _ _ s).1];simp only[VC];refine Wp.of (ko (ns:=h)) ?_;simp only[VC,and_self]
    ·simp[e]
   |aM m' d k' =>
    simp only[VC,Pg.d];rw[(fc _ _ _ _ s).1];simp only[VC,ig,decide_eq_false rz,Y2,if_false,i9,and_self]
  ·refine Wp.eq ?_
   simp only[VC,(pw p s).2,and_self]
  ·simp only[shown,lI,Z7,aaT,and_self]
 ·refine Wp.eq ?_
  unfold jb;simp only[VC];refine Wp.of (gU rfl) ⟨le_size (by rw[Y1];omega),?_⟩;refine Wp.of (comp_map Pg.d (ja m k) (λp=>.int p.day) ps λp hp=>⟨[some p.d,some (.int m),some (.int k),some (.int 1)],rfl,?_,λ_=>?_⟩) ?_
  ·refine Wp.eq ?_
   cases p with
   |made m' d h l =>
    simp only[VC,Pg.d];rw[(fc _ _ _ _ s).1];simp only[VC,ig,decide_true,if_true];rw[(fc _ _ _ _ s).2.1];simp only[VC,ja];by_cases e:m'=m
    ·simp only[e,beq_self_eq_true,if_true,decide_true,Zw]
     rw[(fc _ _ _ _ s).2.2.2];simp only[VC];rw[(ua _ _ s).2];simp only[VC];refine Wp.of (ko (ns:=l)) ?_;simp only[VC,and_self]
    ·simp[e]
   |aM m' d k' =>
    simp only[VC,Pg.d];rw[(fc _ _ _ _ s).1];simp only[VC,ig,decide_eq_false rz,Y2,if_false,ja,and_self]
  ·refine Wp.eq ?_
   simp only[VC,(pw p s).2,and_self]
  ·simp only[cz,lI,Z7,aaT,and_self]
theorem vQ (hl:ps.length<=1000):nK [bD ps,.int m,.int k] s=ok (lI (bL ps m k)) s:=by
 refine Wp.eq ?_;unfold nK;simp only[VC];refine Wp.of (gU rfl) ⟨le_size (by rw[Y1];omega),?_⟩;refine Wp.of (comp_map Pg.d (il m k) (λp=>.int p.day) ps λp hp=>⟨[some p.d,some (.int m),some (.int k)],rfl,?_,λ_=>?_⟩) ?_
 ·refine Wp.eq ?_
  cases p with
  |aM m' d k' =>
   simp only[VC,Pg.d];rw[(fc _ _ _ _ s).1];simp only[VC,ig,decide_true,if_true];rw[(fc _ _ _ _ s).2.1];simp only[VC,il];by_cases e:m'=m
   ·simp only[e,beq_self_eq_true,if_true,decide_true,Zw]
    rw[(fc _ _ _ _ s).2.2.2];simp only[VC]
    by_cases e:k'=k<;>simp[e]
   ·simp[e]
  |made m' d h l =>
   simp only[VC,Pg.d];rw[(fc _ _ _ _ s).1];simp only[VC,ig,decide_eq_false zp,Y2,if_false,il,and_self]
 ·refine Wp.eq ?_
  simp only[VC,(pw p s).2,and_self]
 ·simp only[bL,lI,Z7,aaT,and_self]
theorem lF (h:n<=1000):n<=Zf:=le_size (by omega)
theorem kE:bN (.int x) (lI ns) s=ok (.bl (decide (x∈ns))) s:=by
 show bN (.int x) (mD ns) s=_;exact ko
theorem nS:dg (.int x) (lI ns) s=ok (.bl (!decide (x∈ns))) s:=by
 show dg (.int x) (mD ns) s=_;exact EC
noncomputable def w6 (ds:List Int) (a b:Int):Bool:=ds.any λx=>decide (a<x)&&decide (x<=b)
theorem NW (hl:ds.length<=1000):uh [lI ds,.int a,.int b] s=ok (.bl (w6 ds a b)) s:=by
 refine Wp.eq ?_;unfold uh;simp only[VC];refine Wp.of (gW rfl) ⟨lF (by rw[Y1];omega),?_⟩;refine Wp.of (fx (λ_=>true) (λx=>.bl (decide (a<x)&&decide (x<=b))) ds λn _=>⟨[some (.int n),some (.int a),some (.int b)],rfl,rfl,λ_=>?_⟩) ?_
 ·refine Wp.eq ?_
  simp only[VC]
  by_cases e:a<n<;>simp[e,wp_ok,wp_leI,wp_locS,wp_loc0]
 ·rw[filter_tt]
  exact Wp.of (yP _ _ _) ⟨rfl,rfl⟩
noncomputable def nC (ps:List Pg) (m k d l:Int):Bool:=(decide (l∈cz ps m k)||(decide (l=d)&&decide (d∈bL ps m k)))&&!w6 (bL ps m k) d l
noncomputable def n5 (d:Int):List Int:=(Zk (31-d).toNat).map λi:Nat=>d+(i:Int)
noncomputable def kA (ps:List Pg) (m k:Int):List (Int×Int):=(dB (shown ps m k)).flatMap λd=>((n5 d).filter (nC ps m k d)).map λl=>(d,l)
theorem rj {ps:List Pg} {f:Pg->Bool}:((ps.filter f).map Pg.day).length<=ps.length:=by rw[Y1];exact aaw _ _
theorem rl {α β:Type} {f:α->List β} {b:Nat}:∀{l:List α},(∀x∈l,(f x).length<=b)->(l.flatMap f).length<=l.length*b
 | [],_=>by simp
 |x::l,h=>by
  rw[List.flatMap_cons,Zx,Zz,Nat.succ_mul];have h1:=h x Zb;have h2:=rl (l:=l) λy hy=>h y (Zd _ hy);omega
theorem ED (d:Int) (h:0<=d):(n5 d).length<=31:=by unfold n5;rw[Y1,aaS];omega
structure mT (ps:List Pg):Prop where
 len:ps.length<=24
 lo:∀p∈ps,0<=p.day/\p.day<31
theorem mT.of (h:mT ps) (hx:x∈(ps.filter f).map Pg.day):0<=x/\x<31:=by
 obtain⟨p,hp,rfl⟩:=Zv.mp hx;exact h.lo p (ZG.mp hp).1
theorem Fb (l:List Int):(dB l).length<=l.length:=by
 induction l with
 |nil=>exact Nat.le_refl _
 |cons x l ih =>
  have:(dB (x::l)).length<=(dB l).length+1:=by
   show (jT x (dB l)).length<=_;generalize dB l=m
   induction m with
   |nil=>exact Nat.le_refl _
   |cons y m YR =>
    unfold jT;split
    ·simp
    ·split
     ·simp
     ·simp only[Zz];omega
  simp only[Zz];omega
theorem MP {ps:List Pg} {m k:Int} {s:ag} (h:mT ps):qZ [bD ps,.int m,.int k] s=ok (.lst ((kA ps m k).map λp=>D.tup [.int p.1,.int p.2])) s:=by
 have hl:=h.len;have l1:(shown ps m k).length<=24:=Zo rj hl;have l2:(cz ps m k).length<=24:=Zo rj hl;have l3:(bL ps m k).length<=24:=Zo rj hl;refine Wp.eq ?_;unfold qZ;simp only[VC];refine Wp.of (pV (by omega)).2 ?_;refine Wp.of (vQ (by omega)) ?_;rw[FY];have hs:bh (e1 pO (aC jb (ae (aa 0) (ae (aa 1) (ae (aa 2) (ae (eC (.int (0))) ai)))))) [some (bD ps),some (.int m),some (.int k),some (lI (cz ps m k)),some (lI (bL ps m k))] s=ok ((dB (shown ps m k)).map D.int) s:=by
  refine gW (Wp.eq ?_);simp only[VC];refine Wp.of (pV (by omega)).1 ?_;refine Wp.of (show pO (lI (shown ps m k)) s=ok (lI (dB (shown ps m k))) s from ?_) ⟨rfl,rfl⟩;unfold pO;simp only[EZ];rw[if_pos (by rw[decide_eq_true_eq];omega)]
 refine Wp.of hs ?_;have day:∀d∈dB (shown ps m k),0<=d/\d<31:=λd hd=>h.of (nP.mp hd);refine Wp.of (rQ D.int (λ_=>true) (λd=>((n5 d).filter (nC ps m k d)).map λl=>D.tup [.int d,.int l]) _ λd hd=>⟨[some (.int d),none,some (lI (cz ps m k)),some (lI (bL ps m k))],rfl,rfl,λ_=>?_⟩) ?_
 ·have hd:=day d hd
  unfold more;rw[zW (i:=d) (j:=31) rfl (by omega) (by omega) (by omega) (by omega),fg];have er:cg d (31-d).toNat=(n5 d).map D.int:=by unfold n5;rw[zo,Z7];rfl
  rw[er];rw[rQ D.int (nC ps m k d) (λl=>[D.tup [.int d,.int l]]) (n5 d) λl hl=>⟨[some (.int d),some (.int l),some (lI (cz ps m k)),some (lI (bL ps m k))],rfl,?_,λ_=>?_⟩]
  ·rw[<- List.map_eq_flatMap]
  ·refine Wp.eq ?_
   simp only[VC,kE];unfold nC;have Kh:=NW (ds:=bL ps m k) (a:=d) (b:=l) (s:=s) (by omega);by_cases c1:l∈cz ps m k
   ·simp only[VC,c1,decide_true,if_true,Bool.true_or,Zw]
    exact Wp.of Kh (by simp only[VC,and_self])
   ·simp only[c1,decide_false,Y2,if_false,abm]
    by_cases c2:l=d
    ·subst c2
     simp only[VC,beq_self_eq_true,if_true,decide_true,Zw];by_cases c3:l∈bL ps m k
     ·simp only[c3,decide_true,if_true,Zw]
      exact Wp.of Kh (by simp only[VC,and_self])
     ·simp[c3]
    ·simp[c2]
  ·refine Wp.eq ?_
   unfold emit;rw[bu];simp only[VC];exact⟨by decide,trivial⟩
 ·rw[filter_tt]
  refine⟨?_,?_,rfl⟩
  ·refine lF (Zo (rl (b:=31) λd hd=>?_) ?_)
   ·rw[Y1]
    exact Zo (aaw _ _) (ED d (day d hd).1)
   ·have:=Fb (shown ps m k)
    have:(dB (shown ps m k)).length<=24:=by omega
    omega
  ·unfold kA
   simp only[List.map_flatMap,Z7,aaT]
noncomputable def m4:List Int:=(Zk 4).map λi:Nat=>(i:Int)
noncomputable def k8:List Int:=(Zk 8).map λi:Nat=>(i:Int)
noncomputable def lG (ps:List Pg):List (Int×Int×Int×Int):=m4.flatMap λm=>k8.flatMap λk=>(kA ps m k).map λp=>(m,k,p.1,p.2)
noncomputable def fD (p:Int×Int×Int×Int):D:=.tup [.int p.1,.int p.2.1,.int p.2.2.1,.int p.2.2.2]
theorem NX {ps:List Pg} (h:mT ps) (m k:Int):(kA ps m k).length<=744:=by
 have l1:(shown ps m k).length<=24:=Zo rj h.len;have:=Fb (shown ps m k);refine Zo (rl (b:=31) λd hd=>?_) (by omega);rw[Y1];exact Zo (aaw _ _) (ED d (h.of (nP.mp hd)).1)
theorem NY {ps:List Pg} {s:ag} (h:mT ps):uJ [bD ps] s=ok (.lst ((lG ps).map fD)) s:=by
 refine Wp.eq ?_;unfold uJ;simp only[wp_fn,wp_sRet,fin_rt,Zl,aaL,aaf,aaB,Zz,ZY,Za,true_and,Nat.reduceSub,Nat.reduceAdd];rw[FY];refine Wp.of (eQ (n:=4) rfl (by decide)) ?_;have e4:cg 0 4=m4.map D.int:=rfl;have e8:cg 0 8=k8.map D.int:=rfl;rw[e4];refine Wp.of (rQ D.int (λ_=>true) (λm=>k8.flatMap λk=>(kA ps m k).map λp=>fD (m,k,p.1,p.2)) m4 λm hm=>⟨[some (.int m),none,none,none,some (bD ps)],rfl,rfl,λ_=>?_⟩) ?_
 ·unfold more
  rw[eQ (n:=8) rfl (by decide),fg,e8];rw[rQ D.int (λ_=>true) (λk=>(kA ps m k).map λp=>fD (m,k,p.1,p.2)) k8 λk hk=>⟨[some (.int m),some (.int k),none,none,some (bD ps)],rfl,rfl,λ_=>?_⟩]
  ·rw[filter_tt]
  ·have hi:bh (aC qZ (ae (aa 4) (ae (aa 0) (ae (aa 1) ai)))) [some (.int m),some (.int k),none,none,some (bD ps)] s=ok ((kA ps m k).map λp=>D.tup [.int p.1,.int p.2]) s:=by
    refine gW (Wp.eq ?_);simp only[VC];exact Wp.of (MP h) ⟨rfl,rfl⟩
   rw[hi,fg];rw[rQ (λp:Int×Int=>D.tup [.int p.1,.int p.2]) (λ_=>true) (λp=>[fD (m,k,p.1,p.2)]) (kA ps m k) λp hp=>⟨[some (.int m),some (.int k),some (.int p.1),some (.int p.2),some (bD ps)],rfl,rfl,λ_=>?_⟩]
   ·rw[filter_tt,<- List.map_eq_flatMap]
   ·refine Wp.eq ?_
    unfold emit;rw[bu];simp only[VC];exact⟨by decide,rfl,trivial⟩
 ·rw[filter_tt]
  refine⟨?_,?_,rfl⟩
  ·refine le_size (Zo (rl (b:=8*744) λm hm=>?_) (by decide))
   refine Zo (rl (b:=744) λk hk=>?_) (by decide);rw[Y1];exact NX h m k
  ·unfold lG
   simp only[List.map_flatMap,Z7,aaT]
noncomputable def cu (ps:List Pg):Bool:=jj ps&&(lG ps).isEmpty
theorem Fc (h:jj ps=true):mT ps:=by
 unfold jj at h;simp only[Y3,decide_eq_true_eq,Zu] at h;refine⟨h.1,λp hp=>?_⟩;have:=h.2.1 p hp
 cases p<;>simp only[eh,iV,Y3,decide_eq_true_eq] at this<;>exact this.1.2
theorem Q8 (hl:ps.length<=1000) (hf:∀p∈ps,gk p):u5 [bD ps] s=ok (.bl (cu ps)) s:=by
 refine Wp.eq ?_;unfold u5;simp only[VC];refine Wp.of (Q7 hl hf) ?_;simp only[VC];unfold cu
 cases h:jj ps with
 |false=>simp
 |true =>
  simp only[if_true,Zw];unfold Ay;simp only[VC,bu];refine Wp.of (NY (Fc h)) ?_;refine Wp.of (show truth (.lst ((lG ps).map fD)) s=ok (!((lG ps).map fD).isEmpty) s from rfl) ?_;simp only[wp_ok];refine⟨?_,trivial⟩
  cases lG ps<;>rfl
theorem S6:m∈m4↔0<=m/\m<4:=by
 unfold m4;rw[Zv];constructor
 ·rintro ⟨i,hi,rfl⟩
  have:=ZO.mp hi;omega
 ·rintro ⟨h1,h2⟩
  exact⟨m.toNat,ZO.mpr (by omega),by omega⟩
theorem mE:m∈k8↔0<=m/\m<8:=by
 unfold k8;rw[Zv];constructor
 ·rintro ⟨i,hi,rfl⟩
  have:=ZO.mp hi;omega
 ·rintro ⟨h1,h2⟩
  exact⟨m.toNat,ZO.mpr (by omega),by omega⟩
theorem Pu (h:cu ps=true) (hm:0<=m/\m<4) (hk:0<=k/\k<8) (hd:d∈shown ps m k) (h1:d<=l) (h2:l<31):nC ps m k d l=false:=by
 unfold cu at h;rw[Y3,acj] at h
 cases hc:nC ps m k d l with
 |false=>rfl
 |true =>
  exfalso;have i5:(d,l)∈kA ps m k:=by
   refine List.mem_flatMap.mpr ⟨d,nP.mpr hd,Zv.mpr ⟨l,ZG.mpr ⟨?_,hc⟩,rfl⟩⟩;exact Zv.mpr ⟨(l-d).toNat,ZO.mpr (by omega),by omega⟩
  have:(m,k,d,l)∈lG ps:=List.mem_flatMap.mpr ⟨m,S6.mpr hm,List.mem_flatMap.mpr ⟨k,mE.mpr hk,Zv.mpr ⟨(d,l),i5,rfl⟩⟩⟩;rw[h.2] at this;cases this
end DI
namespace DI
section
variable (s l m:Nat->Bool)
noncomputable def pr:Nat->Bool
 |0=>s 0
 |d+1=>s (d+1)||(pr d&&!m (d+1))
noncomputable def fW:Nat->Bool
 |0=>false
 |n+1=>(fW n||l (30-n))&&!m (30-n)
noncomputable def br (d:Nat):Bool:=fW l m (31-d)
noncomputable def ab (d:Nat):Bool:=br l m (d+1)||(l d||m d)
theorem II (h:d<=30):br l m d=((br l m (d+1)||l d)&&!m d):=by
 unfold br;have e1:31-d=(30-d)+1:=by omega
 have e2:31-(d+1)=30-d:=by omega
 rw[e1,e2];simp only[fW];rw[show 30-(30-d)=d by omega]
theorem IJ:br l m 31=false:=rfl
noncomputable def f0 (d:Nat):Bool:=!s d
noncomputable def t0 (d:Nat):Bool:=!m d&&!l d
noncomputable def fw:Nat->Bool×Bool
 |0=>(f0 s 0,t0 l m 0)
 |d+1=>(f0 s (d+1)&&((fw d).1||(m (d+1)&&((fw d).1||(fw d).2))),t0 l m (d+1)&&((fw d).1||(fw d).2))
noncomputable def qS:Nat->Bool×Bool
 |0=>fw s l m 30
 |n+1=>let q:=qS n;let a:=fw s l m (29-n);(a.1&&(q.2||q.1),a.2&&(q.2||(q.1&&m (30-n))))
noncomputable def bw (d:Nat):Bool×Bool:=qS s l m (30-d)
def rA:Prop:=∀d e,s d=true->d<=e->e<=30->(l e=true\/(e=d/\m d=true))->∃x,d<x/\x<=e/\m x=true
variable {s l m}
theorem zX:∀{d:Nat},pr s m d=true↔∃e,e<=d/\s e=true/\∀x,e<x->x<=d->m x=false
 |0=>by
  simp only[pr];constructor
  ·intro h;exact⟨0,Nat.le_refl _,h,λx h1 h2=>by omega⟩
  ·rintro ⟨e,h1,h2,_⟩
   have:e=0:=by omega
   rw[<- this];exact h2
 |d+1=>by
  simp only[pr,aa9,Y3,Z4];rw[zX (d:=d)];constructor
  ·rintro (h | ⟨⟨e,h1,h2,h3⟩,h4⟩)
   ·exact⟨d+1,Nat.le_refl _,h,λx h1 h2=>by omega⟩
   ·refine⟨e,by omega,h2,λx lZ kM=>?_⟩
    by_cases hx:x=d+1
    ·rw[hx];exact h4
    ·exact h3 x lZ (by omega)
  ·rintro ⟨e,h1,h2,h3⟩
   by_cases he:e=d+1
   ·left;rw[<- he];exact h2
   ·right
    exact⟨⟨e,by omega,h2,λx lZ kM=>h3 x lZ (by omega)⟩,h3 (d+1) (by omega) (Nat.le_refl _)⟩
theorem UI:∀{n:Nat},n<=31->br l m (31-n)=true->∃e,31-n<=e/\e<=30/\l e=true/\∀x,31-n<=x->x<=e->m x=false:=by
 intro n
 induction n with
 |zero=>intro _ h;rw[show 31-0=31 from rfl,IJ] at h;cases h
 |succ n ih =>
  intro hn h;have e1:31-(n+1)+1=31-n:=by omega
  rw[II l m (by omega),e1,Y3,aa9,Z4] at h
  rcases h.1 with h1|h1
  ·obtain⟨e,q1,q2,q3,q4⟩:=ih (by omega) h1
   refine⟨e,by omega,q2,q3,λx lZ kM=>?_⟩;by_cases hx:x=31-(n+1)
   ·rw[hx];exact h.2
   ·exact q4 x (by omega) kM
  ·refine⟨31-(n+1),Nat.le_refl _,by omega,h1,λx lZ kM=>?_⟩
   rw[show x=31-(n+1) by omega];exact h.2
section
variable (N:rA s l m)
include N
theorem Az (hd:d<=30) (h:pr s m d=true):t0 l m d=true:=by
 obtain⟨e,h1,h2,h3⟩:=zX.mp h;unfold t0;rw[Y3,Z4,Z4];constructor
 ·cases hm:m d with
  |false=>rfl
  |true =>
   by_cases he:e=d
   ·subst he
    obtain⟨x,q1,q2,_⟩:=N e e h2 (Nat.le_refl _) hd (.inr ⟨rfl,hm⟩);omega
   ·have:=h3 d (by omega) (Nat.le_refl _)
    rw[this] at hm;cases hm
 ·cases hl:l d with
  |false=>rfl
  |true =>
   obtain⟨x,q1,q2,q3⟩:=N e d h2 h1 hd (.inl hl);rw[h3 x q1 q2] at q3;cases q3
theorem AA:∀{d:Nat},d<=30->fw s l m d=(!pr s m d,t0 l m d)
 |0,_=>rfl
 |d+1,h=>by
  have ih:=AA (d:=d) (by omega);have ne:(!pr s m d||t0 l m d)=true:=by
   cases hp:pr s m d with
   |false=>rfl
   |true=>rw[Az N (by omega) hp];rfl
  simp only[fw,ih,ne,abZ,f0,pr]
  cases s (d+1)<;>cases pr s m d<;>cases m (d+1)<;>simp
theorem IK (hd:d<=30) (h:pr s m d=true):ab l m d=false:=by
 have ht:=Az N hd h;unfold t0 at ht;rw[Y3,Z4,Z4] at ht;unfold ab;rw[ht.1,ht.2]
 cases hb:br l m (d+1) with
 |false=>rfl
 |true =>
  exfalso;have fu:br l m (31-(30-d))=true:=by rw[show 31-(30-d)=d+1 by omega];exact hb
  obtain⟨e,q1,q2,q3,q4⟩:=UI (by omega) fu;obtain⟨c,h1,h2,h3⟩:=zX.mp h;obtain⟨x,z1,z2,z3⟩:=N c e h2 (by omega) q2 (.inl q3);by_cases hx:x<=d
  ·rw[h3 x z1 hx] at z3;cases z3
  ·rw[q4 x (by omega) z2] at z3;cases z3
theorem HP:∀{n:Nat},n<=30->qS s l m n=(!pr s m (30-n),!ab l m (30-n))
 |0,_=>by
  simp only[qS,AA N (Nat.le_refl 30),Nat.sub_zero];congr 1;unfold ab t0;rw[IJ]
  cases m 30<;>cases l 30<;>rfl
 |n+1,h=>by
  have ih:=HP (n:=n) (by omega);have Xr:29-n=30-(n+1):=by omega
  have Xs:30-n=(30-(n+1))+1:=by omega
  generalize hd:30-(n+1)=d at *;have Bj:d+1<=30:=by omega
  simp only[qS,ih,Xr,Xs,AA N (show d<=30 by omega)];have p1:=λz=>IK N Bj z;have p2:=λz=>Az N Bj z;have eb:=II l m Bj;congr 1
  ·cases hp:pr s m (d+1) with
   |false=>simp
   |true=>rw[p1 hp];simp
  ·show (t0 l m d&&(!ab l m (d+1)||(!pr s m (d+1)&&m (d+1))))=!(br l m (d+1)||(l d||m d))
   rw[eb];unfold ab
   cases hm:m (d+1) with
   |false=>unfold t0;cases m d<;>cases l d<;>cases br l m (d+1+1)<;>cases l (d+1)<;>simp
   |true =>
    have hp:pr s m (d+1)=false:=by
     cases hp:pr s m (d+1) with
     |false=>rfl
     |true=>have:=p2 hp;unfold t0 at this;rw[hm] at this;cases this
    rw[hp];unfold t0
    cases m d<;>cases l d<;>simp
theorem UJ (h:d<=30):bw s l m d=(!pr s m d,!ab l m d):=by
 unfold bw;rw[HP N (by omega),show 30-(30-d)=d by omega]
end
end
end DI
namespace DI
open PySem L2 TK
theorem zq:∀{ns:List Int},rise ns=true->ns.Pairwise (· < ·)
 | [],_=>.nil
 | [a],_=>by simp
 |a::b::r,h=>by
  simp only[rise,Y3,decide_eq_true_eq] at h;have ih:=zq h.2;refine ZN.mpr ⟨λx hx=>?_,ih⟩
  rcases Zh.mp hx with rfl|hx
  ·exact h.1
  ·have:=(ZN.mp ih).1 x hx
   omega
theorem qX (h:gC ns=true):bW 8 ns:=by
 unfold gC at h;rw[Y3,Zu] at h;refine⟨λx hx=>?_,zq h.2⟩;have:=h.1 x hx;unfold markB at this;simp only[Y3,decide_eq_true_eq] at this;exact this
theorem EE (h:bW n ns) (hn:n<=8):gC ns=true:=by
 unfold gC;rw[Y3,Zu];refine⟨λx hx=>?_,GO h.up⟩;have:=h.lo x hx;unfold markB;simp only[Y3,decide_eq_true_eq];omega
theorem bW.filter (h:bW n ns) (p:Int->Bool):bW n (ns.filter p):=⟨λx hx=>h.lo x (ZG.mp hx).1,h.up.filter p⟩
theorem NZ (hm:0<=m/\m<4) (hd:0<=d/\d<31) (hk:0<=k/\k<8):eh (.aM m d k)=true:=by
 simp only[eh,iz,iV,markB,Y3,decide_eq_true_eq];omega
theorem N0 (hm:0<=m/\m<4) (hd:0<=d/\d<31) (h1:bW n h) (h2:bW n l) (hn:n<=8) (ha:∀x∈h,x∉l):eh (.made m d h l)=true:=by
 simp only[eh,iz,iV,Y3,decide_eq_true_eq,rR,Z4,ab0];exact⟨⟨hm,hd⟩,EE h1 hn,EE h2 hn,ha⟩
def fe (W:World) (R:Pg->Prop) (s:ag) (j n:Nat):Prop:=∃ps:List Pg,s[j]?=some (.dT (ps.map λp=>(p.d,hs W p.d)))/\(ps.Nodup/\∀p∈ps,R p)/\ps.length<=n
theorem fe.lt (h:fe W R s j n):j<s.length:=by
 obtain⟨ps,e,_⟩:=h;exact(Y0.mp e).1
theorem fe.ex (h:fe W R s j n) (x:Ex k s s') (hj:j≠k):fe W R s' j n:=by
 have hl:=h.lt;obtain⟨ps,e,r⟩:=h;exact⟨ps,(x.val j hl hj).trans e,r⟩
theorem fe.more (h:fe W R s j n) (hm:n<=m):fe W R s j m:=by
 obtain⟨ps,e,r,l⟩:=h;exact⟨ps,e,r,by omega⟩
theorem fe.app (h:fe W R s j n) (c:List Cell):fe W R (s++c) j n:=by
 have hl:=h.lt;obtain⟨ps,e,r⟩:=h;exact⟨ps,by rw[Zm hl];exact e,r⟩
theorem fe.set (h:fe W R s j n) (hi:i≠j) (c:Cell):fe W R (s.set i c) j n:=by
 obtain⟨ps,e,r⟩:=h;exact⟨ps,by rw[Ze hi];exact e,r⟩
theorem fe.mono (h:fe W R s j n) (hR:∀p,R p->R' p):fe W R' s j n:=by
 obtain⟨ps,e,r,l⟩:=h;exact⟨ps,e,⟨r.1,λp hp=>hR p (r.2 p hp)⟩,l⟩
theorem Ex.pA (h:Ex k s s') (hj:s.length<=j) (c:Cell):Ex k s (s'.set j c) :=
 ⟨by rw[ZU];exact h.len,λi hi hk=>by rw[Ze (by omega)];exact h.val i hi hk⟩
theorem jE (p:Pg):∃ks,p.d=.tup ks/\cW ks=true/\cB ks<=6:=by
 have h1:=jI p;have h2:=zP p;obtain⟨x,r,e⟩:=FI p;rw[e] at h1 h2;simp only[kd,dep] at h1 h2;exact⟨_,e,h1,by omega⟩
theorem HQ (W:World) (ps:List Pg):(ps.map λp=>(p.d,hs W p.d)).all (keyOk W)=true:=by
 rw[List.all_map,Zu];intro p _;obtain⟨ks,e,h1,h2⟩:=jE p;simp only[Function.comp,keyOk];rw[e];simp only[h1,decide_eq_true h2,decide_true,aay]
theorem S7 (h:fe W R s j n) (hf:R p) (hn:n<1000):∃c,jX W (.aj j) p.d (.bl true) s=some (s.set j c)/\fe W R (s.set j c) j (n+1):=by
 have hl:=h.lt;obtain⟨ps,e,cw,len⟩:=h;obtain⟨ks,ep,k1,k2⟩:=jE p;have sE:=HQ W ps;generalize hk:(ps.map λp=>(p.d,hs W p.d))=ao at e sE;have kl:ao.length=ps.length:=by rw[<- hk,Y1]
 refine⟨.dT (TK.fK W ao (.tup ks)),?_,?_⟩
 ·rw[ep]
  unfold jX;simp only[e];rw[if_pos];rw[k1,decide_eq_true k2,sE,decide_eq_true (Y5 (show ao.length<1000 by omega) (le_size (by decide)))];rfl
 ·unfold TK.fK
  split
  ·exact⟨ps,by rw[hk];exact Zi hl,cw,by omega⟩
  ·rename_i oR
   refine⟨ps++[p],?_,⟨abY.mpr ⟨cw.1,by simp,λa ha b hb=>?_⟩,λq hq=>?_⟩,by simp;omega⟩
   ·rw[Zi hl,Z3,hk]
    simp only[Zl,aaL,ep]
   ·rw[Zs.mp hb]
    rintro rfl;refine oR (aaX.mpr ⟨(a.d,hs W a.d),?_,?_⟩)
    ·rw[<- hk];exact Zv.mpr ⟨a,ha,rfl⟩
    ·rw[<- ep];exact(qc _ _ (jI a) (jI a)).mpr rfl
   ·rcases Zq.mp hq with hq|hq
    ·exact cw.2 q hq
    ·rw[Zs.mp hq];exact hf
theorem GP:Wp (lP W f fo fi env s) QF=Wp (f env s) λx s=>Wp (fo env s) λd s=>Wp (fi env s) λn s=>∃s',jX W d n x s=some s'/\QF (.nx env) s':=by
 unfold lP;simp only[bu];congr 1;funext x s;congr 1;funext d s;congr 1;funext n s
 cases jX W d n x s with
 |none=>exact propext ⟨λ⟨_,_,e,_⟩=>(by cases e),λ⟨_,e,_⟩=>(by cases e)⟩
 |some s'=>exact propext ⟨λh=>⟨s',rfl,by simpa only [wp_ok] using h⟩,λ⟨t,e,h⟩=>by cases e;simpa only [wp_ok] using h⟩
theorem Q9:Wp (wx env s) Q=Q (.aj s.length) (s++[.dT []]):=by unfold wx;rw[wp_ok]
theorem GQ:∀{ps:List Pg},ps.Pairwise (λa b=>eU.lt a b=true)->wA ps=true
 | [],_=>rfl
 | [a],_=>rfl
 |a::b::r,h=>by
  obtain⟨h1,h2⟩:=ZN.mp h;have ih:=GQ h2;unfold wA at ih |-;simp only[List.drop_succ_cons,List.drop_zero,aau,List.all_cons,Y3] at ih |-;exact⟨h1 b Zb,ih⟩
theorem Pw (h:ps.Nodup):(ST.ji eU ps).Pairwise λa b=>eU.lt a b=true:=by
 have h1:=ST.FD (O:=eU) ps;have h2:(ST.ji eU ps).Nodup:=(ST.qU ps).nodup_iff.mpr h;refine(h1.and h2).imp λ{a b} tI=>?_
 cases hl:eU.lt a b with
 |true=>rfl
 |false=>exact(tI.2 (eU.tZ a b hl tI.1)).elim
theorem Wp.IL (h:Wp (fa env s) λds s=>∃x y z,ds=[x,y,z]/\QF (.nx (((env.set i (some x)).set j (some y)).set k (some z))) s):Wp (sC i j k fa env s) QF:=by
 unfold sC;refine Wp.au (h.mono λds s ⟨x,y,z,e,q⟩=>?_);subst e;exact Wp.ok q
abbrev Xt (p:Pg):Prop:=eh p=true
structure Laid (ps:List Pg):Prop where
 pg:∀p∈ps,eh p=true
 up:ps.Pairwise λa b=>eU.lt a b=true
theorem Laid.jj (h:Laid ps) (hl:ps.length<=24):jj ps=true:=by
 unfold DI.jj;rw[decide_eq_true hl,Zu.mpr h.pg,GQ h.up];rfl
theorem Laid.sub (h:Laid ps) (hs:qs.Sublist ps):Laid qs:=⟨λp hp=>h.pg p (hs.subset hp),h.up.sublist hs⟩
end DI
namespace DI
open PySem L2 TK
def ip (s:ag) (j n:Nat):Prop:=∃ns:List Int,s[j]?=some (.lst (ns.map D.int))/\ns.length<=n
theorem ip.lt (h:ip s j n):j<s.length:=by
 obtain⟨ps,e,_⟩:=h;exact(Y0.mp e).1
theorem ip.ex (h:ip s j n) (x:Ex k s s') (hj:j≠k):ip s' j n:=by
 have hl:=h.lt;obtain⟨ps,e,r⟩:=h;exact⟨ps,(x.val j hl hj).trans e,r⟩
theorem ip.set (h:ip s j n) (hi:i≠j) (c:Cell):ip (s.set i c) j n:=by
 obtain⟨ps,e,r⟩:=h;exact⟨ps,by rw[Ze hi];exact e,r⟩
theorem ip.app (h:ip s j n) (c:List Cell):ip (s++c) j n:=by
 have hl:=h.lt;obtain⟨ps,e,r⟩:=h;exact⟨ps,by rw[Zm hl];exact e,r⟩
end DI
namespace DI
open PySem L2 TK
theorem ip.more (h:ip s j n) (hm:n<=m):ip s j m:=by
 obtain⟨ns,e,l⟩:=h;exact⟨ns,e,by omega⟩
def nD (s:ag) (j n:Nat):Prop:=∃ls:List (List Int),s[j]?=some (.lst (ls.map lI))/\ls.length=n
theorem nD.lt (h:nD s j n):j<s.length:=by
 obtain⟨ps,e,_⟩:=h;exact(Y0.mp e).1
theorem nD.ex (h:nD s j n) (x:Ex k s s') (hj:j≠k):nD s' j n:=by
 have hl:=h.lt;obtain⟨ps,e,r⟩:=h;exact⟨ps,(x.val j hl hj).trans e,r⟩
theorem nD.set (h:nD s j n) (hi:i≠j) (c:Cell):nD (s.set i c) j n:=by
 obtain⟨ps,e,r⟩:=h;exact⟨ps,by rw[Ze hi];exact e,r⟩
structure BI (W:World) (k j b n q:Nat) (s0 s:ag):Prop where
 st:bP s k
 dict:fe W Xt s j n
 aM:∀i,i<8->ip s (b+i) q
 ext:Ex k s0 s
section
variable {W:World} {k j b n q:Nat} {s0 s:ag}
theorem BI.draw (h:BI W k j b n q s0 s) (hj:j≠k) (hb:∀i,i<8->b+i≠k) (x:Ex k s s') (hs:bP s' k):BI W k j b n q s0 s' :=
 ⟨hs,h.dict.ex x hj,λi hi=>(h.aM i hi).ex x (hb i hi),h.ext.trans x⟩
theorem BI.put (h:BI W k j b n q s0 s) (hj:j≠k) (kf:∀i,i<8->b+i≠j) (hl:s0.length<=j) (hf:eh p=true) (hn:n<1000):∃s',jX W (.aj j) p.d (.bl true) s=some s'/\BI W k j b (n+1) q s0 s'/\Ex j s s':=by
 obtain⟨c,e,d⟩:=S7 h.dict hf hn;exact⟨_,e,⟨h.st.set hj c,d,λi hi=>(h.aM i hi).set (abe (kf i hi)) c,h.ext.pA hl c⟩,Ex.set j s c⟩
end
noncomputable def memD (b:Nat):D:=.lst ((Zk 8).map λi:Nat=>D.aj (b+i))
theorem HR (h0:0<=i) (h1:i<8):aq (memD b) (.int i) s=ok (.aj (b+i.toNat)) s:=by
 obtain⟨x,e1,e2⟩:=mC (xs:=(Zk 8).map λi:Nat=>D.aj (b+i)) h0 (by simpa using h1);have:x=.aj (b+i.toNat):=by
  rw[Zj,Z0 (by omega)] at e2;exact(Option.some.inj e2).symm
 subst this;simp only[aq,ic,res,memD,e1,bF]
end DI
namespace DI
open PySem L2 TK
end DI
namespace DI
open PySem L2 TK
theorem Ra (q:Q (memD s.length) (s++Za 8 (.lst []))):Wp (ba 1 [] (cb (ae (eC (.int 8)) ai)) (gN 0) cC (eNew ai) env s) Q:=by
 rw[wp_comp];refine Wp.of (eQ (n:=8) rfl (by decide)) ⟨by rw[df];exact le_size (by decide),?_⟩;refine vO (λi acc s'=>acc=(Zk i).map (λx:Nat=>D.aj (s.length+x))/\s'=s++Za i (.lst [])) (cg 0 8) ⟨rfl,by simp⟩ (λi d acc s' hd hI=>?_) λacc s' hI=>?_
 ·obtain⟨rfl,rfl⟩:=hI
  rw[gX] at hd;split at hd
  ·cases hd
   refine⟨[some (.int (0+i))],rfl,?_⟩;refine Wp.of (show cC _ _=ok true _ from rfl) ?_;rw[if_pos rfl];simp only[wp_new,wp_aNil];refine⟨by decide,?_,?_⟩
   ·rw[acF,Z3]
    simp
   ·rw[List.replicate_succ',aax]
  ·cases hd
 ·rw[df] at hI
  obtain⟨rfl,rfl⟩:=hI;exact q
end DI
namespace DI
open PySem L2 TK
section
variable (ps:List Pg) (m k:Int)
noncomputable def sN (d:Nat):Bool:=decide ((d:Int)∈shown ps m k)
noncomputable def lN (d:Nat):Bool:=decide ((d:Int)∈cz ps m k)
noncomputable def mN (d:Nat):Bool:=decide ((d:Int)∈bL ps m k)
noncomputable def nE:List Int:=((Zk 31).filter λd=>pr (sN ps m k) (mN ps m k) d).map λd:Nat=>(d:Int)
noncomputable def iF:List Int:=((Zk 31).filter λn=>ab (lN ps m k) (mN ps m k) (30-n)).map λn:Nat=>((30-n:Nat):Int)
end
theorem Rb (h:cu ps=true) (hm:0<=m/\m<4) (hk:0<=k/\k<8):rA (sN ps m k) (lN ps m k) (mN ps m k):=by
 intro d e hs Xu he hc;simp only[sN,lN,mN,decide_eq_true_eq] at hs hc;have c:=Pu h hm hk hs (l:=(e:Int)) (by omega) (by omega);unfold nC at c;have c1:(decide ((e:Int)∈cz ps m k)||(decide ((e:Int)=(d:Int))&&decide ((d:Int)∈bL ps m k)))=true:=by
  rcases hc with hc | ⟨h1,h2⟩
  ·rw[decide_eq_true hc];rfl
  ·rw[decide_eq_true (show (e:Int)=d by omega),decide_eq_true h2];simp
 rw[c1,Zw,Bool.not_eq_false'] at c;unfold w6 at c;obtain⟨x,hx,hb⟩:=aaX.mp c;simp only[Y3,decide_eq_true_eq] at hb;refine⟨x.toNat,by omega,by omega,?_⟩;simp only[mN,decide_eq_true_eq];rw[show ((x.toNat:Nat):Int)=x by omega];exact hx
theorem GR {s:ag} {ns:List Int} {x:Int} (hn:ns.length<1000):gJ (.aj s.length) (s++[.lst (ns.map D.int)])=true/\gI (.aj s.length) (.int x) (s++[.lst (ns.map D.int)])=ok .aA (s++[.lst ((ns++[x]).map D.int)]):=by
 have e:(s++[Cell.lst (ns.map D.int)])[s.length]?=some (.lst (ns.map D.int)):=by simp
 refine⟨by simp only[gJ,e],?_⟩;unfold gI;simp only[e];rw[if_pos (by rw[decide_eq_true_eq,Y1];exact Y5 hn (le_size (by decide)))];simp[abn]
theorem GS {s:ag} {ns:List Int}:cE (.aj s.length) (s++[.lst (ns.map D.int)])=ok (lI ns) (s++[.dead]):=by
 have e:(s++[Cell.lst (ns.map D.int)])[s.length]?=some (.lst (ns.map D.int)):=by simp
 simp only[cE,e];simp[abn]
theorem EF {p:Nat->Bool} {f:Nat->Int} {i:Nat}:((Zk (i+1)).filter p).map f=((Zk i).filter p).map f++(if p i=true then [f i] else []):=by
 rw[acF,List.filter_append,Z3];congr 1
 cases h:p i<;>simp[h]
theorem Fd {p:Nat->Bool} {f:Nat->Int} {i:Nat}:(((Zk i).filter p).map f).length<=i:=by
 rw[Y1];exact Zo (aaw _ _) (by rw[aaS];exact Nat.le_refl _)
noncomputable def pv (s m:Nat->Bool):Nat->Bool
 |0=>false
 |i+1=>pr s m i
theorem MQ (hl:ps.length<=1000):uj [bD ps,.int m,.int k] s=ok (lI (nE ps m k)) (s++[.dead]):=by
 refine Wp.eq ?_;unfold uj;simp only[VC];refine Wp.of (pV hl).1 ?_;refine Wp.of (vQ hl) ?_
 try simp only[VC]
 refine⟨by decide,?_⟩;refine Wp.of (eQ (n:=31) rfl (by decide)) ?_;refine Wp.gL (λi env s'=>i<=31->∃a7,env=[some (bD ps),some (.int m),some (.int k),some (lI (shown ps m k)),some (lI (bL ps m k)),some (.aj s.length),some (.bl (pv (sN ps m k) (mN ps m k) i)),a7]/\s'=s++[.lst ((((Zk i).filter λd=>pr (sN ps m k) (mN ps m k) d).map λd:Nat=>(d:Int)).map D.int)]) _ (λ_=>⟨_,rfl,rfl⟩) (λi d env s' hd hI=>?_) (λenv s' hI=>?_)
 ·rw[gX] at hd
  split at hd
  ·rename_i hi
   cases hd;obtain⟨a7,rfl,rfl⟩:=hI (by omega);refine⟨_,rfl,?_⟩;have e0:(0:Int)+(i:Int)=i:=by omega
   have key:(decide ((i:Int)∈shown ps m k)||(pv (sN ps m k) (mN ps m k) i&&!decide ((i:Int)∈bL ps m k)))=pr (sN ps m k) (mN ps m k) i:=by
    cases i with
    |zero=>simp[pv,pr,sN]
    |succ i=>rfl
   have fin:∀c:Bool,c=pr (sN ps m k) (mN ps m k) i->if c=true then gJ (.aj s.length) (s++[.lst ((((Zk i).filter λd=>pr (sN ps m k) (mN ps m k) d).map λd:Nat=>(d:Int)).map D.int)])=true/\Wp (gI (.aj s.length) (.int (0+(i:Int))) (s++[.lst ((((Zk i).filter λd=>pr (sN ps m k) (mN ps m k) d).map λd:Nat=>(d:Int)).map D.int)])) λx s'=>i+1<=31->∃a7,([some (bD ps),some (.int m),some (.int k),some (lI (shown ps m k)),some (lI (bL ps m k)),some (.aj s.length),some (.bl c),some (.int (0+(i:Int)))]:Env)=[some (bD ps),some (.int m),some (.int k),some (lI (shown ps m k)),some (lI (bL ps m k)),some (.aj s.length),some (.bl (pv (sN ps m k) (mN ps m k) (i+1))),a7]/\s'=s++[.lst ((((Zk (i+1)).filter λd=>pr (sN ps m k) (mN ps m k) d).map λd:Nat=>(d:Int)).map D.int)]
     else i+1<=31->∃a7,([some (bD ps),some (.int m),some (.int k),some (lI (shown ps m k)),some (lI (bL ps m k)),some (.aj s.length),some (.bl c),some (.int (0+(i:Int)))]:Env)=[some (bD ps),some (.int m),some (.int k),some (lI (shown ps m k)),some (lI (bL ps m k)),some (.aj s.length),some (.bl (pv (sN ps m k) (mN ps m k) (i+1))),a7]/\s++[.lst ((((Zk i).filter λd=>pr (sN ps m k) (mN ps m k) d).map λd:Nat=>(d:Int)).map D.int)]=s++[.lst ((((Zk (i+1)).filter λd=>pr (sN ps m k) (mN ps m k) d).map λd:Nat=>(d:Int)).map D.int)]:=λc hc=>by
    rw[EF];have hv:pv (sN ps m k) (mN ps m k) (i+1)=c:=hc.symm;rw[hv,<- hc]
    cases c with
    |true =>
     rw[if_pos rfl];obtain⟨q1,q2⟩:=GR (s:=s) (ns:=((Zk i).filter λd=>pr (sN ps m k) (mN ps m k) d).map λd:Nat=>(d:Int)) (x:=0+(i:Int)) (Nat.lt_of_le_of_lt Fd (by omega));exact⟨q1,Wp.of q2 λ_=>⟨_,rfl,by rw[e0];rfl⟩⟩
    |false =>
     rw[if_neg Y7];exact λ_=>⟨_,rfl,by simp⟩
   simp only[VC,kE,e0];rw[e0] at fin;by_cases c1:(i:Int)∈shown ps m k
   ·simp only[c1,decide_true,if_true]
    exact fin true (by rw[<- key,decide_eq_true c1];rfl)
   ·simp only[c1,decide_false,Y2,if_false]
    cases hp:pv (sN ps m k) (mN ps m k) i with
    |false =>
     simp only[VC,Y2,if_false];exact fin false (by rw[<- key,decide_eq_false c1,hp];rfl)
    |true =>
     simp only[VC,if_true,nS];exact fin _ (by rw[<- key,decide_eq_false c1,hp];rfl)
  ·cases hd
 ·rw[df] at hI
  obtain⟨a7,rfl,rfl⟩:=hI (Nat.le_refl _);simp only[VC];exact Wp.of GS ⟨rfl,rfl⟩
end DI
namespace DI
open PySem L2 TK
noncomputable def downs:List D:=(Zk 31).map λn:Nat=>D.int ((30-n:Nat):Int)
theorem S8:Co (ae (eC (.int 31)) ai) env s=ok downs s:=by
 have:(cg 0 31).reverse=downs:=by rfl
 rw[<- this];rfl
theorem N1:downs[i]?=if i<31 then some (.int ((30-i:Nat):Int)) else none:=by
 unfold downs;rw[Zj];by_cases h:i<31
 ·rw[if_pos h,Z0 h];rfl
 ·rw[if_neg h,ZM (by simpa using h)];rfl
noncomputable abbrev iG (ps:List Pg) (m k:Int) (i:Nat):List Int:=((Zk i).filter λn=>ab (lN ps m k) (mN ps m k) (30-n)).map λn:Nat=>((30-n:Nat):Int)
theorem N2 (hl:ps.length<=1000):ux [bD ps,.int m,.int k] s=ok (lI (iF ps m k)) (s++[.dead]):=by
 refine Wp.eq ?_;unfold ux;simp only[VC];refine Wp.of (pV hl).2 ?_;refine Wp.of (vQ hl) ?_
 try simp only[VC]
 refine⟨by decide,?_⟩;refine Wp.of S8 ?_;refine Wp.gL (λi env s'=>i<=31->∃a7,env=[some (bD ps),some (.int m),some (.int k),some (lI (cz ps m k)),some (lI (bL ps m k)),some (.aj s.length),some (.bl (fW (lN ps m k) (mN ps m k) i)),a7]/\s'=s++[.lst ((iG ps m k i).map D.int)]) _ (λ_=>⟨_,rfl,rfl⟩) (λi d env s' hd hI=>?_) (λenv s' hI=>?_)
 ·rw[N1] at hd
  split at hd
  ·rename_i hi
   cases hd;obtain⟨a7,rfl,rfl⟩:=hI (by omega);refine⟨_,rfl,?_⟩;generalize hd:((30-i:Nat):Int)=d;have ea:ab (lN ps m k) (mN ps m k) (30-i)=(fW (lN ps m k) (mN ps m k) i||(decide (d∈cz ps m k)||decide (d∈bL ps m k))):=by
    unfold ab br lN mN;rw[show 31-(30-i+1)=i by omega,hd]
   have eb:fW (lN ps m k) (mN ps m k) (i+1)=((fW (lN ps m k) (mN ps m k) i||decide (d∈cz ps m k))&&!decide (d∈bL ps m k)):=by
    show ((fW _ _ i||lN ps m k (30-i))&&!mN ps m k (30-i))=_;unfold lN mN;rw[hd]
   have sec:∀s2,s2=s++[.lst ((iG ps m k (i+1)).map D.int)]->Wp (aP (cT (i6 (aa 6) (e2 bN (aa 7) (aa 3))) (e2 dg (aa 7) (aa 4))) (gN 6) [some (bD ps),some (.int m),some (.int k),some (lI (cz ps m k)),some (lI (bL ps m k)),some (.aj s.length),some (.bl (fW (lN ps m k) (mN ps m k) i)),some (.int d)] s2) λfl s'=>match fl with
     | .nx env=>i+1<=31->∃a7,env=[some (bD ps),some (.int m),some (.int k),some (lI (cz ps m k)),some (lI (bL ps m k)),some (.aj s.length),some (.bl (fW (lN ps m k) (mN ps m k) (i+1))),a7]/\s'=s++[.lst ((iG ps m k (i+1)).map D.int)]
     | .ct env=>i+1<=31->∃a7,env=[some (bD ps),some (.int m),some (.int k),some (lI (cz ps m k)),some (lI (bL ps m k)),some (.aj s.length),some (.bl (fW (lN ps m k) (mN ps m k) (i+1))),a7]/\s'=s++[.lst ((iG ps m k (i+1)).map D.int)]
     | .bk env=>pq (aO (jn (aa 5))) (oI λa s'=>a=lI (iF ps m k)/\s'=s++[.dead]) (.nx env) s'
     | .rt d=>pq (aO (jn (aa 5))) (oI λa s'=>a=lI (iF ps m k)/\s'=s++[.dead]) (.rt d) s':=λs2 eG=>by
    simp only[VC,kE,nS];rw[eb]
    cases fW (lN ps m k) (mN ps m k) i with
    |true =>
     simp only[VC,if_true,nS];exact λ_=>⟨some (.int d),by simp,eG⟩
    |false =>
     simp only[Y2,if_false,abm];by_cases c:d∈cz ps m k
     ·simp only[VC,c,decide_true,if_true,nS]
      exact λ_=>⟨some (.int d),by simp,eG⟩
     ·simp only[c,decide_false,Y2,if_false]
      exact λ_=>⟨some (.int d),by simp,eG⟩
   have Ki:=GR (s:=s) (ns:=iG ps m k i) (x:=d) (Nat.lt_of_le_of_lt Fd (by omega))
   have st:iG ps m k (i+1)=iG ps m k i++(if ab (lN ps m k) (mN ps m k) (30-i)=true then [d] else []):=by
    rw[<- hd];exact EF
   have yes:ab (lN ps m k) (mN ps m k) (30-i)=true->Wp (dI (fJ (aa 5) (aa 7)) [some (bD ps),some (.int m),some (.int k),some (lI (cz ps m k)),some (lI (bL ps m k)),some (.aj s.length),some (.bl (fW (lN ps m k) (mN ps m k) i)),some (.int d)] (s++[.lst ((iG ps m k i).map D.int)])) λfl s'=>fl=.nx [some (bD ps),some (.int m),some (.int k),some (lI (cz ps m k)),some (lI (bL ps m k)),some (.aj s.length),some (.bl (fW (lN ps m k) (mN ps m k) i)),some (.int d)]/\s'=s++[.lst ((iG ps m k (i+1)).map D.int)]:=λha=>by
    simp only[VC];refine⟨Ki.1,Wp.of Ki.2 ?_⟩;rw[st,ha];simp
   have no:ab (lN ps m k) (mN ps m k) (30-i)=false->s++[Cell.lst ((iG ps m k i).map D.int)]=s++[Cell.lst ((iG ps m k (i+1)).map D.int)]:=λha=>by
    rw[st,ha];simp
   have go:∀{c:Bool},c=ab (lN ps m k) (mN ps m k) (30-i)->∀{Q:Fl->ag->Prop},(∀s2,s2=s++[.lst ((iG ps m k (i+1)).map D.int)]->Q (.nx [some (bD ps),some (.int m),some (.int k),some (lI (cz ps m k)),some (lI (bL ps m k)),some (.aj s.length),some (.bl (fW (lN ps m k) (mN ps m k) i)),some (.int d)]) s2)->if c=true then Wp (dI (fJ (aa 5) (aa 7)) [some (bD ps),some (.int m),some (.int k),some (lI (cz ps m k)),some (lI (bL ps m k)),some (.aj s.length),some (.bl (fW (lN ps m k) (mN ps m k) i)),some (.int d)] (s++[.lst ((iG ps m k i).map D.int)])) Q else Wp (bT [some (bD ps),some (.int m),some (.int k),some (lI (cz ps m k)),some (lI (bL ps m k)),some (.aj s.length),some (.bl (fW (lN ps m k) (mN ps m k) i)),some (.int d)] (s++[.lst ((iG ps m k i).map D.int)])) Q:=λ{c} hc {Q} q=>by
    cases c with
    |true =>
     rw[if_pos rfl];exact(yes hc.symm).mono λfl s2 ⟨e1,e2⟩=>by subst e1;exact q s2 e2
    |false =>
     rw[if_neg Y7,wp_sNil];exact q _ (no hc.symm)
   rw[wp_sSeq,wp_sIf];simp only[wp_tOr,wp_tru,wp_loc0,wp_locS,wp_truB,wp_tBl,wp_e2,kE,wp_ok,wp_isBl,Z8,Z9];rw[ea] at go
   cases hb:fW (lN ps m k) (mN ps m k) i with
   |true =>
    simp only[if_true];rw[hb] at go sec;exact go (c:=true) rfl λs2 h2=>sec s2 h2
   |false =>
    simp only[Y2,if_false];rw[hb] at go sec;by_cases c:d∈cz ps m k
    ·simp only[c,decide_true,if_true]
     exact go (c:=true) (by simp[c]) λs2 h2=>sec s2 h2
    ·simp only[c,decide_false,Y2,if_false]
     exact go (by simp[c]) λs2 h2=>sec s2 h2
  ·cases hd
 ·rw[show downs.length=31 from rfl] at hI
  obtain⟨a7,rfl,rfl⟩:=hI (Nat.le_refl _);simp only[VC];exact Wp.of GS ⟨rfl,rfl⟩
end DI
namespace DI
open PySem L2 TK
noncomputable def pB (F:Int->List Int):D:=.lst (k8.map λk=>lI (F k))
theorem S9 (h:0<=k/\k<8):aq (pB F) (.int k) s=ok (lI (F k)) s:=by
 obtain⟨x,e1,e2⟩:=mC (xs:=k8.map λk=>lI (F k)) h.1 (by show k<8;exact h.2);have:x=lI (F k):=by
  rw[Zj] at e2;have e3:k8[k.toNat]?=some k:=by
   unfold k8;rw[Zj,Z0 (by omega)];simp;omega
  rw[e3] at e2;exact(Option.some.inj e2).symm
 subst this;simp only[aq,ic,res,pB,e1,bF]
theorem w9:cg 0 8=k8.map D.int:=rfl
theorem IM:qW [pB F,.int d] s=ok (mD (k8.filter λk=>decide (d∈F k))) s:=by
 refine Wp.eq ?_;unfold qW;simp only[VC];refine Wp.of (eQ (n:=8) rfl (by decide)) ⟨by rw[df];exact le_size (by decide),?_⟩;rw[w9];refine Wp.of (fx (λk=>decide (d∈F k)) (λk=>.int k) k8 λk hk=>⟨[some (.int k),some (.int d),some (pB F)],rfl,?_,λ_=>rfl⟩) ?_
 ·refine Wp.eq ?_
  simp only[VC];refine Wp.of (S9 (mE.mp hk)) ?_;simp only[VC,kE,and_self]
 ·exact Wp.of (show cj [.lst ((k8.filter λk=>decide (d∈F k)).map λk=>.int k)] s=ok (mD (k8.filter λk=>decide (d∈F k))) s from rfl) ⟨rfl,rfl⟩
noncomputable def cD:List Int:=(Zk 31).map λi:Nat=>(i:Int)
theorem AB:cg 0 31=cD.map D.int:=by unfold cD;rw[zo,Z7];congr 1;funext i;simp
noncomputable def sg (P A:Int->List Int) (d:Int):D:=.tup [mD (k8.filter λk=>decide (d∈P k)),mD (k8.filter λk=>decide (d∈A k))]
theorem GU (hf:∀k s,fn [b,.int mu,.int k] s=ok (lI (F k)) (s++[.dead])) (e0:env[0]?=some (some b)) (e1:env[1]?=some (some (.int mu))) (q:∀c,Q (pB F) (s++c)) :
  Wp (ba 1 [0,1] (cb (ae (eC (.int (8))) ai)) (gN 0) cC (aC fn (ae (aa 1) (ae (aa 2) (ae (aa 0) ai)))) env s) Q:=by
 rw[wp_comp];refine Wp.of (eQ (n:=8) rfl (by decide)) ⟨by rw[df];exact le_size (by decide),?_⟩;have ec:gF [0,1] env=[some b,some (.int mu)]:=by simp[gF,e0,e1]
 rw[ec];refine vO (λi acc s'=>i<=8->acc=((Zk i).map λi:Nat=>(i:Int)).map (λk=>lI (F k))/\∃c,s'=s++c) (cg 0 8) (λ_=>⟨rfl,[],by simp⟩) (λi d acc s' hd hI=>?_) λacc s' hI=>?_
 ·rw[gX] at hd
  split at hd
  ·rename_i hi
   cases hd;obtain⟨rfl,c,rfl⟩:=hI (by omega);refine⟨[some (.int (0+i)),some b,some (.int mu)],rfl,?_⟩;refine Wp.of (show cC _ _=ok true _ from rfl) ?_;rw[if_pos rfl];simp only[VC];refine Wp.of (hf (0+(i:Int)) _) λ_=>⟨?_,c++[.dead],by simp⟩;rw[acF,Z3,Z3];simp
  ·cases hd
 ·rw[df] at hI
  obtain⟨rfl,c,rfl⟩:=hI (Nat.le_refl _);exact q c
theorem Rc (hl:ps.length<=1000):Wp (pG [bD ps,.int m] s) λd s'=>d=.lst (cD.map (sg (nE ps m) (iF ps m)))/\∃c,s'=s++c:=by
 unfold pG;rw[wp_fn];refine⟨rfl,?_⟩;rw[wp_sSeq,wp_sAsg];refine GU (b:=bD ps) (mu:=m) (λk s=>MQ hl) rfl rfl λc=>?_;simp only[asg_N,Zl,aaL,aaf,aaB,Za,Nat.reduceSub,Z8,Z9,aft_nx];rw[wp_sSeq,wp_sAsg];refine GU (b:=bD ps) (mu:=m) (λk s=>N2 hl) rfl rfl λc'=>?_;simp only[asg_N,Z8,Z9,aft_nx,wp_sRet,wp_comp,fin_rt];refine Wp.of (eQ (n:=31) rfl (by decide)) ⟨by rw[df];exact le_size (by decide),?_⟩;rw[AB];refine Wp.of (fx (λ_=>true) (sg (nE ps m) (iF ps m)) cD λd hd=>⟨[some (.int d),some (pB (nE ps m)),some (pB (iF ps m))],rfl,rfl,λ_=>?_⟩) ?_
 ·refine Wp.eq ?_
  simp only[VC];refine Wp.of IM ?_;refine Wp.of IM ?_;exact⟨by decide,rfl,rfl⟩
 ·rw[filter_tt]
  exact⟨rfl,c++c',by simp⟩
end DI
namespace DI
open PySem L2 TK
noncomputable def fL (x:Bool×Bool):List Bool:=(if x.1=true then [false] else [])++(if x.2=true then [true] else [])
noncomputable abbrev fM (x:Bool×Bool):D:=.lst ((fL x).map D.bl)
theorem LY (x:Bool×Bool) (p:Bool->Bool):(fL x).filter p=fL (x.1&&p false,x.2&&p true):=by
 obtain⟨f,t⟩:=x
 cases f<;>cases t<;>cases h1:p false<;>cases h2:p true<;>simp[fL,h1,h2]
noncomputable abbrev Rw:=Nat->Bool×Bool
noncomputable abbrev si (R:Rw):Cell:=.lst ((Zk 31).map λd=>fM (R d))
noncomputable abbrev fj (F:Nat->Bool):Cell:=.lst ((Zk 32).map λd=>D.bl (F d))
noncomputable abbrev cc (s:ag) (R:Rw) (F:Nat->Bool):ag:=s++[si R,fj F]
noncomputable def dM {α:Type} (R:Nat->α) (d:Nat) (x:α):Nat->α:=λe=>if e=d then x else R e
theorem Bk (s:ag) (R:Rw) (F:Nat->Bool):(cc s R F)[s.length]?=some (si R):=by simp[cc]
theorem Jv (s:ag) (R:Rw) (F:Nat->Bool):(cc s R F)[s.length+1]?=some (fj F):=by simp[cc]
theorem vU {α:Type} {n:Nat} {f:Nat->α} {d:Int} (h0:0<=d) (h1:d<n):eI ((Zk n).map f) d=some (f d.toNat):=by
 obtain⟨x,e1,e2⟩:=mC (xs:=(Zk n).map f) h0 (by simpa using h1);rw[Zj,Z0 (by omega)] at e2;rw[e1];exact e2.symm
theorem rS {F:Nat->Bool} {d:Int} (h0:0<=d) (h1:d<31):aq (.aj s.length) (.int d) (cc s R F)=ok (fM (R d.toNat)) (cc s R F):=by
 simp only[aq,ic,res,Bk,vU h0 h1,bF]
theorem GV {F:Nat->Bool} {d:Int} (h0:0<=d) (h1:d<32):aq (.aj (s.length+1)) (.int d) (cc s R F)=ok (.bl (F d.toNat)) (cc s R F):=by
 simp only[aq,ic,res,Jv,vU h0 h1,bF]
theorem GW {α:Type} {n d:Nat} {f:Nat->α} {x:α}:((Zk n).map f).set d x=(Zk n).map (dM f d x):=by
 apply aa7;intro i;by_cases hi:i<n
 ·by_cases e:d=i
  ·subst e
   rw[Zi (by simpa using hi),Zj,Z0 hi];simp[dM]
  ·rw[Ze e,Zj,Zj,Z0 hi]
   simp[dM,abe e]
 ·rw[ZM (by simpa using hi),ZM (by simpa using hi)]
theorem HS {n:Nat} {d:Int} (h0:0<=d) (h1:d<n):fq n d=some d.toNat:=by
 unfold fq;rw[if_pos h0,if_pos h1]
theorem FZ {α β:Type} {f:Nat->α} {g:α->β} {d:Nat} {x:α}:(λe=>g (dM f d x e))=dM (λe=>g (f e)) d (g x):=by
 funext e;unfold dM
 split<;>rfl
theorem vV {s:ag} {R:Rw} {F:Nat->Bool} {d:Int} {x:Bool×Bool} (h0:0<=d) (h1:d<31):eR (.aj s.length) (.int d) (fM x) (cc s R F)=some (cc s (dM R d.toNat x) F):=by
 have e:si (dM R d.toNat x)=.lst (((Zk 31).map λd=>fM (R d)).set d.toNat (fM x)):=by
  rw[GW];show Cell.lst ((Zk 31).map λe=>fM (dM R d.toNat x e))=_;rw[FZ (g:=fM)]
 rw[show cc s (dM R d.toNat x) F=s++[si (dM R d.toNat x),fj F] from rfl,e];simp only[eR,Bk,Y1,aaS,HS h0 h1];simp[cc,abn]
theorem Px {s:ag} {R:Rw} {F:Nat->Bool} {d:Int} {x:Bool} (h0:0<=d) (h1:d<32):eR (.aj (s.length+1)) (.int d) (.bl x) (cc s R F)=some (cc s R (dM F d.toNat x)):=by
 have e:fj (dM F d.toNat x)=.lst (((Zk 32).map λd=>D.bl (F d)).set d.toNat (.bl x)):=by
  rw[GW];show Cell.lst ((Zk 32).map λe=>D.bl (dM F d.toNat x e))=_;rw[FZ (g:=D.bl)]
 rw[show cc s R (dM F d.toNat x)=s++[si R,fj (dM F d.toNat x)] from rfl,e];simp only[eR,Jv,Y1,aaS,HS h0 h1];simp[cc,abn]
theorem vW (p:Bool->Bool) (h:∀b,t (some (.bl b)::caps) s=ok (p b) s):fB 1 caps (gN 0) t (aa 0) ((fL x).map D.bl) s=ok ((fL (x.1&&p false,x.2&&p true)).map D.bl) s:=by
 rw[comp_map D.bl p D.bl (fL x) λb _=>⟨some (.bl b)::caps,rfl,h b,λ_=>rfl⟩,LY]
theorem vv (x:Bool×Bool):((fL x).map D.bl).length<=Zf:=by
 refine lF ?_;obtain⟨f,t⟩:=x
 cases f<;>cases t<;>simp[fL]
noncomputable def gm (m k:Int) (x:Rw×(Nat->Bool)) (p:Pg):Rw×(Nat->Bool):=match p with
 | .aM m' d k'=>if (decide (m'=m)&&decide (k'=k))=true then (dM x.1 d.toNat ((x.1 d.toNat).1,false),dM x.2 d.toNat true) else x
 | .made m' d h l=>if (decide (m'=m)&&decide (k∈h++l))=true then (dM x.1 d.toNat ((x.1 d.toNat).1&&!decide (k∈h),(x.1 d.toNat).2&&decide (k∈h)),x.2) else x
theorem Py (hd:0<=p.day/\p.day<31) (hf:gk p)
 (q:Q (.nx [some (bD ps),some (.int m),some (.int k),some (.aj s.length),some (.aj (s.length+1)),some p.d,a6,a7,a8]) (cc s (gm m k (R,F) p).1 (gm m k (R,F) p).2)) :
  Wp ((az (bR (cv (aE (e2 aT (e2 aq (aa 5) (eC (.int 0))) (eC (.str "mended")))) (cv (aE (e2 aT (e2 aq (aa 5) (eC (.int 1))) (aa 1))) (aE (e2 aT (e2 aq (aa 5) (eC (.int 3))) (aa 2))))) (az (fS (ba 1 [] (bh (e2 aq (aa 3) (e2 aq (aa 5) (eC (.int 2))))) (gN 0) (fF (dD (aa 0))) (aa 0)) (aa 3) (e2 aq (aa 5) (eC (.int 2)))) (fS (eC (.bl true)) (aa 4) (e2 aq (aa 5) (eC (.int 2))))) bT) (bR (cv (aE (e2 aT (e2 aq (aa 5) (eC (.int 0))) (eC (.str "made")))) (cv (aE (e2 aT (e2 aq (aa 5) (eC (.int 1))) (aa 1))) (aE (e2 bN (aa 2) (e2 bY (e2 aq (e2 aq (aa 5) (eC (.int 3))) (eC (.int 0))) (e2 aq (e2 aq (aa 5) (eC (.int 3))) (eC (.int 1)))))))) (fS (ba 1 [2,5] (bh (e2 aq (aa 3) (e2 aq (aa 5) (eC (.int 2))))) (gN 0) (aE (e2 aT (aa 0) (e2 bN (aa 1) (e2 aq (e2 aq (aa 2) (eC (.int 3))) (eC (.int 0)))))) (aa 0)) (aa 3) (e2 aq (aa 5) (eC (.int 2)))) bT)) [some (bD ps),some (.int m),some (.int k),some (.aj s.length),some (.aj (s.length+1)),some p.d,a6,a7,a8] (cc s R F)) Q:=by
 have row:∀{R:Rw} {F:Nat->Bool},bh (e2 aq (aa 3) (e2 aq (aa 5) (eC (.int 2)))) [some (bD ps),some (.int m),some (.int k),some (.aj s.length),some (.aj (s.length+1)),some p.d,a6,a7,a8] (cc s R F)=ok ((fL (R p.day.toNat)).map D.bl) (cc s R F):=λ{R F}=>by
  refine gW (Wp.eq ?_);simp only[VC,(pw p _).2];exact Wp.of (rS hd.1 hd.2) ⟨rfl,rfl⟩
 cases p with
 |aM m' d k' =>
  have t1:cv (aE (e2 aT (e2 aq (aa 5) (eC (.int 0))) (eC (.str "mended")))) (cv (aE (e2 aT (e2 aq (aa 5) (eC (.int 1))) (aa 1))) (aE (e2 aT (e2 aq (aa 5) (eC (.int 3))) (aa 2)))) [some (bD ps),some (.int m),some (.int k),some (.aj s.length),some (.aj (s.length+1)),some (Pg.aM m' d k').d,a6,a7,a8] (cc s R F)=ok (decide (m'=m)&&decide (k'=k)) (cc s R F):=by
   refine Wp.eq ?_;simp only[VC,Pg.d,(fc _ _ _ _ _).1,(fc _ _ _ _ _).2.1,(fc _ _ _ _ _).2.2.2,ig,decide_true,if_true];by_cases e:m'=m
   ·by_cases e2:k'=k<;>simp[e,e2]
   ·simp[e]
  have t2:∀st,cv (aE (e2 aT (e2 aq (aa 5) (eC (.int 0))) (eC (.str "made")))) (cv (aE (e2 aT (e2 aq (aa 5) (eC (.int 1))) (aa 1))) (aE (e2 bN (aa 2) (e2 bY (e2 aq (e2 aq (aa 5) (eC (.int 3))) (eC (.int 0))) (e2 aq (e2 aq (aa 5) (eC (.int 3))) (eC (.int 1))))))) [some (bD ps),some (.int m),some (.int k),some (.aj s.length),some (.aj (s.length+1)),some (Pg.aM m' d k').d,a6,a7,a8] st=ok false st:=λst=>by
   refine Wp.eq ?_;simp only[VC,Pg.d,(fc _ _ _ _ _).1,ig,decide_eq_false rz,Y2,if_false,and_self]
  have fin:∀st,Q (.nx [some (bD ps),some (.int m),some (.int k),some (.aj s.length),some (.aj (s.length+1)),some (Pg.aM m' d k').d,a6,a7,a8]) st->Wp (bR (cv (aE (e2 aT (e2 aq (aa 5) (eC (.int 0))) (eC (.str "made")))) (cv (aE (e2 aT (e2 aq (aa 5) (eC (.int 1))) (aa 1))) (aE (e2 bN (aa 2) (e2 bY (e2 aq (e2 aq (aa 5) (eC (.int 3))) (eC (.int 0))) (e2 aq (e2 aq (aa 5) (eC (.int 3))) (eC (.int 1)))))))) (fS (ba 1 [2,5] (bh (e2 aq (aa 3) (e2 aq (aa 5) (eC (.int 2))))) (gN 0) (aE (e2 aT (aa 0) (e2 bN (aa 1) (e2 aq (e2 aq (aa 2) (eC (.int 3))) (eC (.int 0)))))) (aa 0)) (aa 3) (e2 aq (aa 5) (eC (.int 2)))) bT [some (bD ps),some (.int m),some (.int k),some (.aj s.length),some (.aj (s.length+1)),some (Pg.aM m' d k').d,a6,a7,a8] st) Q:=λst q=>by
   rw[wp_sIf];refine Wp.of (t2 st) ?_;rw[if_neg Y7,wp_sNil];exact q
  rw[wp_sSeq,wp_sIf];refine Wp.of t1 ?_;unfold gm at q
  cases hc:(decide (m'=m)&&decide (k'=k)) with
  |false =>
   simp only[hc,Y2,if_false] at q;rw[if_neg Y7,wp_sNil,aft_nx];exact fin _ q
  |true =>
   simp only[hc,if_true] at q;rw[if_pos rfl,wp_sSeq,wp_sSub,wp_comp];refine Wp.of row ⟨vv _,?_⟩;refine Wp.of (vW (λb=>!b) λb=>rfl) ?_;simp only[wp_loc0,wp_locS,wp_e2,wp_C,(pw (Pg.aM m' d k') _).2,wp_ok];refine⟨_,vV hd.1 hd.2,?_⟩;rw[aft_nx,wp_sSub];simp only[wp_loc0,wp_locS,wp_e2,wp_C,(pw (Pg.aM m' d k') _).2,wp_ok];refine⟨_,Px hd.1 (by have:=hd.2;omega),?_⟩;rw[aft_nx];refine fin _ ?_;simpa [TK.Pg.day] using q
 |made m' d h l =>
  have t1:∀st,cv (aE (e2 aT (e2 aq (aa 5) (eC (.int 0))) (eC (.str "mended")))) (cv (aE (e2 aT (e2 aq (aa 5) (eC (.int 1))) (aa 1))) (aE (e2 aT (e2 aq (aa 5) (eC (.int 3))) (aa 2)))) [some (bD ps),some (.int m),some (.int k),some (.aj s.length),some (.aj (s.length+1)),some (Pg.made m' d h l).d,a6,a7,a8] st=ok false st:=λst=>by
   refine Wp.eq ?_;simp only[VC,Pg.d,(fc _ _ _ _ _).1,ig,decide_eq_false zp,Y2,if_false,and_self]
  have t2:cv (aE (e2 aT (e2 aq (aa 5) (eC (.int 0))) (eC (.str "made")))) (cv (aE (e2 aT (e2 aq (aa 5) (eC (.int 1))) (aa 1))) (aE (e2 bN (aa 2) (e2 bY (e2 aq (e2 aq (aa 5) (eC (.int 3))) (eC (.int 0))) (e2 aq (e2 aq (aa 5) (eC (.int 3))) (eC (.int 1))))))) [some (bD ps),some (.int m),some (.int k),some (.aj s.length),some (.aj (s.length+1)),some (Pg.made m' d h l).d,a6,a7,a8] (cc s R F)=ok (decide (m'=m)&&decide (k∈h++l)) (cc s R F):=by
   refine Wp.eq ?_;simp only[VC,Pg.d,(fc _ _ _ _ _).1,(fc _ _ _ _ _).2.1,(fc _ _ _ _ _).2.2.2,ig,decide_true,if_true];by_cases e:m'=m
   ·simp only[VC,e,beq_self_eq_true,if_true,(ua _ _ _).1,(ua _ _ _).2,decide_true,Zw]
    refine Wp.of (fK (a:=h) (b:=l) (by have:=hf.1;have:=hf.2;omega)) ?_;refine Wp.of (ko (ns:=h++l)) ?_;simp only[VC,and_self]
   ·simp[e]
  rw[wp_sSeq,wp_sIf];refine Wp.of (t1 _) ?_;rw[if_neg Y7,wp_sNil,aft_nx,wp_sIf];refine Wp.of t2 ?_;unfold gm at q
  cases hc:(decide (m'=m)&&decide (k∈h++l)) with
  |false =>
   simp only[hc,Y2,if_false] at q;rw[if_neg Y7,wp_sNil];exact q
  |true =>
   simp only[hc,if_true] at q;rw[if_pos rfl,wp_sSub,wp_comp];refine Wp.of row ⟨vv _,?_⟩;refine Wp.of (vW (caps:=[some (.int k),some (Pg.made m' d h l).d]) (λb=>b==decide (k∈h)) λb=>?_) ?_
   ·refine Wp.eq ?_
    simp only[VC,Pg.d,(fc _ _ _ _ _).2.2.2,(ua _ _ _).1];refine Wp.of (ko (ns:=h)) ?_;refine Wp.of (show aT (.bl b) (.bl (decide (k∈h))) (cc s R F)=ok (.bl (b==decide (k∈h))) (cc s R F) from rfl) ?_;simp only[VC,and_self]
   ·simp only[wp_loc0,wp_locS,wp_e2,wp_C,(pw (Pg.made m' d h l) _).2,wp_ok]
    refine⟨_,vV hd.1 hd.2,?_⟩
    have e1:(false==decide (k∈h))=!decide (k∈h):=by cases decide (k∈h)<;>rfl
    have e2:(true==decide (k∈h))=decide (k∈h):=by cases decide (k∈h)<;>rfl
    rw[e1,e2];exact q
end DI
namespace DI
open PySem L2 TK
noncomputable def mU (ps:List Pg) (m k:Int):Rw×(Nat->Bool):=ps.foldl (gm m k) (λ_=>(true,true),λ_=>false)
noncomputable def wj:Pg->Prop
 | .made _ _ h l=>∀x∈h,x∉l
 | .aM _ _ _=>True
theorem yS {x a:Int} {l:List Int}:decide (x∈a::l)=(decide (x=a)||decide (x∈l)):=by
 by_cases h:x=a<;>simp[h]
theorem F0 {m k:Int} {d:Nat}:∀(ps:List Pg) (x:Rw×(Nat->Bool)),(∀p∈ps,0<=p.day/\wj p) ->
  ((ps.foldl (gm m k) x).1 d).1=((x.1 d).1&&!sN ps m k d)/\((ps.foldl (gm m k) x).1 d).2=((x.1 d).2&&(!mN ps m k d&&!lN ps m k d))/\(ps.foldl (gm m k) x).2 d=(x.2 d||mN ps m k d)
 | [],x,_=>by simp[sN,mN,lN,shown,bL,cz]
 |p::ps,x,h=>by
  obtain⟨i1,i2,i3⟩:=F0 (d:=d) ps (gm m k x p) λq hq=>h q (Zd _ hq);obtain⟨hd,ha⟩:=h p Zb;rw[List.foldl_cons,i1,i2,i3];have key:((gm m k x p).1 d).1=((x.1 d).1&&!(i9 m k p&&decide ((d:Int)=p.day)))/\((gm m k x p).1 d).2=((x.1 d).2&&(!(il m k p&&decide ((d:Int)=p.day))&&!(ja m k p&&decide ((d:Int)=p.day))))/\(gm m k x p).2 d=(x.2 d||(il m k p&&decide ((d:Int)=p.day))):=by
   have ed:decide ((d:Int)=p.day)=decide (d=p.day.toNat):=by
    by_cases e:d=p.day.toNat
    ·rw[decide_eq_true e,decide_eq_true (by omega)]
    ·rw[decide_eq_false e,decide_eq_false (by omega)]
   rw[ed]
   cases p with
   |aM m' d' k' =>
    simp only[gm,i9,ja,il,TK.Pg.day,ab6,aas,abZ]
    cases (decide (m'=m)&&decide (k'=k)) with
    |false=>simp
    |true =>
     simp only[if_true,Zw,dM]
     by_cases e:d=d'.toNat<;>simp[e]
   |made m' d' h' l' =>
    simp only[gm,i9,ja,il,TK.Pg.day,ab6,aas,Zw,Bool.or_false];by_cases em:m'=m
    ·simp only[em,decide_true,Zw]
     by_cases e:d=d'.toNat
     ·subst e
      simp only[decide_true,abZ];by_cases c1:k∈h'
      ·have c2:k∉l':=ha k c1
       simp[c1,c2,dM]
      ·by_cases c2:k∈l'<;>simp[c1,c2,dM]
     ·simp only[e,decide_false,Bool.and_false,aas,abZ]
      by_cases c:k∈h'++l'<;>simp[c,dM,e]
    ·simp[em]
  obtain⟨k1,k2,k3⟩:=key;rw[k1,k2,k3];have e1:sN (p::ps) m k d=((i9 m k p&&decide ((d:Int)=p.day))||sN ps m k d):=by
   unfold sN shown;rw[aaN]
   cases i9 m k p with
   |false=>rw[if_neg Y7];rfl
   |true=>rw[if_pos rfl,Zl,yS];rfl
  have e2:lN (p::ps) m k d=((ja m k p&&decide ((d:Int)=p.day))||lN ps m k d):=by
   unfold lN cz;rw[aaN]
   cases ja m k p with
   |false=>rw[if_neg Y7];rfl
   |true=>rw[if_pos rfl,Zl,yS];rfl
  have e3:mN (p::ps) m k d=((il m k p&&decide ((d:Int)=p.day))||mN ps m k d):=by
   unfold mN bL;rw[aaN]
   cases il m k p with
   |false=>rw[if_neg Y7];rfl
   |true=>rw[if_pos rfl,Zl,yS];rfl
  rw[e1,e2,e3];generalize (i9 m k p&&decide ((d:Int)=p.day))=a;generalize (ja m k p&&decide ((d:Int)=p.day))=b;generalize (il m k p&&decide ((d:Int)=p.day))=c;refine⟨?_,?_,?_⟩
  ·cases a<;>cases sN ps m k d<;>cases (x.1 d).1<;>rfl
  ·cases b<;>cases c<;>cases lN ps m k d<;>cases mN ps m k d<;>cases (x.1 d).2<;>rfl
  ·cases c<;>cases mN ps m k d<;>cases x.2 d<;>rfl
theorem Rf (h:∀p∈ps,0<=p.day/\wj p) (d:Nat):(mU ps m k).1 d=(f0 (sN ps m k) d,t0 (lN ps m k) (mN ps m k) d)/\(mU ps m k).2 d=mN ps m k d:=by
 obtain⟨h1,h2,h3⟩:=F0 (m:=m) (k:=k) (d:=d) ps (λ_=>(true,true),λ_=>false) h;refine⟨Prod.ext ?_ ?_,?_⟩
 ·show ((mU ps m k).1 d).1=_;unfold mU f0;rw[h1];simp
 ·show ((mU ps m k).1 d).2=_;unfold mU t0;rw[h2];simp
 ·unfold mU;rw[h3];simp
end DI
namespace DI
open PySem L2 TK
noncomputable abbrev ne2 (x:Bool×Bool):Bool:=x.1||x.2
theorem Ta:ei (fM x) (.lst []) s=ok (.bl (ne2 x)) s:=by
 obtain⟨f,t⟩:=x
 cases f<;>cases t<;>rfl
theorem Rg:zl [fM x,.bl b,.bl f] s=ok (.bl (!b&&(x.1||(f&&ne2 x)))) s:=by
 obtain⟨u,v⟩:=x
 cases u<;>cases v<;>cases b<;>cases f<;>rfl
theorem Pz:yJ [fM x,.bl b,.bl f] s=ok (.bl (x.2||(x.1&&(!b||f)))) s:=by
 obtain⟨u,v⟩:=x
 cases u<;>cases v<;>cases b<;>cases f<;>rfl
theorem Tb:Cu (ae (eC (.int 29)) (ae (e1 mH (eC (.int 1))) (ae (e1 mH (eC (.int 1))) ai))) env s=ok ((Zk 30).map λn:Nat=>D.int ((29-n:Nat):Int)) s:=by rfl
noncomputable def xa (x:Bool×Bool):D:=.tup ((fL x).map D.bl)
noncomputable def qC (ps:List Pg) (m k:Int):D:=.lst ((Zk 31).map λd=>xa (bw (sN ps m k) (lN ps m k) (mN ps m k) d))
theorem UK (s l m:Nat->Bool):bw s l m 30=fw s l m 30:=rfl
theorem Rh (s l m:Nat->Bool) (h:d<=29):bw s l m d=((fw s l m d).1&&((bw s l m (d+1)).2||(bw s l m (d+1)).1),(fw s l m d).2&&((bw s l m (d+1)).2||((bw s l m (d+1)).1&&m (d+1)))):=by
 unfold bw;rw[show 30-d=(29-d)+1 by omega,show 30-(d+1)=29-d by omega];simp only[qS];rw[show 29-(29-d)=d by omega,show 30-(29-d)=d+1 by omega]
theorem Tc (hl:ps.length<=1000) (hp:∀p∈ps,(0<=p.day/\p.day<31)/\gk p/\wj p):Wp (wb [bD ps,.int m,.int k] s) λd s'=>d=qC ps m k/\∃c,s'=s++c:=by
 unfold wb;rw[wp_fn];refine⟨rfl,?_⟩;rw[wp_sSeq,wp_sAsg];unfold rG;simp only[bu];refine Wp.of (eQ (n:=31) rfl (by decide)) ?_;rw[nR];refine⟨by rw[df];exact le_size (by decide),?_⟩;rw[bu,AB];refine Wp.of (fx (λ_=>true) (λ_=>fM (true,true)) cD λd hd=>⟨[some (.int d)],rfl,rfl,λ_=>rfl⟩) ?_;simp only[wp_ok,asg_N,filter_tt,Zl,aaL,aaf,aaB,Za,Nat.reduceSub,Z8,Z9,aft_nx];rw[wp_sSeq,wp_sAsg];simp only[bu];refine Wp.of (eQ (n:=32) rfl (by decide)) ?_;rw[nR];refine⟨by rw[df];exact le_size (by decide),?_⟩;rw[bu];have Xv:cg 0 32=((Zk 32).map λi:Nat=>(i:Int)).map D.int:=by rw[zo,Z7];congr 1;funext i;simp
 rw[Xv];refine Wp.of (fx (λ_=>true) (λ_=>.bl false) _ λd hd=>⟨[some (.int d)],rfl,rfl,λ_=>rfl⟩) ?_;simp only[wp_ok,asg_N,filter_tt,Z8,Z9,aft_nx];have es:s++[Cell.lst (cD.map λ_=>fM (true,true))]++[Cell.lst (((Zk 32).map λi:Nat=>(i:Int)).map λ_=>D.bl false)]=cc s (λ_=>(true,true)) (λ_=>false):=by
  unfold cD;simp only[Z7,aaT,aax,aaf,aaB]
 have el:(s++[Cell.lst (cD.map λ_=>fM (true,true))]).length=s.length+1:=by simp
 rw[es,el];rw[wp_sSeq,wp_sFor];refine Wp.of (gU (ds:=ps.map Pg.d) rfl) ?_;refine Wp.gL (λi env s'=>∃a5 a6 a7 a8,env=[some (bD ps),some (.int m),some (.int k),some (.aj s.length),some (.aj (s.length+1)),a5,a6,a7,a8]/\s'=cc s ((ps.take i).foldl (gm m k) (λ_=>(true,true),λ_=>false)).1 ((ps.take i).foldl (gm m k) (λ_=>(true,true),λ_=>false)).2) _ ⟨_,_,_,_,rfl,rfl⟩ (λi d env s' hd hI=>?_) (λenv s' hI=>?_)
 ·obtain⟨a5,a6,a7,a8,rfl,rfl⟩:=hI
  rw[Zj] at hd
  cases xM:ps[i]? with
  |none=>rw[xM] at hd;cases hd
  |some p =>
   rw[xM] at hd;cases hd;obtain⟨h1,h2,h3⟩:=hp p (aaK xM);refine⟨_,rfl,?_⟩;refine Py h1 h2 ⟨_,_,_,_,rfl,?_⟩;rw[List.take_add_one,xM];simp only[Option.toList_some,List.foldl_append,List.foldl_cons,List.foldl_nil]
 obtain⟨a5,a6,a7,a8,rfl,rfl⟩:=hI;rw[Y1,List.take_length];have h0:=Rf (ps:=ps) (m:=m) (k:=k) λp q=>⟨(hp p q).1.1,(hp p q).2.2⟩;unfold mU at h0;generalize (ps.foldl (gm m k) (λ_=>(true,true),λ_=>false))=x0 at h0;obtain⟨R,F⟩:=x0;have hR:∀d,R d=(f0 (sN ps m k) d,t0 (lN ps m k) (mN ps m k) d):=λd=>(h0 d).1;have hF:∀d,F d=mN ps m k d:=λd=>(h0 d).2;clear h0;rw[aft_nx,wp_sSeq,wp_sFor];refine Wp.of (zW (i:=1) (j:=31) rfl (by decide) (by decide) (by decide) (by decide)) ?_;rw[show ((31:Int)-1).toNat=30 from rfl]
 refine Wp.gL (λi env s'=>i<=30->∃a5 a6 a7 a8 R,env=[some (bD ps),some (.int m),some (.int k),some (.aj s.length),some (.aj (s.length+1)),a5,a6,a7,a8]/\s'=cc s R F/\∀d,R d=if d<=i then fw (sN ps m k) (lN ps m k) (mN ps m k) d else (f0 (sN ps m k) d,t0 (lN ps m k) (mN ps m k) d)) _ (λ_=>⟨_,_,_,_,R,rfl,rfl,λd=>?_⟩) (λi d env s' hd hI=>?_) (λenv s' hI=>?_)
 ·split
  ·rw[show d=0 by omega,hR];rfl
  ·exact hR d
 ·rw[gX] at hd
  split at hd
  ·rename_i hi
   cases hd;obtain⟨a5,a6,a7,a8,R,rfl,rfl,hR⟩:=hI (by omega);refine⟨_,rfl,?_⟩;have ed:(1:Int)+(i:Int)=((i+1:Nat):Int):=by omega
   rw[ed];simp only[Z8,Z9];rw[wp_sSeq,wp_sAsg];simp only[wp_tup,wp_aCons,wp_aNil,wp_e2,wp_loc0,wp_locS,wp_C,wp_subI];rw[show (((i+1:Nat):Int)-1)=(i:Int) by omega];refine Wp.of (rS (by omega) (by omega)) (Wp.of (GV (by omega) (by omega)) ?_);refine⟨le_size (by simp only[Zz,ZY];decide),?_⟩;simp only[asg_T,asg_cons,asg_nil,Z8,Z9,aft_nx,ZD];rw[wp_sSub,wp_comp];have row:bh (e2 aq (aa 3) (aa 6)) [some (bD ps),some (.int m),some (.int k),some (.aj s.length),some (.aj (s.length+1)),a5,some (.int ((i+1:Nat):Int)),some (fM (R i)),some (.bl (F (i+1)))] (cc s R F)=ok ((fL (R (i+1))).map D.bl) (cc s R F):=by
    refine gW (Wp.eq ?_);simp only[wp_e2,wp_loc0,wp_locS];exact Wp.of (rS (by omega) (by omega)) ⟨by rw[ZD],rfl⟩
   refine Wp.of row ⟨vv _,?_⟩;refine Wp.of (vW (caps:=[some (fM (R i)),some (.bl (F (i+1)))]) (λb=>(b&&ne2 (R i))||(!b&&((R i).1||(F (i+1)&&ne2 (R i))))) λb=>?_) ?_
   ·refine Wp.eq ?_
    simp only[VC,Ta,Rg]
    cases b with
    |true=>cases ne2 (R i)<;>simp[wp_ok]
    |false=>simp[wp_ok]
   ·simp only[wp_loc0,wp_locS]
    refine⟨_,vV (by omega) (by omega),λ_=>⟨_,_,_,_,_,rfl,rfl,λd=>?_⟩⟩;rw[ZD];unfold dM;by_cases e:d=i+1
    ·rw[if_pos e,if_pos (by omega),e]
     have h1:=hR (i+1);rw[if_neg (by omega)] at h1;have h2:=hR i;rw[if_pos (Nat.le_refl _)] at h2;simp only[fw,h1,h2,hF,ab6,Zw,aas,Zr,abm,Bool.or_false,ne2]
    ·rw[if_neg e,hR d]
     by_cases e2:d<=i
     ·rw[if_pos e2,if_pos (by omega)]
     ·rw[if_neg e2,if_neg (by omega)]
  ·cases hd
 rw[df] at hI;obtain⟨a5,a6,a7,a8,R,rfl,rfl,hR⟩:=hI (Nat.le_refl _);rw[aft_nx,wp_sSeq,wp_sFor];refine Wp.of Tb ?_
 refine Wp.gL (λn env s'=>n<=30->∃a5 a6 a7 a8 R,env=[some (bD ps),some (.int m),some (.int k),some (.aj s.length),some (.aj (s.length+1)),a5,a6,a7,a8]/\s'=cc s R F/\∀d,d<=30->R d=if 30-n<=d then bw (sN ps m k) (lN ps m k) (mN ps m k) d else fw (sN ps m k) (lN ps m k) (mN ps m k) d) _ (λ_=>⟨_,_,_,_,R,rfl,rfl,λd hd=>?_⟩) (λn d env s' hd hI=>?_) (λenv s' hI=>?_)
 ·rw[hR d,if_pos hd]
  split
  ·rw[show d=30 by omega,UK]
  ·rfl
 ·rw[Zj] at hd
  by_cases hn:n<30
  ·rw[Z0 hn] at hd
   cases hd;obtain⟨a5,a6,a7,a8,R,rfl,rfl,hR⟩:=hI (by omega);refine⟨_,rfl,?_⟩;simp only[Z8,Z9];generalize hd:29-n=d;rw[wp_sSub,wp_comp];have row:bh (e2 aq (aa 3) (aa 6)) [some (bD ps),some (.int m),some (.int k),some (.aj s.length),some (.aj (s.length+1)),a5,some (.int (d:Int)),a7,a8] (cc s R F)=ok ((fL (R d)).map D.bl) (cc s R F):=by
    refine gW (Wp.eq ?_);simp only[wp_e2,wp_loc0,wp_locS];exact Wp.of (rS (by omega) (by omega)) ⟨by rw[ZD],rfl⟩
   refine Wp.of row ⟨vv _,?_⟩;refine Wp.of (vW (caps:=[some (.aj s.length),some (.aj (s.length+1)),some (.int (d:Int))]) (λb=>(R (d+1)).2||((R (d+1)).1&&(!b||F (d+1)))) λb=>?_) ?_
   ·refine Wp.eq ?_
    simp only[VC];refine Wp.of (rS (by omega) (by omega)) (Wp.of (GV (by omega) (by omega)) ?_);rw[show ((d:Int)+1).toNat=d+1 by omega];refine Wp.of Pz ?_;simp only[VC,and_self]
   ·simp only[wp_loc0,wp_locS]
    refine⟨_,vV (by omega) (by omega),λ_=>⟨_,_,_,_,_,rfl,rfl,λe he=>?_⟩⟩;rw[ZD];unfold dM;by_cases ee:e=d
    ·rw[if_pos ee,if_pos (by omega),ee,Rh _ _ _ (by omega)]
     have h1:=hR d (by omega);rw[if_neg (by omega)] at h1;have h2:=hR (d+1) (by omega);rw[if_pos (by omega)] at h2;simp only[h1,h2,hF,aas,Zr,Bool.true_or,abm,abZ]
    ·rw[if_neg ee,hR e he]
     by_cases e2:30-n<=e
     ·rw[if_pos e2,if_pos (by omega)]
     ·rw[if_neg e2,if_neg (by omega)]
  ·rw[ZM (by simpa using hn)] at hd
   cases hd
 rw[Y1,aaS] at hI;obtain⟨a5,a6,a7,a8,R,rfl,rfl,hR⟩:=hI (Nat.le_refl _);rw[aft_nx,wp_sRet,wp_comp];have fz:bh (jn (aa 3)) [some (bD ps),some (.int m),some (.int k),some (.aj s.length),some (.aj (s.length+1)),a5,a6,a7,a8] (cc s R F)=ok ((Zk 31).map λd=>fM (R d)) (s++[.dead,fj F]):=by
  refine gW (Wp.eq ?_);simp only[wp_frz,wp_loc0,wp_locS];refine Wp.of (show cE (.aj s.length) (cc s R F)=ok (.lst ((Zk 31).map λd=>fM (R d))) (s++[.dead,fj F]) from ?_) ⟨rfl,rfl⟩;simp only[cE,Bk];simp[cc,abn]
 refine Wp.of fz ⟨by rw[Y1,aaS];exact le_size (by decide),?_⟩;refine Wp.of (comp_map (λd=>fM (R d)) (λ_=>true) (λd=>xa (R d)) (Zk 31) λd hd=>⟨[some (fM (R d))],rfl,rfl,λ_=>rfl⟩) ?_;rw[filter_tt,fin_rt];refine⟨?_,[.dead,fj F],rfl⟩;unfold qC;congr 1;apply acn;intro d hd;have:=ZO.mp hd;rw[hR d (by omega),if_pos (by omega)]
end DI
namespace DI
open PySem L2 TK
theorem Ri (N:rA s l m) (hd:d<=30):bw s l m d≠(false,false):=by
 rw[UJ N hd]
 cases hp:pr s m d with
 |false=>simp
 |true=>simp[IK N hd hp]
theorem LZ (hd:mT ps) (h:∀m∈m4,∀k∈k8,rA (sN ps m k) (lN ps m k) (mN ps m k)):lG ps=[]:=by
 unfold lG;rw[acG];intro m hm;rw[acG];intro k hk;rw[acr];unfold kA;rw[acG];intro d gp;rw[acr,abc];intro e he hc;have hs:d∈shown ps m k:=nP.mp gp;obtain⟨i,hi,rfl⟩:=Zv.mp he;rw[ZO] at hi;have d0:=hd.of hs;unfold nC at hc;simp only[Y3,aa9,decide_eq_true_eq,Z4] at hc;have e1:((d.toNat:Nat):Int)=d:=by omega
 have e2:(((d+(i:Int)).toNat:Nat):Int)=d+(i:Int):=by omega
 obtain⟨x,x1,x2,x3⟩:=h m hm k hk d.toNat (d+(i:Int)).toNat (by simp only[sN,e1,decide_eq_true_eq];exact hs) (by omega) (by omega) (by
  rcases hc.1 with z | ⟨z1,z2⟩
  ·exact .inl (by simp only[lN,e2,decide_eq_true_eq];exact z)
  ·exact .inr ⟨by omega,by simp only[mN,e1,decide_eq_true_eq];exact z2⟩)
 have hb:=hc.2;unfold w6 at hb;rw[ab0] at hb;simp only[mN,decide_eq_true_eq] at x3;refine hb _ x3 ?_;simp only[Y3,decide_eq_true_eq];omega
end DI
namespace DI
open PySem L2
noncomputable def brk (l:List Int):List Int:=((Zk (l.length-1)).filter λi=>l.getD (i+1) 0==l.getD i 0).map λi:Nat=>1+(i:Int)
end DI
namespace DI
open PySem L2
end DI
namespace DI
open PySem L2
end DI
namespace DI
open PySem L2
theorem Ex.get (h:Ex k s s') (e:s[j]?=some c) (hj:j≠k):s'[j]?=some c:=by
 rw[h.val j (Y0.mp e).1 hj];exact e
theorem Ex.hi (h:Ex k s s') (hj:s.length<=j) (c:Cell):Ex k s (s'.set j c):=⟨by rw[ZU];exact h.len,λi hi hk=>by rw[Ze (by omega)];exact h.val i hi hk⟩
structure RI (s0:ag) (k rh mh:Nat) (rs:List (List Int)) (s:ag):Prop where
 st:bP s k
 ex:Ex k s0 s
 run:s[rh]?=some (.lst (rs.map mD))
 mo:∃a b,s[mh]?=some (.lst [mD a,mD b])/\bW 8 a/\bW 8 b
 gR:∀r∈rs,bW 8 r
 k1:k<s0.length
 r1:s0.length<=rh
 m1:s0.length<=mh
 ne:rh≠mh
theorem RI.draw (h:RI s0 k rh mh rs s) (g:bP s' k) (x:Ex k s s'):RI s0 k rh mh rs s':=by
 have:=h.k1;have:=h.r1;have:=h.m1;obtain⟨a,b,e,ha,hb⟩:=h.mo;exact⟨g,h.ex.trans x,x.get h.run (by omega),⟨a,b,x.get e (by omega),ha,hb⟩,h.gR,h.k1,h.r1,h.m1,h.ne⟩
theorem RI.push (h:RI s0 k rh mh rs s) (hr:bW 8 r):RI s0 k rh mh (rs++[r]) (s.set rh (.lst (rs.map mD++[mD r]))):=by
 have:=h.k1;have:=h.r1;have:=h.m1;have:=h.ne;obtain⟨a,b,e,ha,hb⟩:=h.mo;refine⟨h.st.set (by omega) _,h.ex.hi (by omega) _,?_,⟨a,b,by rw[Ze (by omega)];exact e,ha,hb⟩,λx hx=>?_,h.k1,h.r1,h.m1,h.ne⟩
 ·rw[Zi (Y0.mp h.run).1,Z3]
  rfl
 ·rcases Zq.mp hx with hx|hx
  ·exact h.gR x hx
  ·rw[Zs.mp hx];exact hr
theorem RI.put (h:RI s0 k rh mh rs s) (h0:at_=0\/at_=1):(∃a,aq (.aj mh) (.int at_) s=ok (mD a) s/\bW 8 a)/\∀c,bW 8 c->∃s',eR (.aj mh) (.int at_) (mD c) s=some s'/\RI s0 k rh mh rs s':=by
 have:=h.k1;have:=h.r1;have:=h.m1;have:=h.ne;obtain⟨a,b,e,ha,hb⟩:=h.mo;have key:∀a b,bW 8 a->bW 8 b->RI s0 k rh mh rs (s.set mh (.lst [mD a,mD b])):=λa b ha hb=>⟨h.st.set (by omega) _,h.ex.hi (by omega) _,by rw[Ze (by omega)];exact h.run,⟨a,b,Zi (Y0.mp e).1,ha,hb⟩,h.gR,h.k1,h.r1,h.m1,h.ne⟩
 rcases h0 with rfl|rfl
 ·exact⟨⟨a,CI _ _ _ _ e,ha⟩,λc hc=>⟨_,Jq _ _ _ _ _ e,key _ _ hc hb⟩⟩
 ·exact⟨⟨b,CJ _ _ _ _ e,hb⟩,λc hc=>⟨_,Jr _ _ _ _ _ e,key _ _ ha hc⟩⟩
end DI
namespace DI
open PySem L2
structure Ft (n W:Nat) (d:D):Prop where
 pl:plain d=true
 sh:(py d).showable=true
 nd:(py d).hasDict=false
 dp:(py d).depth<=n
 wt:(py d).weight<=W
 lv:(py d).leavesShort 40=true
noncomputable def Bl (d:D):Bool:=plain d&&(py d).showable&&!(py d).hasDict&&decide ((py d).depth<=0)&&decide ((py d).weight<=110)&&(py d).leavesShort 40
theorem wB (h:Bl d=true):Ft 0 110 d:=by
 unfold Bl at h;simp only[Y3,decide_eq_true_eq,Z4] at h;obtain⟨⟨⟨⟨⟨h0,h1⟩,h2⟩,h3⟩,h4⟩,h5⟩:=h;exact⟨h0,h1,h2,h3,h4,h5⟩
theorem Td:∀n:Fin 62,Bl (.int ((n.val:Int)-1))=true:=by decide +kernel
theorem n6 (h1:-1<=n) (h2:n<=60):Ft 0 110 (.int n):=by
 refine wB ?_;have:=Td ⟨(n+1).toNat,by omega⟩;have e2:(((n+1).toNat:Nat):Int)-1=n:=by omega
 rw[e2] at this;exact this
theorem zY:∀{ds:List D},(∀x∈ds,Ft n W x)->lB ds=true/\PyData.showableAll (cy ds)=true/\PyData.hasDictAll (cy ds)=false/\abT (cy ds)<=n/\ack (cy ds)<=ds.length*(W+1)/\PyData.leavesShortAll 40 (cy ds)=true
 | [],_=>⟨rfl,rfl,rfl,aad _,by simp[cy,ack],rfl⟩
 |x::xs,h=>by
  obtain⟨z,a,b,c,d,e⟩:=zY (ds:=xs) λy hy=>h y (Zd _ hy);have k:=h x Zb;refine⟨?_,?_,?_,?_,?_,?_⟩
  ·simp only[lB,k.pl,z,aay]
  ·simp only[cy,PyData.showableAll,k.sh,a,aay]
  ·simp only[cy,PyData.hasDictAll,k.nd,b,Bool.or_self]
  ·simp only[cy,abT];have:=k.dp;omega
  ·simp only[cy,ack,Zz]
   have:=k.wt;rw[Nat.add_mul];omega
  ·simp only[cy,PyData.leavesShortAll,k.lv,e,aay]
theorem qf (hl:ds.length<=c) (h:∀x∈ds,Ft n W x):Ft (n+1) (c*(W+1)) (.tup ds):=by
 obtain⟨z,a,b,c',d',e'⟩:=zY h;have hw:ack (cy ds)<=c*(W+1):=Zo d' (ada _ hl);exact⟨by simp only[plain];exact z,by simp only[py,PyData.showable];exact a,by simp only[py,PyData.hasDict];exact b,by simp only[py,PyData.depth];omega,by simp only[py,PyData.weight];exact hw,by simp only[py,PyData.leavesShort];exact e'⟩
theorem HU (hl:ds.length<=c) (h:∀x∈ds,Ft n W x):Ft (n+1) (c*(W+1)) (.lst ds):=by
 obtain⟨z,a,b,c',d',e'⟩:=zY h;have hw:ack (cy ds)<=c*(W+1):=Zo d' (ada _ hl);exact⟨by simp only[plain];exact z,by simp only[py,PyData.showable];exact a,by simp only[py,PyData.hasDict];exact b,by simp only[py,PyData.depth];omega,by simp only[py,PyData.weight];exact hw,by simp only[py,PyData.leavesShort];exact e'⟩
theorem HV (h:Ft n W d) (hn:n<=100) (hw:W<=300000):oo d=true:=by
 have l:=PyData.shown_le 40 (by decide) _ h.lv;have w:=h.wt;have p:=h.dp;have z:Zf=16777216:=abB;have l':(py d).shown.length<=Zf:=by rw[z];omega
 unfold oo;rw[h.pl,h.sh,h.nd,decide_eq_true (show (py d).depth<=100 by omega),decide_eq_true l'];rfl
theorem ne_str:ei (.str x) (.str x) s=ok (.bl false) s:=by
 show (match fE (.str x) (.str x) with|some b=>ok (D.bl (!b)) s|none=>none)=_
 have e:fE (.str x) (.str x)=some true:=by
  unfold fE;rw[if_pos (show (i7 (.str x)&&i7 (.str x))=true from rfl)];simp[beq]
 rw[e];rfl
end DI
namespace DI
open PySem L2 TK
structure CL (p:Pg):Prop where
 day:0<=p.day/\p.day<31
 gk:gk p
 apart:wj p
 ft:Ft 3 7116 p.d
theorem Ft.mono (h:Ft n W d) (h1:n<=n') (h2:W<=W'):Ft n' W' d:=⟨h.pl,h.sh,h.nd,Zo h.dp h1,Zo h.wt h2,h.lv⟩
theorem HW:Ft 0 110 (.str "made")/\Ft 0 110 (.str "mended"):=⟨wB (by decide +kernel),wB (by decide +kernel)⟩
theorem HX (h:bW 8 ns):Ft 1 888 (mD ns):=by
 refine qf (c:=8) (W:=110) (by rw[Y1];exact h.len) λx hx=>?_;obtain⟨y,hy,rfl⟩:=Zv.mp hx;have:=h.lo y hy;exact n6 (by omega) (by omega)
theorem Rj (h:eh p=true):CL p:=by
 cases p with
 |made m d h' l =>
  simp only[eh,iz,iV,Y3,decide_eq_true_eq] at h;obtain⟨⟨hm,hd⟩,h1,h2,h3⟩:=h;have k1:=qX h1;have k2:=qX h2;refine⟨hd,⟨by have:=k1.len;omega,by have:=k2.len;omega⟩,λx hx hl=>?_,?_⟩
  ·unfold rR at h3
   rw[Z4,ab0] at h3;exact h3 x hx (decide_eq_true hl)
  ·refine qf (c:=4) (n:=2) (W:=1778) (by simp) λx hx=>?_
   simp only[Zh,Z5,or_false] at hx
   rcases hx with rfl|rfl|rfl|rfl
   ·exact HW.1.mono (by omega) (by omega)
   ·exact(n6 (by omega) (by omega)).mono (by omega) (by omega)
   ·exact(n6 (by omega) (by omega)).mono (by omega) (by omega)
   ·refine qf (c:=2) (n:=1) (W:=888) (by simp) λx hx=>?_
    simp only[Zh,Z5,or_false] at hx
    rcases hx with rfl|rfl
    ·exact HX k1
    ·exact HX k2
 |aM m d k =>
  simp only[eh,iz,iV,markB,Y3,decide_eq_true_eq] at h;obtain⟨⟨hm,hd⟩,hk⟩:=h;refine⟨hd,trivial,trivial,(qf (c:=4) (n:=0) (W:=110) (by simp) λx hx=>?_).mono (by omega) (by omega)⟩;simp only[Zh,Z5,or_false] at hx
  rcases hx with rfl|rfl|rfl|rfl
  ·exact HW.2
  ·exact n6 (by omega) (by omega)
  ·exact n6 (by omega) (by omega)
  ·exact n6 (by omega) (by omega)
theorem pM (h:cu ps=true):ps.length<=24/\∀p∈ps,CL p:=by
 unfold cu jj at h;simp only[Y3,decide_eq_true_eq,Zu] at h;exact⟨h.1.1,λp hp=>Rj (h.1.2.1 p hp)⟩
theorem PB {fn:List D->ag->Res D} {G:Int->D} {b:D} {mu:Int} (hf:∀k s,Wp (fn [b,.int mu,.int k] s) λd s'=>d=G k/\∃c,s'=s++c) {caps:Env} {s:ag} (ec:caps=[some b,some (.int mu)]) {Q:List D->ag->Prop} (q:∀c,Q (k8.map G) (s++c)) :
  Wp (fB 1 caps (gN 0) cC (aC fn (ae (aa 1) (ae (aa 2) (ae (aa 0) ai)))) (cg 0 8) s) Q:=by
 rw[ec];refine vO (λi acc s'=>i<=8->acc=((Zk i).map λi:Nat=>(i:Int)).map G/\∃c,s'=s++c) (cg 0 8) (λ_=>⟨rfl,[],by simp⟩) (λi d acc s' hd hI=>?_) λacc s' hI=>?_
 ·rw[gX] at hd
  split at hd
  ·rename_i hi
   cases hd;obtain⟨rfl,c,rfl⟩:=hI (by omega);refine⟨[some (.int (0+i)),some b,some (.int mu)],rfl,?_⟩;refine Wp.of (show cC _ _=ok true _ from rfl) ?_;rw[if_pos rfl];simp only[VC];refine(hf (0+(i:Int)) _).mono λx s2 hx=>?_;obtain⟨rfl,c2,rfl⟩:=hx;refine λ_=>⟨?_,c++c2,by simp⟩;rw[acF,Z3,Z3];simp
  ·cases hd
 ·rw[df] at hI
  obtain⟨rfl,c,rfl⟩:=hI (Nat.le_refl _);exact q c
end DI
namespace DI
open PySem L2 TK
noncomputable def mP (ps:List Pg) (m:Int):D:=.lst (k8.map (qC ps m))
theorem UL (h:0<=k/\k<8):aq (.lst (k8.map G)) (.int k) s=ok (G k) s:=by
 obtain⟨x,e1,e2⟩:=mC (xs:=k8.map G) h.1 (by show k<8;exact h.2);have:x=G k:=by
  rw[Zj] at e2;have e3:k8[k.toNat]?=some k:=by
   unfold k8;rw[Zj,Z0 (by omega)];simp;omega
  rw[e3] at e2;exact(Option.some.inj e2).symm
 subst this;simp only[aq,ic,res,e1,bF]
theorem Te (h:0<=d/\d<31):aq (qC ps m k) (.int d) s=ok (xa (bw (sN ps m k) (lN ps m k) (mN ps m k) d.toNat)) s:=by
 simp only[aq,ic,res,qC,vU h.1 h.2,bF]
theorem Tf {n:Nat}:jf (bD ps) none (some (n:Int)) s=ok (bD (ps.take n)) s:=by
 show ok (D.tup (cutD (ps.map Pg.d) none (some (n:Int)))) s=_;unfold cutD;rw[HT.Qc];show ok (D.tup (((ps.map Pg.d).drop 0).take (min n (ps.map Pg.d).length-0))) s=_;rw[List.drop_zero,Nat.sub_zero,<- List.map_take,Y1];congr 3;rw[List.take_eq_take_min (i:=n)]
end DI
namespace DI
open PySem L2 TK
theorem rm (hl:ps.length<=1000) (hf:∀p∈ps,gk p) (hb:cu ps=true):pJ [bD ps] s=ok .aA s:=by
 refine Wp.eq ?_;unfold pJ;simp only[VC];refine Wp.of (Q8 hl hf) ?_;rw[hb];simp only[VC,Zr,Y2,if_false,and_self]
theorem q0 (hm:0<=m/\m<4):pH [.int m] s=ok .aA s:=by
 refine Wp.eq ?_;unfold pH;simp only[VC];refine Wp.of yR ?_;rw[show iz m=true by unfold iz;simp[hm]];simp only[VC,Zr,Y2,if_false,and_self]
theorem F1 {ps:List Pg} {m:Int} {s:ag} {r:Env} (hl:ps.length<=1000):∃c,bh (aC pG (ae (aa 0) (ae (aa 1) ai))) (some (bD ps)::some (.int m)::r) s=ok (cD.map (sg (nE ps m) (iF ps m))) (s++c):=by
 obtain⟨x,s',e,rfl,c,rfl⟩:=Rc (m:=m) (s:=s) hl;refine⟨c,gW (Wp.eq ?_)⟩;simp only[wp_call,wp_aCons,wp_aNil,wp_loc0,wp_locS];exact Wp.of e ⟨rfl,rfl⟩
theorem vw {α:Type} (f:α->D) (h:∀x,lay (f x)=true):∀l:List α,cO (l.map f)=true
 | []=>rfl
 |x::l=>by rw[Zl,cO,h x,vw f h l];rfl
theorem N3 (h:cO ds=true):fE (.lst ds) (.lst [])=some ds.isEmpty:=by
 unfold fE;rw[if_neg (by simp[i7]),if_pos (by simp only[lay,h,cO,dep,cB,aay,Zw,decide_eq_true_eq];exact decide_eq_true (Zo (Nat.min_le_right _ 1) (show 1<=100 by decide)))]
 cases ds<;>rfl
theorem ne_nil (h:cO ds=true):ei (.lst ds) (.lst []) s=ok (.bl (!ds.isEmpty)) s:=by
 show (match fE (.lst ds) (.lst []) with|some b=>ok (D.bl !b) s|none=>none)=_
 rw[N3 h]
end DI
namespace DI
open PySem L2 TK
noncomputable def qg (ps:List Pg) (m d:Int):List Int:=k8.filter λk=>decide (d∈nE ps m k)
noncomputable def wC (ps:List Pg) (m d:Int):List Int:=k8.filter λk=>!decide (d∈iF ps m k)
noncomputable def cS (F:Int->List Int):D:=.tup (cD.map λd=>mD (F d))
theorem PC (hl:ps.length<=1000) (hf:∀p∈ps,gk p) (hb:cu ps=true) (hm:0<=m/\m<4):Wp (uC [bD ps,.int m] s) λx s'=>x=cS (qg ps m)/\∃c,s'=s++c:=by
 unfold uC;simp only[VC];refine Wp.of (rm hl hf hb) (Wp.of (q0 hm) ?_);obtain⟨c,e⟩:=F1 (m:=m) (s:=s) (r:=[]) hl;refine Wp.of e ⟨le_size (by rw[Y1];decide),?_⟩;refine Wp.of (comp_map (sg (nE ps m) (iF ps m)) (λ_=>true) (λd=>mD (qg ps m d)) cD λd _=>⟨[some (mD (qg ps m d)),some (mD (k8.filter λk=>decide (d∈iF ps m k)))],rfl,rfl,λ_=>rfl⟩) ?_;rw[filter_tt];exact⟨_,_,rfl,rfl,c,rfl⟩
theorem Rk (hl:ps.length<=1000) (hf:∀p∈ps,gk p) (hb:cu ps=true) (hm:0<=m/\m<4):Wp (uK [bD ps,.int m] s) λx s'=>x=cS (wC ps m)/\∃c,s'=s++c:=by
 unfold uK;simp only[VC];refine Wp.of (rm hl hf hb) (Wp.of (q0 hm) ?_);obtain⟨c,e⟩:=F1 (m:=m) (s:=s) (r:=[]) hl;refine Wp.of e ⟨le_size (by rw[Y1];decide),?_⟩;refine Wp.of (comp_map (sg (nE ps m) (iF ps m)) (λ_=>true) (λd=>mD (wC ps m d)) cD λd _=>⟨[some (mD (qg ps m d)),some (mD (k8.filter λk=>decide (d∈iF ps m k)))],rfl,rfl,λ_=>?_⟩) ?_
 ·refine Wp.eq ?_
  simp only[VC];refine Wp.of (eQ (n:=8) rfl (by decide)) ⟨by rw[df];exact le_size (by decide),?_⟩;rw[w9];refine Wp.of (fx (λk=>!decide (d∈iF ps m k)) (λk=>.int k) k8 λk hk=>⟨[some (.int k),some (mD (k8.filter λk=>decide (d∈iF ps m k)))],rfl,?_,λ_=>rfl⟩) ?_
  ·refine Wp.eq ?_
   simp only[VC,EC,ZG,hk,true_and,decide_eq_true_eq,and_self]
  ·exact⟨_,_,rfl,rfl,rfl⟩
 rw[filter_tt];exact⟨_,_,rfl,rfl,c,rfl⟩
end DI
namespace DI
open PySem L2 TK
theorem pW (h:d∈cD):aq (cS F) (.int d) s=ok (mD (F d)) s:=by
 unfold cD at h;obtain⟨i,hi,rfl⟩:=Zv.mp h;rw[ZO] at hi;obtain⟨x,e1,e2⟩:=mC (xs:=cD.map λd=>mD (F d)) (i:=(i:Int)) (by omega) (by show (i:Int)<31;omega);have:x=mD (F i):=by
  rw[Zj,ZD] at e2;have e3:cD[i]?=some (i:Int):=by unfold cD;rw[Zj,Z0 hi];rfl
  rw[e3] at e2;exact(Option.some.inj e2).symm
 subst this;simp only[aq,ic,res,cS,e1,bF]
noncomputable def wL (F:Int->List Int) (k:Int):List Int:=cD.filter λd=>decide (k∈F d)
theorem Rl:uM [cS F,.int k] s=ok (lI (wL F k)) s:=by
 refine Wp.eq ?_;unfold uM;simp only[VC];refine Wp.of (eQ (n:=31) rfl (by decide)) ⟨by rw[df];exact le_size (by decide),?_⟩;rw[AB];refine Wp.of (fx (λd=>decide (k∈F d)) (λd=>.int d) cD λd hd=>⟨[some (.int d),some (.int k),some (cS F)],rfl,?_,λ_=>rfl⟩) ⟨rfl,rfl⟩;refine Wp.eq ?_;simp only[VC,pW hd,ko,and_self]
noncomputable def nF (ps:List Pg) (m k:Int) (ds:List Int):Bool :=
 (shown ps m k).all (λd=>decide (d∈ds))&&(!(ds.any λd=>decide (d∈cz ps m k)||decide (d∈bL ps m k))&&ds.all λd=>decide (d+1∈ds)||(decide (d+1∈bL ps m k)||decide (d+1=31)))
theorem Rm (hl:ps.length<=1000) (hd:ds.length<=1000):uL [bD ps,.int m,.int k,lI ds] s=ok (.bl (nF ps m k ds)) s:=by
 refine Wp.eq ?_;unfold uL nF;simp only[VC];refine Wp.of (vQ hl) ?_;refine Wp.of (pV hl).2 ?_;refine Wp.of (pV hl).1 ?_
 try simp only[VC]
 refine Wp.of (gW (ds:=(shown ps m k).map D.int) rfl) ⟨lF (by rw[Y1];exact Zo rj hl),?_⟩;refine Wp.of (fx (λ_=>true) (λd=>.bl (decide (d∈ds))) (shown ps m k) λd _=>⟨[some (.int d),some (lI ds)],rfl,rfl,λ_=>?_⟩) ?_
 ·refine Wp.eq ?_
  simp only[VC,kE,and_self]
 rw[filter_tt];refine Wp.of (mr _ _ _) ?_;simp only[VC]
 cases h1:(shown ps m k).all λd=>decide (d∈ds) with
 |false=>simp
 |true =>
  simp only[if_true,Zw];refine Wp.of (gW (ds:=ds.map D.int) rfl) ⟨lF (by rw[Y1];exact hd),?_⟩;refine Wp.of (fx (λ_=>true) (λd=>.bl (decide (d∈cz ps m k)||decide (d∈bL ps m k))) ds λd _=>⟨[some (.int d),some (lI (cz ps m k)),some (lI (bL ps m k))],rfl,rfl,λ_=>?_⟩) ?_
  ·refine Wp.eq ?_
   simp only[VC,kE]
   cases decide (d∈cz ps m k)<;>simp
  rw[filter_tt];refine Wp.of (yP _ _ _) ?_;simp only[VC]
  cases h2:ds.any λd=>decide (d∈cz ps m k)||decide (d∈bL ps m k) with
  |true=>simp
  |false =>
   simp only[aas,if_true,Zw];refine Wp.of (gW (ds:=ds.map D.int) rfl) ⟨lF (by rw[Y1];exact hd),?_⟩;refine Wp.of (fx (λ_=>true) (λd=>.bl (decide (d+1∈ds)||(decide (d+1∈bL ps m k)||decide (d+1=31)))) ds λd _=>⟨[some (.int d),some (lI ds),some (lI (bL ps m k))],rfl,rfl,λ_=>?_⟩) ?_
   ·refine Wp.eq ?_
    simp only[VC,kE]
    cases decide (d+1∈ds) with
    |true=>simp
    |false=>cases decide (d+1∈bL ps m k)<;>simp[Bool.beq_eq_decide_eq]<;>rfl
   rw[filter_tt];exact Wp.of (mr _ _ _) ⟨rfl,rfl⟩
theorem zZ (p:Int->Bool):bW 8 (k8.filter p):=by
 have:bW 8 k8:=⟨λx hx=>mE.mp hx,by decide⟩;exact this.filter p
theorem rB:d∈cD↔0<=d/\d<31:=by
 unfold cD;rw[Zv];constructor
 ·rintro ⟨i,hi,rfl⟩
  rw[ZO] at hi;omega
 ·intro h
  exact⟨d.toNat,by rw[ZO];omega,by omega⟩
theorem rT {m k:Int} {ds:List Int} {G:Nat->Bool} (hd:mT ps) (e:∀d:Nat,d<=30->((d:Int)∈ds↔G d=true)) (jv:∀d∈ds,0<=d/\d<31) (h1:∀d,d<=30->sN ps m k d=true->G d=true) (h2:∀d,d<=30->G d=true->lN ps m k d=false/\mN ps m k d=false) (h3:∀d,d+1<=30->G d=true->mN ps m k (d+1)=false->G (d+1)=true):nF ps m k ds=true:=by
 unfold nF;simp only[Y3,Zu,decide_eq_true_eq,Z4,ab0,aa9,not_or];refine⟨λd h=>?_,λd h=>?_,λd h=>?_⟩
 ·have d0:=hd.of h
  have:=(e d.toNat (by omega)).mpr (h1 d.toNat (by omega) (by simp only[sN,decide_eq_true_eq];rw[show ((d.toNat:Nat):Int)=d by omega];exact h));rwa [show ((d.toNat:Nat):Int)=d by omega] at this
 ·have d0:=jv d h
  have z:=h2 d.toNat (by omega) ((e d.toNat (by omega)).mp (by rw[show ((d.toNat:Nat):Int)=d by omega];exact h));simp only[lN,mN,decide_eq_false_iff_not,show ((d.toNat:Nat):Int)=d by omega] at z;exact z
 ·have d0:=jv d h
  have e1:((d.toNat:Nat):Int)=d:=by omega
  have g:=(e d.toNat (by omega)).mp (by rw[e1];exact h);by_cases hl:d+1=31
  ·exact .inr (.inr hl)
  ·cases hm:mN ps m k (d.toNat+1) with
   |true =>
    simp only[mN,decide_eq_true_eq] at hm;rw[show ((d.toNat+1:Nat):Int)=d+1 by omega] at hm;exact .inr (.inl hm)
   |false =>
    have:=(e (d.toNat+1) (by omega)).mpr (h3 d.toNat (by omega) g hm);rw[show ((d.toNat+1:Nat):Int)=d+1 by omega] at this;exact .inl this
theorem Th:d∈wL F k↔(0<=d/\d<31)/\k∈F d:=by
 unfold wL;rw[ZG,rB,decide_eq_true_eq]
end DI
namespace DI
open PySem L2 TK
structure Lf (md:List Int) (b:Bool) (n:Nat) (ns:List Int):Prop where
 len:ns.length<=n
 lo:∀d∈ns,0<=d/\d<n/\d∉md
 on:∀d∈ns,d+1<n->d+1∉md->d+1∈ns
 la:0<n->(n:Int)-1∈ns->b=true
theorem Lf.put (h:Lf md b n ns) (hn:(n:Int)∉md):Lf md true (n+1) (ns++[(n:Int)]):=by
 refine⟨by rw[Zx,ac0];have:=h.len;omega,λd hd=>?_,λd hd h1 h2=>?_,λ_ _=>rfl⟩
 ·rcases Zq.mp hd with hd|hd
  ·have:=h.lo d hd
   exact⟨this.1,by omega,this.2.2⟩
  ·rw[Zs.mp hd]
   exact⟨by omega,by omega,hn⟩
 ·rcases Zq.mp hd with hd|hd
  ·by_cases e:d+1=n
   ·exact Zq.mpr (.inr (Zs.mpr e))
   ·exact Zq.mpr (.inl (h.on d hd (by omega) h2))
  ·rw[Zs.mp hd] at h1
   omega
theorem Lf.pass (h:Lf md b n ns) (hn:b=true->(n:Int)∈md):Lf md false (n+1) ns:=by
 refine⟨by have:=h.len;omega,λd hd=>?_,λd hd h1 h2=>?_,λ_ hd=>?_⟩
 ·have:=h.lo d hd
  exact⟨this.1,by omega,this.2.2⟩
 ·by_cases e:d+1=n
  ·exfalso
   have d0:=(h.lo d hd).1;have:=h.la (by omega) (by rw[show (n:Int)-1=d by omega];exact hd);exact h2 (by rw[e];exact hn this)
  ·exact h.on d hd (by omega) h2
 ·have:=h.lo _ hd
  omega
theorem Fe {j:Nat} {x:Int} {ns:List Int} (e:s[j]?=some (.lst (ns.map D.int))):dg (.int x) (.aj j) s=ok (.bl (!decide (x∈ns))) s:=by
 have h2:dg (.int x) (.aj j) s=dg (.int x) (lI ns) s:=by simp only[dg,lM,res,e]
 exact h2.trans nS
theorem GX (e:s[j]?=some (.lst (ns.map D.int))) (hn:ns.length<1000):gJ (.aj j) s=true/\gI (.aj j) (.int x) s=ok .aA (s.set j (.lst ((ns++[x]).map D.int))):=by
 refine⟨by simp only[gJ,e],?_⟩;unfold gI;simp only[e];rw[if_pos (by rw[decide_eq_true_eq,Y1];exact Y5 hn (le_size (by decide)))];simp
theorem N4 {k m:Nat} {md:List Int} (h:bP s k) (hm:s[m]?=some (.lst (md.map D.int))) (Kj:m≠k):Wp (pR [.aj k,.aj m] s) λd s'=>∃(ds:List Int) (b:Bool),d=lI ds/\Lf md b 31 ds/\bP s' k/\Ex k s s':=by
 unfold pR;rw[wp_fn];refine⟨rfl,?_⟩;rw[wp_sSeq];refine Wp.IL ?_
 try simp only[VC]
 refine(eY h (by decide) (by decide)).mono λd t1 mi=>?_;obtain⟨x1,rfl,gS,kQ,h1,e1⟩:=mi
 try simp only[VC]
 refine⟨by decide,?_⟩;have pC:t1.length≠k:=by have:=h1.lt;omega
 refine(eY (h1.app _) (by decide) (by decide)).mono λd t2 hd2=>?_;obtain⟨x2,rfl,CM,CN,h2,e2⟩:=hd2
 try simp only[VC]
 refine⟨_,_,_,rfl,?_⟩
 try simp only[VC]
 have xN:Ex k s t2:=e1.trans ((Ex.app k t1 _).trans e2);have i2:t2[t1.length]?=some (.lst (([]:List Int).map D.int)):=(e2.val t1.length (by simp) pC).trans (by simp);have hlen:s.length<=t1.length:=e1.len;refine Wp.of (eQ (n:=31) rfl (by decide)) ?_;have Xw:=(Y0.mp hm).1;have Xx:m≠t1.length:=by omega
 refine Wp.gL (λi env s'=>i<=31->∃b a5 ns,env=[some (.aj k),some (.aj m),some (.bl b),some (.aj t1.length),some (.int (2+x2)),a5]/\bP s' k/\s'[t1.length]?=some (.lst (ns.map D.int))/\Lf md b i ns/\s'[m]?=some (.lst (md.map D.int))/\Ex k s s') _ (λ_=>⟨_,_,[],rfl,h2,i2,⟨Nat.le_refl _,by simp,by simp,by simp⟩,(xN.val m Xw Kj).trans hm,xN⟩) (λi d env s' hd hI=>?_) (λenv s' hI=>?_)
 ·rw[gX] at hd
  split at hd
  ·rename_i hi
   cases hd;obtain⟨b,a5,ns,rfl,g1,g2,gl,g3,g4⟩:=hI (by omega);refine⟨_,rfl,?_⟩;simp only[VC,ac6];have fin:∀(c:Bool) (s2:ag),(c=true->(i:Int)∉md)->(c=false->b=true->(i:Int)∈md)->bP s2 k->s2[t1.length]?=some (.lst (ns.map D.int))->s2[m]?=some (.lst (md.map D.int))->Ex k s s2 ->
     if c=true then gJ (.aj t1.length) s2=true/\Wp (gI (.aj t1.length) (.int (i:Int)) s2) λx s3=>i+1<=31->∃b a5 ns,([some (.aj k),some (.aj m),some (.bl c),some (.aj t1.length),some (.int (2+x2)),some (.int (i:Int))]:Env)=[some (.aj k),some (.aj m),some (.bl b),some (.aj t1.length),some (.int (2+x2)),a5]/\bP s3 k/\s3[t1.length]?=some (.lst (ns.map D.int))/\Lf md b (i+1) ns/\s3[m]?=some (.lst (md.map D.int))/\Ex k s s3
     else i+1<=31->∃b a5 ns,([some (.aj k),some (.aj m),some (.bl c),some (.aj t1.length),some (.int (2+x2)),some (.int (i:Int))]:Env)=[some (.aj k),some (.aj m),some (.bl b),some (.aj t1.length),some (.int (2+x2)),a5]/\bP s2 k/\s2[t1.length]?=some (.lst (ns.map D.int))/\Lf md b (i+1) ns/\s2[m]?=some (.lst (md.map D.int))/\Ex k s s2:=λc s2 c1 c2 k1 k2 k3 k4=>by
    cases c with
    |true =>
     obtain⟨q1,q2⟩:=GX (x:=(i:Int)) k2 (by have:=gl.len;omega);rw[if_pos rfl];exact⟨q1,Wp.of q2 λ_=>⟨_,_,_,rfl,k1.set pC _,Zi (Y0.mp k2).1,gl.put (c1 rfl),(Ze (abe Xx)).trans k3,k4.pA hlen _⟩⟩
    |false =>
     rw[if_neg Y7];exact λ_=>⟨_,_,_,rfl,k1,k2,gl.pass (c2 rfl),k3,k4⟩
   cases b with
   |true =>
    simp only[if_true];refine Wp.of (Fe (x:=(i:Int)) g3) ?_;simp only[wp_truB];exact fin _ s' (by simp) (by simp) g1 g2 g3 g4
   |false =>
    simp only[Y2,if_false];refine(eY g1 (by omega) (by omega)).mono λd s2 hd2=>?_;obtain⟨x3,rfl,_,_,k1,e3⟩:=hd2;have k2:=(e3.val _ (Y0.mp g2).1 pC).trans g2;have k3:=(e3.val _ (Y0.mp g3).1 Kj).trans g3;have k4:=g4.trans e3;simp only[wp_eqI,wp_isBl]
    cases (x3==0) with
    |true =>
     simp only[if_true];refine Wp.of (Fe (x:=(i:Int)) k3) ?_;simp only[wp_truB];exact fin _ s2 (by simp) (λ_ z=>by cases z) k1 k2 k3 k4
    |false =>
     simp only[Y2,if_false,wp_truB];exact fin false s2 (λz=>by cases z) (λ_ z=>by cases z) k1 k2 k3 k4
  ·cases hd
 ·rw[df] at hI
  obtain⟨b,a5,ns,rfl,g1,z1,gl,g3,g4⟩:=hI (Nat.le_refl _);simp only[VC];refine Wp.of (show cE (.aj t1.length) s'=ok (lI ns) (s'.set t1.length .dead) from by simp only[cE,z1]) ?_;exact⟨ns,b,rfl,gl,g1.set pC _,g4.pA hlen _⟩
end DI
namespace DI
open PySem L2 TK
def dU (W:World) (R T:Pg->Prop) (s:ag) (j n:Nat):Prop:=∃ps:List Pg,s[j]?=some (.dT (ps.map λp=>(p.d,hs W p.d)))/\(ps.Nodup/\(∀p∈ps,R p)/\∀p,T p->p∈ps)/\ps.length<=n
section
variable {W:World} {R T:Pg->Prop} {s s':ag} {j n k:Nat}
theorem dU.lt (h:dU W R T s j n):j<s.length:=by
 obtain⟨ps,e,_⟩:=h;exact(Y0.mp e).1
theorem dU.ex (h:dU W R T s j n) (x:Ex k s s') (hj:j≠k):dU W R T s' j n:=by
 have hl:=h.lt;obtain⟨ps,e,r⟩:=h;exact⟨ps,(x.val j hl hj).trans e,r⟩
theorem dU.more (h:dU W R T s j n) (hm:n<=m):dU W R T s j m:=by
 obtain⟨ps,e,r,l⟩:=h;exact⟨ps,e,r,by omega⟩
theorem dU.set (h:dU W R T s j n) (hi:i≠j) (c:Cell):dU W R T (s.set i c) j n:=by
 obtain⟨ps,e,r⟩:=h;exact⟨ps,by rw[Ze hi];exact e,r⟩
theorem dU.mono (h:dU W R T s j n) (hR:∀p,R p->R' p) (hT:∀p,T' p->T p):dU W R' T' s j n:=by
 obtain⟨ps,e,r,l⟩:=h;exact⟨ps,e,⟨r.1,λp hp=>hR p (r.2.1 p hp),λp hp=>r.2.2 p (hT p hp)⟩,l⟩
theorem zr (h:dU W R T s j n) (hf:R p) (hn:n<1000):∃c,jX W (.aj j) p.d (.bl true) s=some (s.set j c)/\dU W R (λq=>T q\/q=p) (s.set j c) j (n+1):=by
 have hl:=h.lt;obtain⟨ps,e,cw,len⟩:=h;obtain⟨ks,ep,k1,k2⟩:=jE p;have sE:=HQ W ps;generalize hk:(ps.map λp=>(p.d,hs W p.d))=ao at e sE;have kl:ao.length=ps.length:=by rw[<- hk,Y1]
 refine⟨.dT (TK.fK W ao (.tup ks)),?_,?_⟩
 ·rw[ep]
  unfold jX;simp only[e];rw[if_pos];rw[k1,decide_eq_true k2,sE,decide_eq_true (Y5 (show ao.length<1000 by omega) (le_size (by decide)))];rfl
 ·unfold TK.fK
  split
  ·rename_i hy
   obtain⟨kv,h1,h2⟩:=aaX.mp hy;rw[<- hk] at h1;obtain⟨q,hq,rfl⟩:=Zv.mp h1;have eq:q=p:=Pg.IG ((qc _ _ (jI q) (jI p)).mp (by rw[ep];exact h2));subst eq;exact⟨ps,by rw[hk];exact Zi hl,⟨cw.1,cw.2.1,λq' CO=>by
    rcases CO with CO|rfl
    ·exact cw.2.2 q' CO
    ·exact hq⟩,by omega⟩
  ·rename_i oR
   refine⟨ps++[p],?_,⟨abY.mpr ⟨cw.1,by simp,λa ha b hb=>?_⟩,λq hq=>?_,λq hq=>?_⟩,by simp;omega⟩
   ·rw[Zi hl,Z3,hk]
    simp only[Zl,aaL,ep]
   ·rw[Zs.mp hb]
    rintro rfl;refine oR (aaX.mpr ⟨(a.d,hs W a.d),?_,?_⟩)
    ·rw[<- hk];exact Zv.mpr ⟨a,ha,rfl⟩
    ·rw[<- ep];exact(qc _ _ (jI a) (jI a)).mpr rfl
   ·rcases Zq.mp hq with hq|hq
    ·exact cw.2.1 q hq
    ·rw[Zs.mp hq];exact hf
   ·rcases hq with hq|rfl
    ·exact Zq.mpr (.inl (cw.2.2 q hq))
    ·exact Zq.mpr (.inr (Zs.mpr rfl))
theorem dU.plain (h:dU W R T s j n):fe W R s j n:=by
 obtain⟨ps,e,r,l⟩:=h;exact⟨ps,e,⟨r.1,r.2.1⟩,l⟩
end
end DI
namespace DI
open PySem L2 TK
structure BJ (W:World) (k j b n:Nat) (s0 s:ag) (M:Nat->List Int) (R T:Pg->Prop):Prop where
 st:bP s k
 dict:dU W R T s j n
 aM:∀i,i<8->s[b+i]?=some (.lst ((M i).map D.int))
 ext:Ex k s0 s
section
variable {W:World} {k j b n:Nat} {s0 s:ag} {M:Nat->List Int} {R T:Pg->Prop}
theorem BJ.draw (h:BJ W k j b n s0 s M R T) (hj:j≠k) (hb:∀i,i<8->b+i≠k) (x:Ex k s s') (hs:bP s' k):BJ W k j b n s0 s' M R T :=
 ⟨hs,h.dict.ex x hj,λi hi=>(x.val _ (Y0.mp (h.aM i hi)).1 (hb i hi)).trans (h.aM i hi),h.ext.trans x⟩
theorem BJ.put (h:BJ W k j b n s0 s M R T) (hj:j≠k) (kf:∀i,i<8->b+i≠j) (hl:s0.length<=j) (hf:R p) (hn:n<1000):∃s',jX W (.aj j) p.d (.bl true) s=some s'/\BJ W k j b (n+1) s0 s' M R (λq=>T q\/q=p)/\Ex j s s':=by
 obtain⟨c,e,d⟩:=zr h.dict hf hn;exact⟨_,e,⟨h.st.set hj c,d,λi hi=>(Ze (abe (kf i hi))).trans (h.aM i hi),h.ext.pA hl c⟩,Ex.set j s c⟩
theorem MR (h:BJ W k j b n s0 s M R T) (hj:j≠k) (hb:∀i,i<8->b+i≠k) (kf:∀i,i<8->b+i≠j) (hl:s0.length<=j) (Xy:s0.length<=b) (hn:n<1000) (hq:∀i,i<8->(M i).length<1000)
 (g:∀(x:Nat) (d:Int) (b8 b9:Option D) (s':ag),x<8->0<=d/\d<31->(∀{R':Pg->Prop},(∀p,R p->R' p)->R' (.aM mu d x)->BJ W k j b (n+1) s0 s' (λi=>if i=x then M i++[d] else M i) R' (λq=>T q\/q=.aM mu d x))->(∀t,t<s.length->t≠k->t≠j->(∀i,i<8->b+i≠t)->s'[t]?=s[t]?)->Q (.nx [some (.aj k),some (.aj j),some (.int mo),some (.int of),some (.int mu),some (memD b),a6,a7,b8,b9,nG,nH]) s') :
  Wp ((az (aP (bB (ae (aC bX (ae (aa 0) (ae (eC (.int 8)) ai))) (ae (aC bX (ae (aa 0) (ae (eC (.int 31)) ai))) ai))) (gT [(gN 8),(gN 9)])) (az (dI (fJ (e2 aq (aa 5) (aa 8)) (aa 9))) (TK.lP W (eC (.bl true)) (aa 1) (bB (ae (eC (.str "mended")) (ae (aa 4) (ae (aa 9) (ae (aa 8) ai)))))))) [some (.aj k),some (.aj j),some (.int mo),some (.int of),some (.int mu),some (memD b),a6,a7,a8,a9,nG,nH] s) Q:=by
 simp only[VC];refine(eY h.st (by decide) (by decide)).mono λd t1 mi=>?_;obtain⟨x1,rfl,gS,kQ,h1,e1⟩:=mi;refine(eY h1 (by decide) (by decide)).mono λd t2 hd2=>?_;obtain⟨x2,rfl,CM,CN,h2,e2⟩:=hd2;refine⟨by decide,?_⟩
 try simp only[VC]
 refine Wp.of (HR gS kQ) ?_;obtain⟨y,rfl⟩:∃y:Nat,x1=y:=⟨x1.toNat,by omega⟩;rw[ZD];have hy:y<8:=by omega
 have B2:=h.draw hj hb (e1.trans e2) h2;obtain⟨q1,q2⟩:=GX (x:=x2) (B2.aM y hy) (hq y hy);refine⟨q1,Wp.of q2 ?_⟩;have hx:=hb y hy;have Xz:=kf y hy
 have B3:BJ W k j b n s0 (t2.set (b+y) (.lst ((M y++[x2]).map D.int))) (λi=>if i=y then M i++[x2] else M i) R T:=⟨B2.st.set hx _,B2.dict.set Xz _,λi hi=>by
  by_cases ma:i=y
  ·subst ma
   rw[if_pos rfl];exact Zi (Y0.mp (B2.aM i hi)).1
  ·rw[if_neg ma,Ze (by omega)]
   exact B2.aM i hi,B2.ext.pA (by omega) _⟩
 rw[GP];simp only[VC];refine⟨by decide,?_⟩;obtain⟨c,ec,dc⟩:=zr (p:=.aM mu x2 y) (R:=λ_=>True) (T:=T) (B3.dict.mono (λ_ _=>trivial) λ_ h=>h) trivial hn;refine⟨_,ec,g y x2 _ _ _ hy ⟨CM,CN⟩ (λ{R'} hR hp=>?_) λt ht JD XA XB=>?_⟩
 ·obtain⟨c',XC,XD⟩:=zr (p:=.aM mu x2 y) (R:=R') (T:=T) (B3.dict.mono hR λ_ h=>h) hp hn
  have eq:=Option.some.inj (ec.symm.trans XC);rw[eq];exact⟨B3.st.set hj c',XD,λi hi=>(Ze (abe (kf i hi))).trans (B3.aM i hi),B3.ext.pA hl c'⟩
 ·have l2:s.length<=t2.length:=(e1.trans e2).len
  rw[Ze (abe XA),Ze (XB _ hy),(e1.trans e2).val t ht JD]
end
end DI
namespace DI
open PySem L2 TK
noncomputable abbrev iq (L:Nat->List Int) (n:Nat):List D:=(Zk n).map λx=>lI (L x)
section
variable {W:World} {k j b n:Nat} {s0 s:ag} {M L:Nat->List Int} {R T:Pg->Prop}
theorem MS (h:BJ W k j b n s0 s M R T) (hL:s[b+8]?=some (.lst (iq L i))) (hi:i<8) (hj:j≠k) (hb:∀i,i<8->b+i≠k) (kg:b+8≠k) (pE:b+8≠j) (Xy:s0.length<=b)
 (g:∀(ds:List Int) (c:Bool) s',Lf (M i) c 31 ds->BJ W k j b n s0 s' M R T->s'[b+8]?=some (.lst (iq (λx=>if x=i then ds else L x) (i+1)))->Q (.nx [some (.aj k),some (.aj j),some (.int mo),some (.int of),some (.int mu),some (memD b),some (.aj (b+8)),a7,some (.int i),a9,nG,nH]) s') :
  Wp ((dI (fJ (aa 6) (aC pR (ae (aa 0) (ae (e2 aq (aa 5) (aa 8)) ai))))) [some (.aj k),some (.aj j),some (.int mo),some (.int of),some (.int mu),some (memD b),some (.aj (b+8)),a7,some (.int i),a9,nG,nH] s) Q:=by
 simp only[VC];refine⟨by simp only[gJ,hL],?_⟩;refine Wp.of (HR (i:=(i:Int)) (by omega) (by omega)) ?_;rw[ZD];refine(N4 h.st (h.aM i hi) (hb i hi)).mono λd t1 hd=>?_;obtain⟨ds,c,rfl,lf,h1,e1⟩:=hd;have B1:=h.draw hj hb e1 h1;have xx:t1[b+8]?=some (.lst (iq L i)):=(e1.val _ (Y0.mp hL).1 kg).trans hL
 have ap:gI (.aj (b+8)) (lI ds) t1=ok .aA (t1.set (b+8) (.lst (iq (λx=>if x=i then ds else L x) (i+1)))):=by
  unfold gI;simp only[xx];rw[if_pos (by rw[decide_eq_true_eq,Y1,aaS];exact Y5 (show i<1000 by omega) (le_size (by decide)))];congr 4;unfold iq;rw[acF,Z3];congr 1
  ·refine acn λx hx=>?_
   rw[ZO] at hx
   show lI (L x)=lI (if x=i then ds else L x)
   rw[if_neg (by omega)]
  ·simp
 refine Wp.of ap (g ds c _ lf ⟨B1.st.set kg _,B1.dict.set pE _,λi hi=>(Ze (by omega)).trans (B1.aM i hi),B1.ext.pA (by omega) _⟩ (Zi (Y0.mp xx).1))
theorem MT (h:BJ W k j b n s0 s M R T) (hL:s[b+8]?=some (.lst (iq L 8))) (hj:j≠k) (hb:∀i,i<8->b+i≠k) (kg:b+8≠k) (kf:∀i,i<8->b+i≠j) (pE:b+8≠j) (hl:s0.length<=j) (hn:n<1000) (o1:0<of) (o2:of<=3) (xO:0<=mu/\mu<4)
 (hR:∀(d:Int) (u v:List Int),eh (.made mu d u v)=true->(∀x∈u,d∈L x.toNat)->(∀x∈v,d∉L x.toNat)->R (.made mu d u v))
 (g:∀(b9 fO fP:Option D) (s':ag),BJ W k j b (n+1) s0 s' M R T->s'[b+8]?=some (.lst (iq L 8))->Q (.nx [some (.aj k),some (.aj j),some (.int mo),some (.int of),some (.int mu),a5,some (.aj (b+8)),a7,a8,b9,fO,fP]) s') :
  Wp ((az (aP (aC bX (ae (aa 0) (ae (eC (.int 31)) ai))) (gN 9)) (az (aP (ba 1 [0,3] (cb (ae (eC (.int 8)) ai)) (gN 0) (aE (e2 aT (aC bX (ae (aa 1) (ae (aa 2) ai))) (eC (.int 0)))) (aa 0)) (gN 10)) (az (aP (eB cj (ae (ba 1 [9,6] (bh (aa 10)) (gN 0) (aE (e2 bN (aa 1) (e2 aq (aa 2) (aa 0)))) (aa 0)) ai)) (gN 11)) (TK.lP W (eC (.bl true)) (aa 1) (bB (ae (eC (.str "made")) (ae (aa 4) (ae (aa 9) (ae (bB (ae (aa 11) (ae (eB cj (ae (ba 1 [9,6] (bh (aa 10)) (gN 0) (aE (e2 dg (aa 1) (e2 aq (aa 2) (aa 0)))) (aa 0)) ai)) ai))) ai))))))))) [some (.aj k),some (.aj j),some (.int mo),some (.int of),some (.int mu),a5,some (.aj (b+8)),a7,a8,a9,nG,nH] s) Q:=by
 rw[wp_sSeq];simp only[VC];refine(eY h.st (by decide) (by decide)).mono λd t1 mi=>?_;obtain⟨x1,rfl,gS,kQ,h1,e1⟩:=mi;have B1:=h.draw hj hb e1 h1;have L1:t1[b+8]?=some (.lst (iq L 8)):=(e1.val _ (Y0.mp hL).1 kg).trans hL
 try simp only[VC]
 refine Wp.of (eQ (n:=8) rfl (by decide)) ⟨by rw[df];exact le_size (by decide),?_⟩;have seen:Wp (fB 1 (gF [0,3] [some (.aj k),some (.aj j),some (.int mo),some (.int of),some (.int mu),a5,some (.aj (b+8)),a7,a8,some (.int x1),nG,nH]) (gN 0) (aE (e2 aT (aC bX (ae (aa 1) (ae (aa 2) ai))) (eC (.int 0)))) (aa 0) (cg 0 8) t1)
   λxs s'=>∃ns:List Int,xs=ns.map D.int/\(∀x∈ns,0<=x/\x<8)/\(ns.Pairwise (· < ·)/\ns.length<=8)/\BJ W k j b n s0 s' M R T/\s'[b+8]?=some (.lst (iq L 8)):=by
  refine vO (λi acc s'=>i<=8->∃ns:List Int,acc=ns.map D.int/\(∀x∈ns,0<=x/\x<8/\x<i)/\(ns.Pairwise (· < ·)/\ns.length<=i)/\BJ W k j b n s0 s' M R T/\s'[b+8]?=some (.lst (iq L 8))) (cg 0 8) (λ_=>⟨[],rfl,by simp,⟨.nil,Nat.le_refl _⟩,B1,L1⟩) (λi d acc s' hd hI=>?_) λacc s' hI=>?_
  ·rw[gX] at hd
   split at hd
   ·rename_i hi
    cases hd;obtain⟨ns,rfl,m1,⟨xP,m2⟩,B,L'⟩:=hI (by omega);refine⟨[some (.int (0+i)),some (.aj k),some (.int of)],rfl,?_⟩;simp only[VC];refine(eY B.st o1 (by omega)).mono λd t2 hd2=>?_;obtain⟨x2,rfl,_,_,h2,e2⟩:=hd2
    try simp only[VC]
    have B':=B.draw hj hb e2 h2;have L2:t2[b+8]?=some (.lst (iq L 8)):=(e2.val _ (Y0.mp L').1 kg).trans L';split
    ·exact λ_=>⟨ns++[0+(i:Int)],by simp,λx hx=>by
      rcases Zq.mp hx with hx|hx
      ·have:=m1 x hx;omega
      ·rw[Zs.mp hx];omega,⟨ac9.mpr ⟨xP,abF _ _,λa ha b hb=>by rw[Zs.mp hb];have:=m1 a ha;omega⟩,by simp;omega⟩,B',L2⟩
    ·exact λ_=>⟨ns,rfl,λx hx=>by have:=m1 x hx;omega,⟨xP,by omega⟩,B',L2⟩
   ·cases hd
  ·rw[df] at hI
   obtain⟨ns,e,m1,r⟩:=hI (Nat.le_refl _);exact⟨ns,e,λx hx=>⟨(m1 x hx).1,(m1 x hx).2.1⟩,r⟩
 refine seen.mono λxs t2 hx=>?_;obtain⟨ns,rfl,m1,⟨xP,m2⟩,B2,le⟩:=hx;have mk:bW 8 ns:=⟨m1,xP⟩
 try simp only[VC]
 have Kk:∀x∈ns,aq (.aj (b+8)) (.int x) t2=ok (lI (L x.toNat)) t2:=λx hx=>by
  have:=m1 x hx;simp only[aq,ic,res,le,iq,vU (n:=8) this.1 (by omega),bF]
 refine Wp.of (gW (ds:=ns.map D.int) rfl) ⟨lF (by rw[Y1];omega),?_⟩;refine Wp.of (fx (λx=>decide (x1∈L x.toNat)) (λx=>.int x) ns λx hx=>⟨[some (.int x),some (.int x1),some (.aj (b+8))],rfl,?_,λ_=>rfl⟩) ?_
 ·refine Wp.eq ?_
  simp only[VC];refine Wp.of (Kk x hx) ?_;simp only[VC,kE,and_self]
 refine Wp.of (show cj [.lst ((ns.filter λx=>decide (x1∈L x.toNat)).map λx=>.int x)] t2=ok (mD (ns.filter λx=>decide (x1∈L x.toNat))) t2 from rfl) ?_;rw[GP];simp only[VC];refine Wp.of (gW (ds:=ns.map D.int) rfl) ⟨lF (by rw[Y1];omega),?_⟩;refine Wp.of (fx (λx=>!decide (x1∈L x.toNat)) (λx=>.int x) ns λx hx=>⟨[some (.int x),some (.int x1),some (.aj (b+8))],rfl,?_,λ_=>rfl⟩) ?_
 ·refine Wp.eq ?_
  simp only[VC];refine Wp.of (Kk x hx) ?_;simp only[VC,nS,and_self]
 refine Wp.of (show cj [.lst ((ns.filter λx=>!decide (x1∈L x.toNat)).map λx=>.int x)] t2=ok (mD (ns.filter λx=>!decide (x1∈L x.toNat))) t2 from rfl) ?_;refine⟨by decide,by decide,?_⟩;obtain⟨s',e,B4,e4⟩:=B2.put hj kf hl (p:=.made mu x1 (ns.filter λx=>decide (x1∈L x.toNat)) (ns.filter λx=>!decide (x1∈L x.toNat))) (hR x1 _ _ (N0 xO ⟨gS,kQ⟩ (mk.filter _) (mk.filter _) (Nat.le_refl _) λx hx hl=>by simpa [(ZG.mp hx).2] using (ZG.mp hl).2) (λx hx=>by simpa using (ZG.mp hx).2) (λx hx=>by simpa using (ZG.mp hx).2)) hn;exact⟨s',e,g _ _ _ _ ⟨B4.st,B4.dict.mono (λ_ h=>h) (λ_ h=>.inl h),B4.aM,B4.ext⟩ ((e4.val _ (Y0.mp le).1 pE).trans le)⟩
end
end DI
namespace DI
open PySem L2 TK
def xQ (mu:Int) (M:Nat->List Int) (p:Pg):Prop:=eh p=true/\∃(d:Int) (x:Nat),x<8/\p=.aM mu d x/\d∈M x
noncomputable def XE (mu:Int) (M L:Nat->List Int):Pg->Prop
 | .aM m d k=>m=mu/\d∈M k.toNat
 | .made m d u v=>m=mu/\(∀x∈u,d∈L x.toNat)/\∀x∈v,d∉L x.toNat
def Ag (mu:Int) (M L:Nat->List Int) (p:Pg):Prop:=eh p=true/\XE mu M L p
theorem L0 (h:bP s k) (hd:dU W R0 T0 s j n) (x0:Ex k s0 s) (hj:j≠k) (hl:s0.length<=j) (hn:n<900) (o1:0<of) (o2:of<=3) (xO:0<=mu/\mu<4)
 (g:∀(b5 b6 b7 b8 b9 fO fP:Option D) (s':ag) (M L:Nat->List Int),(∀x,x<8->∃c,Lf (M x) c 31 (L x))->bP s' k->dU W (λp=>R0 p\/Ag mu M L p) (λq=>T0 q\/∃(x:Nat) (d:Int),x<8/\d∈M x/\q=.aM mu d x) s' j (n+7)->Ex k s0 s'->Q (.nx [some (.aj k),some (.aj j),some (.int mo),some (.int of),some (.int mu),b5,b6,b7,b8,b9,fO,fP]) s') :
  Wp ((az (aP (bB (ae (ba 1 [] (cb (ae (eC (.int 8)) ai)) (gN 0) cC (eNew ai)) (ae (eNew ai) ai))) (gT [(gN 5),(gN 6)])) (az (dh (cb (ae (aC bX (ae (aa 0) (ae (eC (.int 4)) ai))) ai)) (gN 7) (az (aP (bB (ae (aC bX (ae (aa 0) (ae (eC (.int 8)) ai))) (ae (aC bX (ae (aa 0) (ae (eC (.int 31)) ai))) ai))) (gT [(gN 8),(gN 9)])) (az (dI (fJ (e2 aq (aa 5) (aa 8)) (aa 9))) (TK.lP W (eC (.bl true)) (aa 1) (bB (ae (eC (.str "mended")) (ae (aa 4) (ae (aa 9) (ae (aa 8) ai))))))))) (az (dh (cb (ae (eC (.int 8)) ai)) (gN 8) (dI (fJ (aa 6) (aC pR (ae (aa 0) (ae (e2 aq (aa 5) (aa 8)) ai)))))) (dh (cb (ae (aC bX (ae (aa 0) (ae (eC (.int 5)) ai))) ai)) (gN 7) (az (aP (aC bX (ae (aa 0) (ae (eC (.int 31)) ai))) (gN 9)) (az (aP (ba 1 [0,3] (cb (ae (eC (.int 8)) ai)) (gN 0) (aE (e2 aT (aC bX (ae (aa 1) (ae (aa 2) ai))) (eC (.int 0)))) (aa 0)) (gN 10)) (az (aP (eB cj (ae (ba 1 [9,6] (bh (aa 10)) (gN 0) (aE (e2 bN (aa 1) (e2 aq (aa 2) (aa 0)))) (aa 0)) ai)) (gN 11)) (TK.lP W (eC (.bl true)) (aa 1) (bB (ae (eC (.str "made")) (ae (aa 4) (ae (aa 9) (ae (bB (ae (aa 11) (ae (eB cj (ae (ba 1 [9,6] (bh (aa 10)) (gN 0) (aE (e2 dg (aa 1) (e2 aq (aa 2) (aa 0)))) (aa 0)) ai)) ai))) ai))))))))))))) [some (.aj k),some (.aj j),some (.int mo),some (.int of),some (.int mu),a5,a6,a7,a8,a9,nG,nH] s) Q:=by
 have hk:=h.lt;have YS:=hd.lt;have ng:s0.length<=s.length:=x0.len;rw[wp_sSeq];simp only[wp_sAsg,wp_tup,wp_aCons,wp_aNil];refine Ra ?_;simp only[wp_new,wp_aNil];refine⟨by decide,le_size (by simp only[Zz,ZY];decide),?_⟩;simp only[asg_T,asg_cons,asg_nil,Z8,Z9,aft_nx];generalize gw:s++Za 8 (Cell.lst [])++[Cell.lst []]=s1;have XF:(s++Za 8 (Cell.lst [])).length=s.length+8:=by simp
 rw[XF];have e1:Ex k s s1:=by rw[<- gw,aax];exact Ex.app k s _
 have B1:BJ W k j s.length n s0 s1 (λ_=>[]) R0 T0:=by
  refine⟨by rw[<- gw,aax];exact h.app _,hd.ex e1 hj,λi hi=>?_,x0.trans e1⟩;rw[<- gw,aax,ZK (by omega),Zm (by simp;omega),show s.length+i-s.length=i by omega,aaq,if_pos hi];rfl
 have L1:s1[s.length+8]?=some (.lst []):=by rw[<- gw,ZK (by simp)];simp
 have hb:∀i,i<8->s.length+i≠k:=λi _=>by omega
 have kf:∀i,i<8->s.length+i≠j:=λi _=>by omega
 have kg:s.length+8≠k:=by omega
 have pE:s.length+8≠j:=by omega
 rw[wp_sSeq,wp_sFor];obtain⟨_,t1,et,x1,rfl,gS,kQ,h1,Kl⟩:=eY (m:=4) B1.st (by decide) (by decide);refine Wp.of (zm (s1:=t1) (n:=x1.toNat) (i:=x1) (Wp.eq (by simp only[VC];exact Wp.of et ⟨rfl,rfl⟩)) (by omega) (by omega)) ?_;have B2:=B1.draw hj hb Kl h1;have L2:t1[s.length+8]?=some (.lst []):=(Kl.val _ (Y0.mp L1).1 kg).trans L1;have XG:BJ W k j s.length n s0 t1 (λ_=>[]) (λp=>R0 p\/xQ mu (λ_=>[]) p) (λq=>T0 q\/∃(x:Nat) (d:Int),x<8/\d∈(λ_=>([]:List Int)) x/\q=.aM mu d x) :=
  ⟨B2.st,B2.dict.mono (λ_ h=>.inl h) (λq hq=>by rcases hq with hq | ⟨x,d,_,hd,_⟩;exact hq;exact(Z5 hd).elim),B2.aM,B2.ext⟩
 refine Wp.gL (λi env s'=>i<=x1.toNat->∃b7 b8 b9 fO fP M,env=[some (.aj k),some (.aj j),some (.int mo),some (.int of),some (.int mu),some (memD s.length),some (.aj (s.length+8)),b7,b8,b9,fO,fP]/\(∀x,x<8->(M x).length<=i)/\BJ W k j s.length (n+i) s0 s' M (λp=>R0 p\/xQ mu M p) (λq=>T0 q\/∃(x:Nat) (d:Int),x<8/\d∈M x/\q=.aM mu d x)/\s'[s.length+8]?=some (.lst [])) _ (λ_=>⟨_,_,_,_,_,_,rfl,λ_ _=>Nat.le_refl _,XG,L2⟩) (λi d env s' hd hI=>?_) (λenv s' hI=>?_)
 ·rw[gX] at hd
  split at hd
  ·cases hd
   obtain⟨b7,b8,b9,fO,fP,M,rfl,ml,B,L⟩:=hI (by omega);refine⟨_,rfl,?_⟩
   refine MR B hj hb kf hl ng (by omega) (λx hx=>by have:=ml x hx;omega) λx d c8 c9 s2 hx hd B' keep=>(λ_=>⟨_,_,_,_,_,λi=>if i=x then M i++[d] else M i,rfl,λy hy=>?_,?_,(keep _ (Y0.mp L).1 kg pE λi hi=>by omega).trans L⟩)
   ·have:=ml y hy
    show (if y=x then M y++[d] else M y).length<=i+1
    split
    ·rw[Zx,ac0];omega
    ·omega
   ·have sub:∀y e,e∈M y->e∈(if y=x then M y++[d] else M y):=λy e he=>by
     split
     ·exact Zq.mpr (.inl he)
     ·exact he
    have xR:=B' (R':=λp=>R0 p\/xQ mu (λi=>if i=x then M i++[d] else M i) p) (λp hp=>by
     rcases hp with hp | ⟨h1,e,y,h2,h3,h4⟩
     ·exact .inl hp
     ·exact .inr ⟨h1,e,y,h2,h3,sub y e h4⟩) (.inr ⟨NZ xO hd (by omega),d,x,hx,rfl,by show d∈(if x=x then M x++[d] else M x);rw[if_pos rfl];simp⟩)
    exact⟨xR.st,xR.dict.mono (λ_ h=>h) (λq hq=>by
     rcases hq with hq | ⟨y,e,h1,h2,h3⟩
     ·exact .inl (.inl hq)
     ·have h5:e∈(if y=x then M y++[d] else M y):=h2
      by_cases pf:y=x
      ·rw[if_pos pf] at h5
       rcases Zq.mp h5 with h6|h6
       ·exact .inl (.inr ⟨y,e,h1,h6,h3⟩)
       ·rw[Zs.mp h6,pf] at h3
        exact .inr h3
      ·rw[if_neg pf] at h5
       exact .inl (.inr ⟨y,e,h1,h5,h3⟩)),xR.aM,xR.ext⟩
  ·cases hd
 rw[df] at hI;obtain⟨b7,b8,b9,fO,fP,M,rfl,ml,B3,L3⟩:=hI (Nat.le_refl _);rw[aft_nx,wp_sSeq,wp_sFor];refine Wp.of (eQ (n:=8) rfl (by decide)) ?_;refine Wp.gL (λi env s'=>i<=8->∃b7 b8 b9 fO fP L,env=[some (.aj k),some (.aj j),some (.int mo),some (.int of),some (.int mu),some (memD s.length),some (.aj (s.length+8)),b7,b8,b9,fO,fP]/\(∀x,x<i->∃c,Lf (M x) c 31 (L x))/\BJ W k j s.length (n+x1.toNat) s0 s' M (λp=>R0 p\/xQ mu M p) (λq=>T0 q\/∃(x:Nat) (d:Int),x<8/\d∈M x/\q=.aM mu d x)/\s'[s.length+8]?=some (.lst (iq L i))) _ (λ_=>⟨_,_,_,_,_,λ_=>[],rfl,λx hx=>(Nat.not_lt_zero x hx).elim,B3,L3⟩) (λi d env s' hd hI=>?_) (λenv s' hI=>?_)
 ·rw[gX] at hd
  split at hd
  ·rename_i hi
   cases hd;obtain⟨b7,b8,b9,fO,fP,L,rfl,lf,B,hL⟩:=hI (by omega);refine⟨_,rfl,?_⟩;simp only[ac6,Z8,Z9]
   refine MS B hL hi hj hb kg pE ng λds c s2 l2 B' L'=>(λ_=>⟨_,_,_,_,_,λx=>if x=i then ds else L x,rfl,λx hx=>?_,B',L'⟩)
   by_cases Km:x=i
   ·subst Km
    exact⟨c,by show Lf (M x) c 31 (if x=x then ds else L x);rw[if_pos rfl];exact l2⟩
   ·obtain⟨c,l⟩:=lf x (by omega)
    exact⟨c,by show Lf (M x) c 31 (if x=i then ds else L x);rw[if_neg Km];exact l⟩
  ·cases hd
 rw[df] at hI;obtain⟨b7,b8,b9,fO,fP,L,rfl,lf,xS,L4⟩:=hI (Nat.le_refl _);have B4:BJ W k j s.length (n+x1.toNat) s0 s' M (λp=>R0 p\/Ag mu M L p) (λq=>T0 q\/∃(x:Nat) (d:Int),x<8/\d∈M x/\q=.aM mu d x):=⟨xS.st,xS.dict.mono (λp hp=>by
  rcases hp with hp | ⟨h1,e,y,h2,rfl,h4⟩
  ·exact .inl hp
  ·exact .inr ⟨h1,rfl,by rw[ZD];exact h4⟩) (λ_ h=>h),xS.aM,xS.ext⟩
 rw[aft_nx,wp_sFor];obtain⟨_,t5,XH,x5,rfl,YT,YU,h5,Ko⟩:=eY (m:=5) B4.st (by decide) (by decide);refine Wp.of (zm (s1:=t5) (n:=x5.toNat) (i:=x5) (Wp.eq (by simp only[VC];exact Wp.of XH ⟨rfl,rfl⟩)) (by omega) (by omega)) ?_;have B5:=B4.draw hj hb Ko h5;have L5:t5[s.length+8]?=some (.lst (iq L 8)):=(Ko.val _ (Y0.mp L4).1 kg).trans L4;refine Wp.gL (λi env s'=>i<=x5.toNat->∃b7 b8 b9 fO fP,env=[some (.aj k),some (.aj j),some (.int mo),some (.int of),some (.int mu),some (memD s.length),some (.aj (s.length+8)),b7,b8,b9,fO,fP]/\BJ W k j s.length (n+x1.toNat+i) s0 s' M (λp=>R0 p\/Ag mu M L p) (λq=>T0 q\/∃(x:Nat) (d:Int),x<8/\d∈M x/\q=.aM mu d x)/\s'[s.length+8]?=some (.lst (iq L 8))) _ (λ_=>⟨_,_,_,_,_,rfl,B5,L5⟩) (λi d env s' hd hI=>?_) (λenv s' hI=>?_)
 ·rw[gX] at hd
  split at hd
  ·rename_i hi
   cases hd;obtain⟨b7,b8,b9,fO,fP,rfl,B,hL⟩:=hI (by omega);refine⟨_,rfl,?_⟩;exact MT B hL hj hb kg kf pE hl (by omega) o1 o2 xO (λd u v hp h1 h2=>.inr ⟨hp,rfl,h1,h2⟩) λc9 XI XJ s2 B' L'=>(λ_=>⟨_,_,_,_,_,rfl,B',L'⟩)
  ·cases hd
 rw[df] at hI;obtain⟨b7,b8,b9,fO,fP,rfl,B6,L6⟩:=hI (Nat.le_refl _);exact g _ _ _ _ _ _ _ _ M L lf B6.st (B6.dict.more (by omega)) B6.ext
end DI
namespace DI
open PySem L2 TK
abbrev RB (n:Nat) (MM LL:Nat->Nat->List Int) (p:Pg):Prop:=∃m:Nat,m<n/\Ag m (MM m) (LL m) p
abbrev TB (n:Nat) (MM:Nat->Nat->List Int) (q:Pg):Prop:=∃m:Nat,m<n/\∃(x:Nat) (d:Int),x<8/\d∈MM m x/\q=.aM m d x
theorem PD (h:dU W R T s j n) (hn:n<64) (hj:env[1]?=some (some (.aj j)))
 (q:∀ps:List Pg,(∀p∈ps,R p)->(∀p,T p->p∈ps)->ps.length<=n->(ps.Pairwise λa b=>eU.lt a b=true)->Q (bD ps) s):Wp (eB cj (ae (eB qe (ae (eB qd (ae (aa 1) ai)) ai)) ai) env s) Q:=by
 obtain⟨ps,e,cw,len⟩:=h;have e1:aa 1 env s=ok (.aj j) s:=by unfold aa;rw[hj]
 have e2:qd [.aj j] s=ok (.lst (ps.map Pg.d)) s:=by
  unfold qd;simp only[e];rw[if_pos (by rw[Y1];exact lF (by omega)),Z7];rfl
 have e3:qe [.lst (ps.map Pg.d)] s=ok (.lst ((ST.ji eU ps).map Pg.d)) s:=by
  unfold qe;simp only[res];rw[if_pos (by rw[Y1];omega),FJ];rfl
 simp only[wp_eB,wp_aCons,wp_aNil];refine Wp.of e1 (Wp.of e2 (Wp.of e3 ?_));refine Wp.of (show cj [.lst ((ST.ji eU ps).map Pg.d)] s=ok (bD (ST.ji eU ps)) s from rfl) (q _ (λp hp=>cw.2.1 p ((ST.qU ps).mem_iff.mp hp)) (λp hp=>(ST.qU ps).mem_iff.mpr (cw.2.2 p hp)) (by rw[(ST.qU ps).length_eq];exact len) (Pw cw.1))
theorem K4 (lf:∀m x,m<n->x<8->∃c,Lf (MM m x) c 31 (LL m x)) (hp:∀p∈ps,RB n MM LL p) (ht:∀p,TB n MM p->p∈ps) (hk:0<=k/\k<8):rA (sN ps m k) (lN ps m k) (mN ps m k):=by
 have sh:∀{d:Int},d∈shown ps m k->∃m0:Nat,m0<n/\m=m0/\d∈LL m0 k.toNat:=λ{d} h=>by
  obtain⟨p,fU,rfl⟩:=Zv.mp h;rw[ZG] at fU;obtain⟨m0,h0,ha⟩:=hp p fU.1
  cases p with
  |made m' d' u v =>
   have h2:=fU.2;simp only[i9,Y3,decide_eq_true_eq] at h2;obtain⟨_,hm,hu,_⟩:=ha;exact⟨m0,h0,by rw[<- h2.1];exact hm,hu k h2.2⟩
  |aM m' d' k'=>cases fU.2
 have la:∀{d:Int} {m0:Nat},m=m0->d∈cz ps m k->d∉LL m0 k.toNat:=λ{d m0} e h=>by
  obtain⟨p,fU,rfl⟩:=Zv.mp h;rw[ZG] at fU;obtain⟨m1,h0,ha⟩:=hp p fU.1
  cases p with
  |made m' d' u v =>
   have h2:=fU.2;simp only[ja,Y3,decide_eq_true_eq] at h2;obtain⟨_,hm,_,hv⟩:=ha;have:m1=m0:=by have:=h2.1;omega
   rw[<- this];exact hv k h2.2
  |aM m' d' k'=>cases fU.2
 have me:∀{d:Int} {m0:Nat},m=m0->d∈bL ps m k->d∈MM m0 k.toNat:=λ{d m0} e h=>by
  obtain⟨p,fU,rfl⟩:=Zv.mp h;rw[ZG] at fU;obtain⟨m1,h0,ha⟩:=hp p fU.1
  cases p with
  |made m' d' u v=>cases fU.2
  |aM m' d' k' =>
   have h2:=fU.2;simp only[il,Y3,decide_eq_true_eq] at h2;obtain⟨_,hm,hd⟩:=ha;have:m1=m0:=by have:=h2.1;omega
   rw[<- this,<- h2.2];exact hd
 intro d e hs Xu he hc;simp only[sN,lN,mN,decide_eq_true_eq] at hs hc;obtain⟨m0,h0,em,hd⟩:=sh hs;obtain⟨c,F⟩:=lf m0 k.toNat h0 (by omega)
 rcases hc with hc | ⟨rfl,hc⟩
 ·apply Classical.byContradiction
  intro oR;have hm:∀x:Nat,d<x->x<=e->(x:Int)∉MM m0 k.toNat:=λx h1 h2 hx=>by
   refine oR ⟨x,h1,h2,?_⟩;simp only[mN,decide_eq_true_eq];have i5:=ht (.aM m0 x (k.toNat:Int)) ⟨m0,h0,k.toNat,x,by omega,hx,rfl⟩;refine Zv.mpr ⟨_,ZG.mpr ⟨i5,?_⟩,rfl⟩;simp only[il,Y3,decide_eq_true_eq];exact⟨em.symm,by omega⟩
  have all:∀i:Nat,d+i<=e->((d+i:Nat):Int)∈LL m0 k.toNat:=by
   intro i
   induction i with
   |zero=>intro _;exact hd
   |succ i ih =>
    intro hi;have:=F.on _ (ih (by omega)) (by omega) (by
     have:=hm (d+i+1) (by omega) (by omega);rwa [show ((d+i+1:Nat):Int)=((d+i:Nat):Int)+1 by omega] at this)
    rwa [show ((d+(i+1):Nat):Int)=((d+i:Nat):Int)+1 by omega]
  have:=all (e-d) (by omega);rw[show d+(e-d)=e by omega] at this;exact la em hc this
 ·exact((F.lo _ hd).2.2 (me em hc)).elim
theorem PH (h:bP s k):Wp (vE W [.aj k] s) λd s'=>∃ps,d=bD ps/\ps.length<=21/\bP s' k/\Ex k s s'/\cu ps=true:=by
 have hk:=h.lt;have pC:s.length≠k:=by omega
 unfold vE;rw[wp_fn];refine⟨rfl,?_⟩;rw[wp_sSeq];simp only[wp_sAsg,wp_tup,wp_aCons,wp_aNil,Q9];have d0:dU W (RB 0 (λ_ _=>[]) (λ_ _=>[])) (TB 0 (λ_ _=>[])) (s++[.dT []]) s.length 0:=⟨[],by simp,⟨.nil,λ_ h=>(Z5 h).elim,λp ⟨m,hm,_⟩=>(Nat.not_lt_zero m hm).elim⟩,Nat.le_refl _⟩;have h0:bP (s++[.dT []]) k:=h.app _
 try simp only[VC]
 refine(eY h0 (by decide) (by decide)).mono λd t1 mi=>?_;obtain⟨x1,rfl,gS,kQ,h1,e1⟩:=mi
 try simp only[VC]
 refine(eY h1 (by decide) (by decide)).mono λd t2 hd2=>?_;obtain⟨x2,rfl,CM,CN,h2,e2⟩:=hd2
 try simp only[VC]
 refine⟨by decide,?_⟩;have dt:=d0.ex (e1.trans e2) pC;have ext:Ex k s t2:=(Ex.app k s _).trans (e1.trans e2)
 try simp only[VC]
 refine Wp.of (zm (s1:=t2) (n:=(1+x1).toNat) (i:=1+x1) rfl (by omega) (by omega)) ?_;refine Wp.gL (λi env s'=>i<=(1+x1).toNat->∃b4 b5 b6 b7 b8 b9 fO fP MM LL,env=[some (.aj k),some (.aj s.length),some (.int (1+x1)),some (.int (1+x2)),b4,b5,b6,b7,b8,b9,fO,fP]/\(∀m x,m<i->x<8->∃c,Lf (MM m x) c 31 (LL m x))/\bP s' k/\dU W (RB i MM LL) (TB i MM) s' s.length (7*i)/\Ex k s s') _ (λ_=>⟨_,_,_,_,_,_,_,_,_,_,rfl,λm x hm=>(Nat.not_lt_zero m hm).elim,h2,dt,ext⟩) (λi d env s' hd hI=>?_) (λenv s' hI=>?_)
 ·rw[gX] at hd
  split at hd
  ·rename_i hi
   cases hd;obtain⟨b4,b5,b6,b7,b8,b9,fO,fP,MM,LL,rfl,lf,g1,g2,g3⟩:=hI (by omega);refine⟨_,rfl,?_⟩
   refine L0 g1 g2 g3 pC (Nat.le_refl _) (by omega) (by omega) (by omega) (by omega) λc5 c6 c7 c8 c9 XI XJ s2 M L XM k1 k2 k3=>(λ_=>⟨_,_,_,_,_,_,_,_,λm=>if m=i then M else MM m,λm=>if m=i then L else LL m,rfl,λm x hm hx=>?_,k1,(k2.more (by omega)).mono (λp hp=>?_) (λq hq=>?_),k3⟩)
   ·by_cases ue:m=i
    ·obtain⟨c,l⟩:=XM x hx
     exact⟨c,by simp only[ue,if_true];exact l⟩
    ·obtain⟨c,l⟩:=lf m x (by omega) hx
     exact⟨c,by simp only[ue,if_false];exact l⟩
   ·rcases hp with ⟨m,hm,ha⟩|ha
    ·exact⟨m,by omega,by simp only[show m≠i by omega,if_false];exact ha⟩
    ·exact⟨i,by omega,by simp only[if_true];rw[ac6] at ha;exact ha⟩
   ·obtain⟨m,hm,x,d,h1,h2,rfl⟩:=hq
    by_cases ue:m=i
    ·subst ue
     simp only[if_true] at h2;exact .inr ⟨x,d,h1,h2,by rw[ac6]⟩
    ·simp only[ue,if_false] at h2
     exact .inl ⟨m,by omega,x,d,h1,h2,rfl⟩
  ·cases hd
 ·rw[df] at hI
  obtain⟨b4,b5,b6,b7,b8,b9,fO,fP,MM,LL,rfl,lf,g1,g2,g3⟩:=hI (Nat.le_refl _);simp only[wp_sRet,aft_nx,fin_rt];refine PD (g2.more (m:=21) (by omega)) (by decide) rfl λps hp ht hl hu=>⟨ps,rfl,hl,g1,g3,?_⟩;have laid:Laid ps:=⟨λp h=>by obtain⟨m,_,ha⟩:=hp p h;exact ha.1,hu⟩;have lb:=laid.jj (by omega);unfold cu;rw[lb,Zw,acj];exact LZ (Fc lb) λm _ x hx=>K4 lf hp ht (mE.mp hx)
end DI
namespace DI
open PySem L2 TK
theorem PJ (a:List Int):∀b:List Int,fI (a.map D.int) (b.map D.int)=decide (a=b):=by
 induction a with
 |nil=>intro b;cases b<;>rfl
 |cons x r ih =>
  intro b
  cases b with
  |nil=>rfl
  |cons y t =>
   simp only[Zl,fI,beq,ih]
   by_cases h1:x=y<;>by_cases h2:r=t<;>simp[h1,h2]
theorem xj:ei (lI a) (lI b) s=ok (.bl (!decide (a=b))) s:=by
 have e:fE (lI a) (lI b)=some (decide (a=b)):=by
  unfold fE;rw[if_neg (show ¬ (i7 (lI a)&&i7 (lI b))=true from Y7),if_pos (by simp only[lay,nQ,dep,E9];rfl)];simp only[beq,PJ]
 show (match fE (lI a) (lI b) with|some b=>ok (D.bl !b) s|none=>none)=_
 rw[e]
theorem F2:dg (.int x) (mD ns) s=ok (.bl (!decide (x∈ns))) s:=nS (s:=s)
theorem F3:∀{l:List Int},l.Pairwise (· < ·)->dB l=l
 | [],_=>rfl
 |a::r,h=>by
  obtain⟨h1,h2⟩:=ZN.mp h;rw[dB,F3 h2]
  cases r with
  |nil=>rfl
  |cons b t=>rw[jT,if_pos (h1 b Zb)]
theorem MU (ns:List Int):rise ns=decide (ns=dB ns):=by
 by_cases h:rise ns=true
 ·rw[h,F3 (zq h)];simp
 ·have:¬ ns=dB ns:=λe=>h (GO (by rw[e];exact uB ns))
  rw[decide_eq_false this];simpa using h
inductive Rv where
 |mk (ns:List Int)|ls (ns:List Int)|no
noncomputable def Rv.d:Rv->D
 | .mk ns=>mD ns
 | .ls ns=>lI ns
 | .no=>.aA
noncomputable def Rv.ns:Rv->List Int
 | .mk ns=>ns
 | .ls ns=>ns
 | .no=>[]
noncomputable def Rv.ok:Rv->Bool
 | .mk ns=>gC ns
 |_=>false
theorem PK {r:Rv} {s:ag} (h:r.ns.length<=20):nN [r.d] s=ok (.bl r.ok) s:=by
 cases r with
 |mk ns=>exact yQ (Zo h (by decide))
 |ls ns=>rfl
 |no=>rfl
theorem PL:vG [.int i] s=ok (.bl (markB i)) s:=by
 refine Wp.eq ?_;unfold vG markB;simp only[VC];refine Wp.of (show cx [.int i,.ty "int"] s=ok (.bl true) s from rfl) ?_;simp only[VC,if_true];refine Wp.of (show cx [.int i,.ty "bool"] s=ok (.bl false) s from rfl) ?_;simp only[VC,aas,if_true];by_cases h0:0<=i
 ·simp only[h0,decide_true,if_true,Zw,and_true]
  congr 1;simp only[decide_eq_decide];omega
 ·simp[h0]
theorem vX {α:Type} (f:α->D) (p:α->Bool) (E:Env->Prop):∀(xs:List α),(∀x∈xs,∀env,E env->∃env',g (f x) env=some env'/\Wp (b env' s) λfl s'=>s'=s/\if p x=true then ∃e,fl=.nx e/\E e else fl=.rt (.bl false)) ->
  ∀env,E env->Wp (iM g b (xs.map f) env s) λfl s'=>s'=s/\if xs.all p=true then ∃e,fl=.nx e/\E e else fl=.rt (.bl false):=by
 intro xs
 induction xs with
 |nil=>intro _ env h;exact Wp.ok ⟨rfl,by simpa using h⟩
 |cons x xs ih =>
  intro hs env h;obtain⟨env',e1,q⟩:=hs x Zb env h;rw[Zl];unfold iM;rw[e1];refine Wp.au (q.mono λfl s' hq=>?_);obtain⟨rfl,hq⟩:=hq
  cases hp:p x with
  |false =>
   rw[hp,if_neg Y7] at hq;subst hq;exact Wp.ok ⟨rfl,by simp[hp]⟩
  |true =>
   rw[hp,if_pos rfl] at hq;obtain⟨e,rfl,he⟩:=hq;refine(ih (λy hy=>hs y (Zd _ hy)) e he).mono λfl s' z=>?_;simpa [hp] using z
theorem PM {r:Rv} {s:ag} {e0 e1 e2:Option D} {q:Env} (h:r.ns.length<=20):Wp (vm (e0::e1::e2::some r.d::q) s) λfl s'=>s'=s/\if r.ok=true then fl=.nx (e0::e1::e2::some r.d::q) else fl=.rt (.bl false):=by
 unfold vm;simp only[VC]
 cases r with
 |ls ns=>refine Wp.of (show cx [Rv.d (.ls ns),.ty "tuple"] s=ok (.bl false) s from rfl) ?_;simp[wp_truB,Rv.ok,aft_rt]
 |no=>refine Wp.of (show cx [Rv.d .no,.ty "tuple"] s=ok (.bl false) s from rfl) ?_;simp[wp_truB,Rv.ok,aft_rt]
 |mk ns =>
  refine Wp.of (show cx [Rv.d (.mk ns),.ty "tuple"] s=ok (.bl true) s from rfl) ?_;simp only[VC,Zr,Y2,if_false,Rv.d];have h:ns.length<=20:=h;refine Wp.of (gU (ds:=ns.map D.int) rfl) ⟨by rw[Y1];exact le_size (by omega),?_⟩;refine Wp.of (fx (λi=>!markB i) (λi=>.int i) ns λi _=>⟨[some (.int i)],rfl,?_,λ_=>rfl⟩) ?_
  ·refine Wp.eq ?_
   simp only[VC];refine Wp.of PL ?_;simp only[VC,and_self]
  refine⟨by decide,Wp.of (ne_nil (nQ _)) ?_⟩;simp only[VC];have em:gC ns=((ns.filter λi=>!markB i).isEmpty&&decide (ns=dB ns)):=by
   unfold gC;rw[MU];congr 1;rw[aaI,acj,abc,Zu];simp
  have el:((ns.filter λi=>!markB i).map λi=>D.int i).isEmpty=(ns.filter λi=>!markB i).isEmpty:=by cases ns.filter λi=>!markB i<;>rfl
  rw[el];simp only[Rv.ok,em]
  cases (ns.filter λi=>!markB i).isEmpty with
  |false=>simp[aft_rt]
  |true =>
   simp only[VC,Zr,Y2,if_false,Zw,aft_nx];refine Wp.of (show jH [mD ns] s=ok (lI ns) s from rfl) ?_;refine Wp.of (show rf (mD ns) s=ok (lI (dB ns)) s by unfold rf;simp only[EZ,decide_eq_true (show ns.length<64 by omega),if_true]) ?_;refine Wp.of xj ?_;simp only[VC];by_cases hu:ns=dB ns
   ·rw[decide_eq_true hu];simp
   ·rw[decide_eq_false hu];simp
theorem N5 {rs:List Rv} {s:ag} {e0 e1 e2 e3:Option D} {q:Env} (h:∀r∈rs,r.ns.length<=20):Wp (iM (gN 3) vm (rs.map Rv.d) (e0::e1::e2::e3::q) s) λfl s'=>s'=s/\if rs.all Rv.ok=true then ∃x,fl=.nx (e0::e1::e2::x::q) else fl=.rt (.bl false):=by
 refine(vX Rv.d Rv.ok (λenv=>∃x,env=e0::e1::e2::x::q) rs (λr hr env he=>?_) _ ⟨e3,rfl⟩).mono λfl s' z=>?_
 ·obtain⟨x,rfl⟩:=he
  refine⟨_,rfl,(PM (h r hr)).mono λfl s' z=>⟨z.1,?_⟩⟩;have z:=z.2;split at z
  ·rename_i hp;rw[if_pos hp];exact⟨_,z,_,rfl⟩
  ·rename_i hp;rw[if_neg hp];exact z
 ·refine⟨z.1,?_⟩
  have z:=z.2;split at z
  ·rename_i hp
   obtain⟨e,rfl,x,rfl⟩:=z;rw[if_pos hp];exact⟨x,rfl⟩
  ·rename_i hp;rw[if_neg hp];exact z
end DI
namespace DI
open PySem L2 TK
theorem Ti {a b:List Int} (ha:a.length<=1000) (hb:b.length<=1000):bY (.lst (a.map D.int)) (.lst (b.map D.int)) s=ok (.lst ((a++b).map D.int)) s:=by
 unfold bY;simp only[oF,res];rw[if_pos (by unfold jQ;rw[Y1,Y1];exact decide_eq_true (le_size (by omega))),Z3];rfl
noncomputable def sF (m:Int):Pg->Bool
 | .made _ _ _ _=>false
 | .aM m' _ _=>decide (m'=m)
noncomputable def dk:Pg->Int×Int
 | .made _ _ _ _=>(0,0)
 | .aM _ d k=>(d,k)
noncomputable def eM (ps:List Pg) (m:Int):List (Int×Int):=(ps.filter (sF m)).map dk
noncomputable def pairD (p:Int×Int):D:=.tup [.int p.1,.int p.2]
theorem PN (p q:Int×Int):beq (pairD p) (pairD q)=decide (p=q):=by
 obtain⟨a,b⟩:=p;obtain⟨c,d⟩:=q;simp only[pairD,beq,fI,Prod.mk.injEq]
 by_cases h1:a=c<;>by_cases h2:b=d<;>simp[h1,h2]
theorem PQ (x:Int×Int) (L:List (Int×Int)):((L.map pairD).any λy=>beq y (pairD x))=decide (x∈L):=by
 induction L with
 |nil=>simp
 |cons y L ih =>
  simp only[Zl,adf,ih,PN,Zh];by_cases h1:y=x
  ·simp[h1]
  ·have h2:¬ x=y:=λe=>h1 e.symm
   simp[h1,h2]
theorem L7 {x:Int×Int} {L:List (Int×Int)}:dg (pairD x) (.lst (L.map pairD)) s=ok (.bl (!decide (x∈L))) s:=by
 unfold dg;simp only[lM,res,inD];rw[if_pos (by unfold mJ;rw[vw pairD (λ_=>rfl)];rfl),PQ];rfl
theorem CP:ac5 (ZJ "made")=true:=by decide +kernel
theorem CQ:ac5 (ZJ "mended")=true:=by decide +kernel
theorem UM:Wp (jf p.d none (some 2) s) λd s1=>Wp (aT d (.tup [.str "mended",.int m]) s1) λx s2=>x=.bl (sF m p)/\s2=s:=by
 cases p with
 |made m' d h l =>
  refine Wp.of (show jf (Pg.made m' d h l).d none (some 2) s=ok (.tup [.str "made",.int m']) s from rfl) ?_;have e:fE (.tup [.str "made",.int m']) (.tup [.str "mended",.int m])=some false:=by
   unfold fE;rw[if_neg (show ¬ (i7 (.tup _)&&i7 (.tup _))=true from Y7),if_pos (by simp[lay,cO,dep,cB,CP,CQ])];simp only[beq,fI,show (ZJ "made"==ZJ "mended")=false from beq_eq_false_iff_ne.mpr zp,ab6]
  exact Wp.of (show aT (.tup [.str "made",.int m']) (.tup [.str "mended",.int m]) s=ok (.bl false) s by show (match fE (.tup [.str "made",.int m']) (.tup [.str "mended",.int m]) with|some b=>ok (D.bl b) s|none=>none)=_;rw[e]) ⟨rfl,rfl⟩
 |aM m' d k =>
  refine Wp.of (show jf (Pg.aM m' d k).d none (some 2) s=ok (.tup [.str "mended",.int m']) s from rfl) ?_;have e:fE (.tup [.str "mended",.int m']) (.tup [.str "mended",.int m])=some (decide (m'=m)):=by
   unfold fE;rw[if_neg (show ¬ (i7 (.tup _)&&i7 (.tup _))=true from Y7),if_pos (by simp[lay,cO,dep,cB,CP,CQ])];simp only[beq,fI]
   by_cases h:m'=m<;>simp[h]
  exact Wp.of (show aT (.tup [.str "mended",.int m']) (.tup [.str "mended",.int m]) s=ok (.bl (decide (m'=m))) s by show (match fE (.tup [.str "mended",.int m']) (.tup [.str "mended",.int m]) with|some b=>ok (D.bl b) s|none=>none)=_;rw[e]) ⟨rfl,rfl⟩
noncomputable def nI (ps:List Pg) (m:Int) (F:Int->List Int) (d k:Int):Bool:=decide (k∈F d)||decide ((d,k)∈eM ps m)
theorem N6 {ps:List Pg} {m d k:Int} {F:Int->List Int} {s:ag} {e0 e1 e3:Option D} {q:Env} (hd:d∈cD) :
  Wp (yL (e0::e1::some (cS F)::e3::some (.lst ((eM ps m).map pairD))::some (.int d)::some (.int k)::q) s) λfl s'=>s'=s/\if nI ps m F d k=true then fl=.nx (e0::e1::some (cS F)::e3::some (.lst ((eM ps m).map pairD))::some (.int d)::some (.int k)::q) else fl=.rt (.bl false):=by
 unfold yL nI;simp only[VC,pW hd,F2];by_cases h1:k∈F d
 ·simp[h1]
 ·simp only[h1,decide_false,aas,if_true,abm]
  refine⟨by decide,Wp.of (L7 (x:=(d,k))) ?_⟩;simp only[VC];by_cases h2:(d,k)∈eM ps m
  ·simp[h2]
  ·simp[h2]
theorem PR {ps:List Pg} {m d:Int} {F:Int->List Int} {s:ag} {e0 e1 e3 e6:Option D} {q:Env} (hd:d∈cD) (mi:d-1∈cD) (hF:∀d,bW 8 (F d)) :
  Wp (yM (e0::e1::some (cS F)::e3::some (.lst ((eM ps m).map pairD))::some (.int d)::e6::q) s) λfl s'=>s'=s/\if (F (d-1)).all (nI ps m F d)=true then ∃x,fl=.nx (e0::e1::some (cS F)::e3::some (.lst ((eM ps m).map pairD))::some (.int d)::x::q) else fl=.rt (.bl false):=by
 unfold yM;simp only[VC];refine Wp.of (gU (s1:=s) (ds:=(F (d-1)).map D.int) (Wp.eq (by simp only[VC,pW mi,and_self]))) ?_;refine(vX D.int (nI ps m F d) (λenv=>∃x,env=e0::e1::some (cS F)::e3::some (.lst ((eM ps m).map pairD))::some (.int d)::x::q) (F (d-1)) (λk hk env he=>?_) _ ⟨e6,rfl⟩).mono λfl s' z=>?_
 ·obtain⟨x,rfl⟩:=he
  refine⟨_,rfl,(N6 hd).mono λfl s' z=>⟨z.1,?_⟩⟩;have z:=z.2;split at z
  ·rename_i hp;rw[if_pos hp];exact⟨_,z,_,rfl⟩
  ·rename_i hp;rw[if_neg hp];exact z
 ·refine⟨z.1,?_⟩
  have z:=z.2;split at z
  ·rename_i hp
   obtain⟨e,rfl,x,rfl⟩:=z;rw[if_pos hp];exact⟨x,rfl⟩
  ·rename_i hp;rw[if_neg hp];exact z
noncomputable def kh:List Int:=(Zk 30).map λi:Nat=>1+(i:Int)
theorem zt:d∈kh↔1<=d/\d<31:=by
 unfold kh;rw[Zv];constructor
 ·rintro ⟨i,hi,rfl⟩
  rw[ZO] at hi;omega
 ·intro h
  exact⟨(d-1).toNat,by rw[ZO];omega,by omega⟩
noncomputable def kR (m:Int) (F:Int->List Int):Pg->Bool
 | .made m' d a b=>!decide (m'=m)||(a.all (λk=>decide (k∈F d))&&b.all λk=>!decide (k∈F d))
 | .aM _ _ _=>true
theorem N7 {e2:Option D} (hp:CL p) (hd:0<=p.day/\p.day<31) :
  ∃env',gT [(gN 7),(gN 8),(gN 5),(gN 9)] p.d [e0,some (.int m),some (cS F),e3,e4,e5,e6,e7,e8,e9,e10]=some env' /\
  Wp (vn env' s) λfl s'=>s'=s/\if kR m F p=true then ∃x5 x7 x8 x9 gS,fl=.nx [e0,some (.int m),some (cS F),e3,e4,x5,e6,x7,x8,x9,gS] else fl=.rt (.bl false):=by
 cases p with
 |aM m' d k =>
  refine⟨_,rfl,?_⟩;unfold vn kR;simp only[VC];refine Wp.of ig ?_;rw[decide_eq_false rz];simp only[VC,Y2,if_false,if_true];exact⟨_,_,_,_,_,rfl⟩
 |made m' d a b =>
  refine⟨_,rfl,?_⟩;have kN:d∈cD:=rB.mpr hd;unfold vn kR;simp only[VC];refine Wp.of ig ?_;simp only[VC,decide_true,if_true];by_cases hm:m'=m
  ·subst hm
   simp only[beq_self_eq_true,if_true,decide_true,Zr,abm];obtain⟨ha,hb⟩:a.length<=1000/\b.length<=1000:=hp.gk;refine Wp.of (gU (ds:=a.map D.int) rfl) ⟨by rw[Y1];exact le_size (by omega),?_⟩;refine Wp.of (fx (λk=>!decide (k∈F d)) (λk=>.int k) a λk _=>⟨[some (.int k),some (cS F),some (.int d)],rfl,Wp.eq (by simp only[VC,pW kN,F2,and_self]),λ_=>rfl⟩) ?_;refine Wp.of (gU (ds:=b.map D.int) rfl) ⟨by rw[Y1];exact le_size (by omega),?_⟩;refine Wp.of (fx (λk=>decide (k∈F d)) (λk=>.int k) b λk _=>⟨[some (.int k),some (cS F),some (.int d)],rfl,Wp.eq (by simp only[VC,pW kN,ko,and_self]),λ_=>rfl⟩) ?_;refine Wp.of (Ti (Zo (aaw _ _) ha) (Zo (aaw _ _) hb)) ⟨by decide,Wp.of (ne_nil (nQ _)) ?_⟩;simp only[VC];have e:(!(((a.filter λk=>!decide (k∈F d))++b.filter λk=>decide (k∈F d)).map D.int).isEmpty)=!(a.all (λk=>decide (k∈F d))&&b.all λk=>!decide (k∈F d)):=by
    congr 1;rw[aaI,acj,acr,List.append_eq_nil_iff,abc,abc,Y3,Zu,Zu];simp
   rw[e]
   cases a.all (λk=>decide (k∈F d))&&b.all λk=>!decide (k∈F d) with
   |true=>simp only[Zr,Y2,if_false,if_true];exact⟨_,_,_,_,_,rfl⟩
   |false=>simp
  ·rw[show (m'==m)=false by simpa using hm]
   simp only[Y2,if_false,decide_eq_false hm,aas,Bool.true_or,if_true];exact⟨_,_,_,_,_,rfl⟩
end DI
namespace DI
open PySem L2 TK
noncomputable def FR (rs:List Rv) (d:Int):List Int:=(rs.getD d.toNat (.mk [])).ns
theorem IQ {r:Rv} (h:r.ok=true):r.d=mD r.ns/\gC r.ns=true:=by
 cases r with
 |mk ns=>exact⟨rfl,h⟩
 |ls ns=>cases h
 |no=>cases h
theorem HY (h:rs.all Rv.ok=true) (d:Int):bW 8 (FR rs d):=by
 unfold FR;rw[ab3]
 cases e:rs[d.toNat]? with
 |none=>exact⟨λx hx=>(by cases hx),List.Pairwise.nil⟩
 |some r=>exact qX (IQ (Zu.mp h r (aaK e))).2
theorem Ff (hn:rs.length=31) (h:rs.all Rv.ok=true):D.tup (rs.map Rv.d)=cS (FR rs):=by
 unfold cS cD;congr 1;rw[Z7];refine List.ext_getElem (by simp[hn]) λi h1 h2=>?_;rw[List.getElem_map,List.getElem_map,List.getElem_range];have hi:i<rs.length:=by simpa using h1
 simp only[Function.comp,FR,ZD,ab3,Y8 hi,Option.getD_some];exact(IQ (Zu.mp h _ (acg hi))).1
noncomputable def wD (ps:List Pg) (m:Int) (F:Int->List Int):Bool:=kh.all (λd=>(F (d-1)).all (nI ps m F d))&&((eM ps m).all (λp=>!decide (p.2∈F p.1))&&ps.all (kR m F))
theorem Rn (h:cx [d,.ty "tuple"] s=ok (.bl false) s):lj [bD ps,.int m,d] s=ok (.bl false) s/\(cu ps=true->(0<=m/\m<4)->kW [bD ps,.int m,d] s=ok (.bl false) s):=by
 refine⟨Wp.eq ?_,λhb hm=>Wp.eq ?_⟩
 ·unfold lj
  refine wp_fn.symm ▸ ⟨rfl,Wp.step λR _=>?_⟩;simp only[VC];refine Wp.of h ?_;simp only[VC,aas,if_true,and_self]
 ·obtain⟨hl,hg⟩:=pM hb
  unfold kW;simp only[VC];refine Wp.of (rm (by omega) (λp hp=>(hg p hp).gk) hb) (Wp.of (q0 hm) (Wp.of h ?_));simp only[VC,aas,if_true,and_self]
theorem F4 (h:¬ ds.length=31) (hz:ds.length<=1000):lj [bD ps,.int m,.tup ds] s=ok (.bl false) s/\(cu ps=true->(0<=m/\m<4)->kW [bD ps,.int m,.tup ds] s=ok (.bl false) s):=by
 have hn:((ds.length:Int)==31)=false:=by rw[beq_eq_false_iff_ne];omega
 refine⟨Wp.eq ?_,λhb hm=>Wp.eq ?_⟩
 ·unfold lj
  refine wp_fn.symm ▸ ⟨rfl,Wp.step λR _=>?_⟩;simp only[VC];refine Wp.of (show cx [.tup ds,.ty "tuple"] s=ok (.bl true) s from rfl) ?_;simp only[VC,Zr,Y2,if_false];refine Wp.of (show dj [.tup ds] s=ok (.int ds.length) s from rfl) ?_;simp only[VC,hn,aas,if_true,and_self]
 ·obtain⟨hl,hg⟩:=pM hb
  unfold kW;simp only[VC];refine Wp.of (rm (by omega) (λp hp=>(hg p hp).gk) hb) (Wp.of (q0 hm) ?_);refine Wp.of (show cx [.tup ds,.ty "tuple"] s=ok (.bl true) s from rfl) ?_;simp only[VC,Zr,Y2,if_false];refine Wp.of (show dj [.tup ds] s=ok (.int ds.length) s from rfl) ?_;simp only[VC,hn,aas,if_true,and_self]
theorem N8 (hb:cu ps=true) (hn:rs.length=31) (hr:∀r∈rs,r.ns.length<=20):lj [bD ps,.int m,.tup (rs.map Rv.d)] s=ok (.bl (rs.all Rv.ok&&wD ps m (FR rs))) s:=by
 obtain⟨hl,hg⟩:=pM hb;refine Wp.eq ?_;unfold lj;refine wp_fn.symm ▸ ⟨rfl,?_⟩;refine mO (env':=[some (bD ps),some (.int m),some (.tup (rs.map Rv.d)),none,none,none,none,none,none,none,none]) (s':=s) (Wp.eq ?_) ?_
 ·simp only[VC]
  refine Wp.of (show cx [.tup (rs.map Rv.d),.ty "tuple"] s=ok (.bl true) s from rfl) ?_;simp only[VC,Zr,Y2,if_false];refine Wp.of (show dj [.tup (rs.map Rv.d)] s=ok (.int 31) s by rw[show dj [.tup (rs.map Rv.d)] s=ok (.int ((rs.map Rv.d).length)) s from rfl,Y1,hn];rfl) ?_;simp only[VC]
  first|trivial|exact⟨rfl,rfl⟩|simp
 refine Wp.step λR hR=>?_;rw[wp_sFor];refine Wp.of (gU (ds:=rs.map Rv.d) rfl) ((N5 hr).mono λfl s' z=>?_);obtain⟨rfl,z⟩:=z
 cases hk:rs.all Rv.ok with
 |false =>
  rw[hk,if_neg Y7] at z;subst z;exact⟨rfl,rfl⟩
 |true =>
  rw[hk,if_pos rfl] at z;obtain⟨x3,rfl⟩:=z;rw[aft_nx];subst hR;rw[Ff hn hk];have hF:=HY hk;generalize FR rs=F at hF |-;clear hk hr hn;refine mO (env':=[some (bD ps),some (.int m),some (cS F),x3,some (.lst ((eM ps m).map pairD)),none,none,none,none,none,none]) (s':=s') (Wp.eq ?_) ?_
  ·simp only[wp_sAsg,asg_N,wp_comp]
   refine Wp.of (gU (ds:=ps.map Pg.d) rfl) ⟨by rw[Y1];exact le_size (by omega),?_⟩;refine Wp.of (comp_map Pg.d (sF m) (λp=>pairD (dk p)) ps λp hp=>⟨[some p.d,some (.int m)],rfl,Wp.eq ?_,λCS=>Wp.eq ?_⟩) ?_
   ·simp only[wp_tBl,wp_e2,wp_sl,wp_loc0,wp_locS,wp_pNo,nV (show eC (.int 2) [some p.d,some (.int m)] s'=ok (.int 2) s' from rfl)]
    refine(UM (m:=m)).mono λd s1 z=>?_;simp only[wp_tup,wp_aCons,wp_aNil,wp_C,wp_loc0,wp_locS];refine⟨by show 2<=Zf;decide,z.mono λy s2 w=>?_⟩;obtain⟨rfl,rfl⟩:=w;rw[wp_isBl];exact⟨rfl,rfl⟩
   ·simp only[wp_sl,wp_loc0,wp_pNo,nV (show eC (.int 2) [some p.d,some (.int m)] s'=ok (.int 2) s' from rfl)]
    cases p with
    |made m' d a b=>cases CS
    |aM m' d k=>exact Wp.of (show jf (Pg.aM m' d k).d (some 2) none s'=ok (pairD (d,k)) s' from rfl) ⟨rfl,rfl⟩
   ·unfold eM
    rw[Z7];exact⟨rfl,rfl⟩
  refine Wp.step λR hR=>?_;rw[wp_sFor];refine Wp.of (zW (i:=1) (j:=31) rfl (by decide) (by decide) (by decide) (by decide)) ?_;rw[show cg 1 ((31:Int)-1).toNat=kh.map D.int by unfold kh cg;rw[Z7];rfl];refine(vX D.int (λd=>(F (d-1)).all (nI ps m F d)) (λenv=>∃x5 x6,env=[some (bD ps),some (.int m),some (cS F),x3,some (.lst ((eM ps m).map pairD)),x5,x6,none,none,none,none]) kh (λd hd env he=>?_) _ ⟨_,_,rfl⟩).mono λfl s1 z=>?_
  ·obtain⟨x5,x6,rfl⟩:=he
   have h1:=zt.mp hd;refine⟨_,rfl,(PR (rB.mpr (by omega)) (rB.mpr (by omega)) hF).mono λfl s' z=>⟨z.1,?_⟩⟩;have z:=z.2;split at z
   ·rename_i hp;rw[if_pos hp];obtain⟨x,e⟩:=z;exact⟨_,e,_,_,rfl⟩
   ·rename_i hp;rw[if_neg hp];exact z
  obtain⟨rfl,z⟩:=z;unfold wD
  cases hk:kh.all λd=>(F (d-1)).all (nI ps m F d) with
  |false =>
   rw[hk,if_neg Y7] at z;subst z;exact⟨rfl,rfl⟩
  |true =>
   rw[hk,if_pos rfl] at z;obtain⟨e,rfl,x5,x6,rfl⟩:=z;rw[aft_nx];subst hR;have VS:∀p∈eM ps m,p.1∈cD:=λp hp=>by
    unfold eM at hp;obtain⟨q,hq,rfl⟩:=Zv.mp hp;obtain⟨hq,CS⟩:=ZG.mp hq;have:=(hg q hq).day
    cases q with
    |made m' d a b=>cases CS
    |aM m' d k=>exact rB.mpr this
   refine Wp.step λR hR=>?_;simp only[wp_sIf,wp_tBl,wp_e2,wp_comp,wp_lst,wp_aNil];refine Wp.of (gW (ds:=(eM ps m).map pairD) rfl) ⟨by rw[Y1];unfold eM;rw[Y1];exact le_size (Zo (aaw _ _) (by omega)),?_⟩;refine Wp.of (comp_map pairD (λp=>decide (p.2∈F p.1)) pairD (eM ps m) λp hp=>⟨[some (pairD p),some (cS F)],rfl,Wp.eq ?_,λ_=>rfl⟩) ⟨by decide,?_⟩
   ·simp only[VC]
    refine Wp.of (show aq (pairD p) (.int 1) _=ok (.int p.2) _ from rfl) (Wp.of (show aq (pairD p) (.int 0) _=ok (.int p.1) _ from rfl) ?_);simp only[VC,pW (VS p hp),ko,and_self]
   refine Wp.of (ne_nil (vw pairD (λ_=>rfl) _)) ?_;rw[wp_isBl];have e2:(!(((eM ps m).filter λp=>decide (p.2∈F p.1)).map pairD).isEmpty)=!((eM ps m).all λp=>!decide (p.2∈F p.1)):=by
    congr 1;rw[aaI,acj,acr,abc,Zu];simp
   rw[e2]
   cases (eM ps m).all λp=>!decide (p.2∈F p.1) with
   |false=>simp only[VC,aas,if_true];simp
   |true =>
    simp only[wp_sNil,aft_nx,Zr,Y2,if_false,Zw];subst hR;refine Wp.step λR hR=>?_;rw[wp_sFor];refine Wp.of (gU (ds:=ps.map Pg.d) rfl) ((vX Pg.d (kR m F) (λenv=>∃x5 x7 x8 x9 gS,env=[some (bD ps),some (.int m),some (cS F),x3,some (.lst ((eM ps m).map pairD)),x5,x6,x7,x8,x9,gS]) ps (λp hp env he=>?_) _ ⟨_,_,_,_,_,rfl⟩).mono λfl s2 z=>?_)
    ·obtain⟨x5,x7,x8,x9,gS,rfl⟩:=he
     obtain⟨env',e1,w⟩:=N7 (s:=s1) (m:=m) (F:=F) (e0:=some (bD ps)) (e2:=none) (e3:=x3) (e4:=some (.lst ((eM ps m).map pairD))) (e5:=x5) (e6:=x6) (e7:=x7) (e8:=x8) (e9:=x9) (e10:=gS) (hg p hp) (hg p hp).day;refine⟨env',e1,w.mono λfl s' z=>⟨z.1,?_⟩⟩;have z:=z.2;split at z
     ·rename_i hp;rw[if_pos hp];obtain⟨a,b,c,d,e,z⟩:=z;exact⟨_,z,_,_,_,_,_,rfl⟩
     ·rename_i hp;rw[if_neg hp];exact z
    obtain⟨rfl,z⟩:=z
    cases hk:ps.all (kR m F) with
    |false =>
     rw[hk,if_neg Y7] at z;subst z;exact⟨rfl,rfl⟩
    |true =>
     rw[hk,if_pos rfl] at z;obtain⟨e,rfl,_⟩:=z;subst hR;simp only[aft_nx,wp_sRet,wp_C,fin_rt];simp
end DI
namespace DI
open PySem L2 TK
theorem N9:d∈shown ps m k↔∃a b,Pg.made m d a b∈ps/\k∈a:=by
 unfold shown;rw[Zv];constructor
 ·rintro ⟨p,hp,rfl⟩
  obtain⟨hq,h⟩:=ZG.mp hp
  cases p with
  |made m' d a b =>
   simp only[i9,Y3,decide_eq_true_eq] at h;obtain⟨rfl,h⟩:=h;exact⟨a,b,hq,h⟩
  |aM m' d k=>cases h
 ·rintro ⟨a,b,hp,h⟩
  exact⟨_,ZG.mpr ⟨hp,by simp[i9,h]⟩,rfl⟩
theorem MV:d∈cz ps m k↔∃a b,Pg.made m d a b∈ps/\k∈b:=by
 unfold cz;rw[Zv];constructor
 ·rintro ⟨p,hp,rfl⟩
  obtain⟨hq,h⟩:=ZG.mp hp
  cases p with
  |made m' d a b =>
   simp only[ja,Y3,decide_eq_true_eq] at h;obtain⟨rfl,h⟩:=h;exact⟨a,b,hq,h⟩
  |aM m' d k=>cases h
 ·rintro ⟨a,b,hp,h⟩
  exact⟨_,ZG.mpr ⟨hp,by simp[ja,h]⟩,rfl⟩
theorem MW:d∈bL ps m k↔Pg.aM m d k∈ps:=by
 unfold bL;rw[Zv];constructor
 ·rintro ⟨p,hp,rfl⟩
  obtain⟨hq,h⟩:=ZG.mp hp
  cases p with
  |made m' d a b=>cases h
  |aM m' d k' =>
   simp only[il,Y3,decide_eq_true_eq] at h;obtain⟨rfl,rfl⟩:=h;exact hq
 ·intro hp
  exact⟨_,ZG.mpr ⟨hp,by simp[il]⟩,rfl⟩
theorem vY:(d,k)∈eM ps m↔Pg.aM m d k∈ps:=by
 unfold eM;rw[Zv];constructor
 ·rintro ⟨p,hp,e⟩
  obtain⟨hq,h⟩:=ZG.mp hp
  cases p with
  |made m' d a b=>cases h
  |aM m' d' k' =>
   simp only[sF,decide_eq_true_eq] at h;simp only[dk,Prod.mk.injEq] at e;obtain⟨rfl,rfl⟩:=e;subst h;exact hq
 ·intro hp
  exact⟨_,ZG.mpr ⟨hp,by simp[sF]⟩,rfl⟩
theorem MX (h:cu ps=true):∀p∈ps,eh p=true:=by
 unfold cu jj at h;simp only[Y3,Zu] at h;exact h.1.2.1
theorem Oa (hb:cu ps=true) (hF:∀d,bW 8 (F d)):wD ps m F=k8.all λk=>nF ps m k (wL F k):=by
 have Kp:=MX hb;have XN:∀{d k},k∈F d->k∈k8:=λ{d k} h=>mE.mpr ((hF d).lo k h);have made:∀{m d a b},Pg.made m d a b∈ps->(0<=d/\d<31)/\(∀k∈a,k∈k8)/\∀k∈b,k∈k8:=λ{m d a b} hp=>by
  have h:=Kp _ hp;simp only[eh,iz,iV,Y3,decide_eq_true_eq] at h;exact⟨h.1.2,λk hk=>mE.mpr ((qX h.2.1).lo k hk),λk hk=>mE.mpr ((qX h.2.2.1).lo k hk)⟩
 have aM:∀{m d k},Pg.aM m d k∈ps->(0<=d/\d<31)/\k∈k8:=λ{m d k} hp=>by
  have h:=Kp _ hp;simp only[eh,iz,iV,markB,Y3,decide_eq_true_eq] at h;exact⟨h.1.2,mE.mpr h.2⟩
 rw[aaI];unfold wD nF nI;simp only[Y3,Zu,decide_eq_true_eq,Z4,ab0,aa9,not_or,decide_eq_false_iff_not,Th,N9,MV,MW];constructor
 ·rintro ⟨h1,h2,h3⟩ k hk
  refine⟨?_,?_,?_⟩
  ·rintro d ⟨a,b,hp,ha⟩
   have:=h3 _ hp;simp only[kR,decide_true,Zr,abm,Y3,Zu,decide_eq_true_eq] at this;exact⟨(made hp).1,this.1 k ha⟩
  ·rintro d ⟨hd,nJ⟩
   refine⟨?_,λhp=>?_⟩
   ·rintro ⟨a,b,hp,hb⟩
    have:=h3 _ hp;simp only[kR,decide_true,Zr,abm,Y3,Zu,decide_eq_true_eq,Z4,decide_eq_false_iff_not] at this;exact this.2 k hb nJ
   ·exact h2 (d,k) (vY.mpr hp) nJ
  ·rintro d ⟨hd,nJ⟩
   by_cases XO:d+1=31
   ·exact .inr (.inr XO)
   ·have:=h1 (d+1) (zt.mpr (by omega)) k (by rw[show d+1-1=d by omega];exact nJ)
    rcases this with h|h
    ·exact .inl ⟨by omega,h⟩
    ·exact .inr (.inl (vY.mp h))
 ·intro h
  refine⟨λd hd k hk=>?_,λp hp nJ=>?_,λp hp=>?_⟩
  ·have hd:=zt.mp hd
   rcases(h k (XN hk)).2.2 (d-1) ⟨by omega,hk⟩ with z|z|z
   ·rw[show d-1+1=d by omega] at z;exact .inl z.2
   ·rw[show d-1+1=d by omega] at z;exact .inr (vY.mpr z)
   ·omega
  ·obtain⟨d,k⟩:=p
   have hp:=vY.mp hp;exact((h k (aM hp).2).2.1 d ⟨(aM hp).1,nJ⟩).2 hp
  ·cases p with
   |aM m' d k=>rfl
   |made m' d a b =>
    by_cases hm:m'=m
    ·subst hm
     simp only[kR,decide_true,Zr,abm,Y3,Zu,decide_eq_true_eq,Z4,decide_eq_false_iff_not];exact⟨λk hk=>((h k ((made hp).2.1 k hk)).1 d ⟨a,b,hp,hk⟩).2,λk hk nJ=>((h k ((made hp).2.2 k hk)).2.1 d ⟨(made hp).1,nJ⟩).1 ⟨a,b,hp,hk⟩⟩
    ·simp[kR,hm]
theorem Ob (hb:cu ps=true) (hm:0<=m/\m<4) (hn:rs.length=31) (hr:∀r∈rs,r.ns.length<=20):kW [bD ps,.int m,.tup (rs.map Rv.d)] s=ok (.bl (rs.all Rv.ok&&k8.all λk=>nF ps m k (wL (FR rs) k))) s:=by
 obtain⟨hl,hg⟩:=pM hb;refine Wp.eq ?_;unfold kW;simp only[VC];refine Wp.of (rm (by omega) (λp hp=>(hg p hp).gk) hb) (Wp.of (q0 hm) ?_);refine Wp.of (show cx [.tup (rs.map Rv.d),.ty "tuple"] s=ok (.bl true) s from rfl) ?_;simp only[VC,Zr,Y2,if_false];refine Wp.of (show dj [.tup (rs.map Rv.d)] s=ok (.int 31) s by rw[show dj [.tup (rs.map Rv.d)] s=ok (.int ((rs.map Rv.d).length)) s from rfl,Y1,hn];rfl) ?_;simp only[VC];rw[if_neg (by decide)];refine Wp.of (gU (ds:=rs.map Rv.d) rfl) ⟨by rw[Y1,hn];exact le_size (by decide),?_⟩;refine Wp.of (comp_map Rv.d (λ_=>true) (λr=>.bl r.ok) rs λr h=>⟨[some r.d],rfl,rfl,λ_=>Wp.eq ?_⟩) ?_
 ·simp only[VC]
  exact Wp.of (PK (hr r h)) ⟨rfl,rfl⟩
 rw[filter_tt];refine Wp.of (mr _ _ _) ?_;simp only[VC]
 cases hk:rs.all Rv.ok with
 |false=>simp
 |true =>
  rw[Ff hn hk];generalize FR rs=F;simp only[if_true,Zw];refine Wp.of (eQ (n:=8) rfl (by decide)) ⟨by rw[df];exact le_size (by decide),?_⟩;rw[w9];refine Wp.of (fx (λ_=>true) (λk=>.bl (nF ps m k (wL F k))) k8 λk _=>⟨[some (.int k),some (bD ps),some (.int m),some (cS F)],rfl,rfl,λ_=>Wp.eq ?_⟩) ?_
  ·simp only[VC]
   refine Wp.of Rl ?_;exact Wp.of (Rm (by omega) (Zo (aaw _ _) (by decide))) ⟨rfl,rfl⟩
  rw[filter_tt];exact Wp.of (mr _ _ _) ⟨rfl,rfl⟩
def xb (ps:List Pg) (m:Int) (d:D):Prop:=∀s:ag,∃b:Bool,lj [bD ps,.int m,d] s=ok (.bl b) s/\kW [bD ps,.int m,d] s=ok (.bl b) s
theorem both_rows {ps:List Pg} {m:Int} {rs:List Rv} (hb:cu ps=true) (hm:0<=m/\m<4) (hn:rs.length<=1000) (hr:∀r∈rs,r.ns.length<=20):xb ps m (.tup (rs.map Rv.d)):=λs=>by
 by_cases h:rs.length=31
 ·refine⟨_,N8 hb h hr,?_⟩
  rw[Ob hb hm h hr]
  cases hk:rs.all Rv.ok with
  |false=>rfl
  |true=>rw[Oa hb (HY hk)]
 ·have q:=F4 (ps:=ps) (m:=m) (ds:=rs.map Rv.d) (s:=s) (by rw[Y1];exact h) (by rw[Y1];exact hn)
  exact⟨false,q.1,q.2 hb hm⟩
theorem nW (hb:cu ps=true) (hm:0<=m/\m<4) (h:∀s,cx [d,.ty "tuple"] s=ok (.bl false) s):xb ps m d:=λs =>
 have q:=Rn (ps:=ps) (m:=m) (h s)
 ⟨false,q.1,q.2 hb hm⟩
theorem PU (hb:cu ps=true) (hm:0<=m/\m<4) (h:ds.length<31):xb ps m (.tup ds):=λs =>
 have q:=F4 (ps:=ps) (m:=m) (ds:=ds) (s:=s) (by omega) (by omega)
 ⟨false,q.1,q.2 hb hm⟩
end DI
namespace DI
open PySem L2 TK
structure Lk (ps:List Pg) (m:Int) (d:D):Prop where
 both:xb ps m d
 rep:oo d=true
 nh:∀s,res d s=d
def Sm (r:Rv):Prop:=r.ns.length<=20/\∀x∈r.ns,-1<=x/\x<=60
theorem UN (h:Sm r):Ft 1 2220 r.d:=by
 have hi:∀x∈r.ns.map D.int,Ft 0 110 x:=λx hx=>by
  obtain⟨i,hi,rfl⟩:=Zv.mp hx;exact n6 (h.2 i hi).1 (h.2 i hi).2
 cases r with
 |mk ns=>exact qf (c:=20) (by rw[Y1];exact h.1) hi
 |ls ns=>exact HU (c:=20) (by rw[Y1];exact h.1) hi
 |no=>exact(wB (d:=.aA) (by decide +kernel)).mono (by omega) (by omega)
theorem GY {rs:List Rv} (h:∀r∈rs,Sm r):∀x∈rs.map Rv.d,Ft 1 2220 x:=λx hx=>by
 obtain⟨r,hr,rfl⟩:=Zv.mp hx;exact UN (h r hr)
theorem GZ {ps:List Pg} {m:Int} {rs:List Rv} (hb:cu ps=true) (hm:0<=m/\m<4) (hn:rs.length<=70) (h:∀r∈rs,Sm r):Lk ps m (.tup (rs.map Rv.d)) :=
 ⟨both_rows hb hm (by omega) λr hr=>(h r hr).1,HV (qf (c:=70) (by rw[Y1];exact hn) (GY h)) (by decide) (by decide),λ_=>rfl⟩
theorem Ro {ps:List Pg} {m:Int} {rs:List Rv} (hb:cu ps=true) (hm:0<=m/\m<4) (hn:rs.length<=70) (h:∀r∈rs,Sm r):Lk ps m (.lst (rs.map Rv.d)) :=
 ⟨nW hb hm λ_=>rfl,HV (HU (c:=70) (by rw[Y1];exact hn) (GY h)) (by decide) (by decide),λ_=>rfl⟩
noncomputable def xc:List D:=[.aA,.bl true,.bl false,.int (-1),.int 8,.int 31,.int 4,.str "",.str "0",.str "made",.tup [],.lst [],.aW [],.tup [.int 0],.lst [.int 0],.int (10 ^ 29),.int (-(10 ^ 20)),.tup [.int 8]]
noncomputable def Bm:List D:=[.tup [.str "made"],.tup [.int 0,.int 0],.tup [.tup [.int 0],.tup [.int 0]],.aW [(acK "made",0)],.tup [.tup [],.tup []],.tup [.tup [.bl true],.tup []],.tup [.tup [.int 1,.int 0],.tup []],.str "made 0 0 -/-"]
noncomputable def AD (d:D):Bool:=oo d&&match d with
 | .tup ds=>decide (ds.length<31)
 | .aA=>true | .bl _=>true | .int _=>true | .str _=>true | .lst _=>true | .aW _=>true
 |_=>false
theorem Rp:(xc++Bm).all AD=true:=by decide +kernel
theorem Tj (hb:cu ps=true) (hm:0<=m/\m<4) (h:AD d=true):Lk ps m d:=by
 unfold AD at h;rw[Y3] at h;obtain⟨h1,h2⟩:=h
 cases d with
 |tup ds=>exact⟨PU hb hm (of_decide_eq_true h2),h1,λ_=>rfl⟩
 |aA=>exact⟨nW hb hm λ_=>rfl,h1,λ_=>rfl⟩
 |bl b=>exact⟨nW hb hm λ_=>rfl,h1,λ_=>rfl⟩
 |int i=>exact⟨nW hb hm λ_=>rfl,h1,λ_=>rfl⟩
 |str x=>exact⟨nW hb hm λ_=>rfl,h1,λ_=>rfl⟩
 |lst ds=>exact⟨nW hb hm λ_=>rfl,h1,λ_=>rfl⟩
 |aW ao=>exact⟨nW hb hm λ_=>rfl,h1,λ_=>rfl⟩
 |aj k=>cases h2
 |ty n=>cases h2
 |bG ns=>cases h2
theorem z0 (h0:0<=r) (h1:r<ds.length):∃d∈ds,aq (.lst ds) (.int r) s=ok d s:=by
 obtain⟨x,e,e2⟩:=mC h0 h1;exact⟨x,aaK e2,by simp only[aq,ic,res,e,bF]⟩
theorem Tn (hb:cu ps=true) (hm:0<=m/\m<4) (h:bP s k):Wp (wc [.aj k] s) λd s'=>bP s' k/\Ex k s s'/\Lk ps m d:=by
 unfold wc;refine wp_fn.symm ▸ ⟨rfl,?_⟩;refine mO (env':=[some (.aj k),some (.lst xc)]) (s':=s) rfl ?_;refine mO (env':=[some (.aj k),some (.lst (xc++Bm))]) (s':=s) rfl ?_;simp only[wp_sRet,wp_e2,wp_call,wp_aCons,wp_aNil,wp_loc0,wp_locS,wp_C,fin_rt];refine(eY h (by decide) (by decide)).mono λx s1 hx=>?_;obtain⟨r,rfl,r0,r1,st,ex⟩:=hx;obtain⟨d,hd,e⟩:=z0 (ds:=xc++Bm) (s:=s1) r0 r1;exact Wp.of e ⟨st,ex,Tj hb hm (Zu.mp Rp d hd)⟩
end DI
namespace DI
open PySem L2 TK
noncomputable abbrev lf (L:List (List Int)):D:=.tup (L.map mD)
theorem To (h:bW 8 ns):Sm (.mk ns):=⟨Zo h.len (by decide),λx hx=>by have:=h.lo x hx;omega⟩
theorem G0 (L:List (List Int)):L.map mD=(L.map Rv.mk).map Rv.d:=by rw[Z7];rfl
theorem zu {L:List (List Int)} (h:∀ns∈L,bW 8 ns):∀r∈L.map Rv.mk,Sm r:=λr hr=>by
 obtain⟨ns,hn,rfl⟩:=Zv.mp hr;exact To (h ns hn)
theorem ot {m:Int} {L:List (List Int)} (hb:cu ps=true) (hm:0<=m/\m<4) (hn:L.length<=70) (h:∀ns∈L,bW 8 ns):Lk ps m (lf L)/\Lk ps m (.lst (L.map mD)):=by
 unfold lf;rw[G0];exact⟨GZ hb hm (by rw[Y1];exact hn) (zu h),Ro hb hm (by rw[Y1];exact hn) (zu h)⟩
theorem H0 (L:List (List Int)) (lo hi:Option Int):∃L',(∀s,jf (lf L) lo hi s=ok (lf L') s)/\L'.length<=L.length/\∀ns∈L',ns∈L:=by
 refine⟨(L.drop (HT.aR (L.map mD).length 0 lo)).take (HT.aR (L.map mD).length (L.map mD).length hi-HT.aR (L.map mD).length 0 lo),λs=>?_,?_,λns h=>List.mem_of_mem_drop (List.mem_of_mem_take h)⟩
 ·show ok (D.tup (cutD (L.map mD) lo hi)) s=_
  unfold cutD;rw[<- List.map_drop,<- List.map_take]
 ·rw[acf,ac7];omega
theorem Tp {n:Nat} {i:Int} (h0:0<=i) (h1:i<n):fq n i=some i.toNat:=by
 unfold fq;rw[if_pos h0,if_pos h1]
theorem setAt {j:Nat} {i:Int} (e:s[j]?=some (.lst ds)) (h0:0<=i) (h1:i<ds.length):eR (.aj j) (.int i) x s=some (s.set j (.lst (ds.set i.toNat x))):=by
 unfold eR;simp only[e,Tp h0 h1,aaU]
theorem Bn {j:Nat} {L:List (List Int)} {i:Int} (e:s[j]?=some (.lst (L.map mD))) (h0:0<=i) (h1:i<L.length):∃ns∈L,aq (.aj j) (.int i) s=ok (mD ns) s:=by
 obtain⟨x,e1,e2⟩:=mC h0 h1;exact⟨x,aaK e2,by simp only[aq,ic,res,e,Q4,e1,aaU,bF]⟩
theorem Rq {L:List (List Int)} {i:Nat} {ns:List Int}:(L.map mD).set i (mD ns)=(L.set i ns).map mD:=by rw[List.map_set]
theorem Tq (ha:a.length<=1000) (hb:b.length<=1000):bY (lf a) (lf b) s=ok (lf (a++b)) s:=by
 unfold bY lf;simp only[oF,res];rw[if_pos (by unfold jQ;rw[Y1,Y1];exact decide_eq_true (le_size (by omega))),Z3];rfl
theorem G1 (h:Wp (o env s) λd s=>Wp (i env s) λn s=>∃s',eR d n x s=some s'/\Q () s'):Wp (lV x o i env s) Q:=by
 unfold lV;rw[bu];refine h.mono λd s1 h1=>?_;rw[bu];refine h1.mono λn s2 h2=>?_;obtain⟨s',e,q⟩:=h2;rw[e];exact Wp.ok q
theorem Rr (e:fa env s=ok [x,y] s) (h:Wp (lV x o i env s) λ_ s=>Wp (lV y o' i' env s) λ_ s=>Q (.nx env) s):Wp (sf fa o i o' i' env s) Q:=by
 unfold sf;rw[e,fg];show Wp (au (lV x o i env s) λ_ s=>au (lV y o' i' env s) λ_ s=>ok (Fl.nx env) s) Q;rw[bu];refine h.mono λ_ s1 h1=>?_;rw[bu];exact h1.mono λ_ s2 q=>Wp.ok q
structure Gr (s0:ag) (k j:Nat) (L:List (List Int)) (s:ag):Prop where
 st:bP s k
 ex:Ex k s0 s
 at_:s[j]?=some (.lst (L.map mD))
 gR:∀ns∈L,bW 8 ns
 jk:j≠k
 hj:s0.length<=j
theorem Ex.cell (h:Ex k s0 s) (hj:s0.length<=j):Ex k s0 (s.set j c):=⟨by rw[ZU];exact h.len,λi hi hk=>by rw[Ze (by omega)];exact h.val i hi hk⟩
theorem Gr.app (h:Gr s0 k j L s) (hL:L.length<=1000) (hn:bW 8 ns):gJ (.aj j) s=true/\gI (.aj j) (mD ns) s=ok .aA (s.set j (.lst ((L++[ns]).map mD)))/\Gr s0 k j (L++[ns]) (s.set j (.lst ((L++[ns]).map mD))):=by
 refine⟨by simp only[gJ,h.at_],?_,⟨h.st.set h.jk _,h.ex.cell h.hj,by rw[Zi (Y0.mp h.at_).1],λx hx=>?_,h.jk,h.hj⟩⟩
 ·unfold gI
  simp only[h.at_];rw[if_pos (by rw[decide_eq_true_eq,Y1];exact Y5 (show L.length<1001 by omega) (le_size (by decide)))];rw[Z3];rfl
 ·rcases Zq.mp hx with hx|hx
  ·exact h.gR x hx
  ·rw[Zs.mp hx];exact hn
theorem Rt {k j:Nat} {L:List (List Int)} {a b:Int} {Q:Fl->ag->Prop} (h:Gr s0 k j L s) (a0:0<=a) (a1:a<L.length) (b0:0<=b) (b1:b<L.length) (z2:env[2]?=some (some (.int a))) (z5:env[5]?=some (some (.int b))) (z6:env[6]?=some (some (.aj j)))
 (q:∀s' L',Gr s0 k j L' s'->L'.length=L.length->Q (.nx env) s'):Wp (sf (ae (e2 aq (aa 6) (aa 5)) (ae (e2 aq (aa 6) (aa 2)) ai)) (aa 6) (aa 2) (aa 6) (aa 5) env s) Q:=by
 have l2:∀s,aa 2 env s=ok (.int a) s:=λs=>by unfold aa;rw[z2]
 have l5:∀s,aa 5 env s=ok (.int b) s:=λs=>by unfold aa;rw[z5]
 have l6:∀s,aa 6 env s=ok (.aj j) s:=λs=>by unfold aa;rw[z6]
 obtain⟨na,ha,ea⟩:=Bn h.at_ a0 a1;obtain⟨nb,hb,eb⟩:=Bn h.at_ b0 b1;have put:∀{s:ag} {L:List (List Int)} {i:Int} {ns:List Int},Gr s0 k j L s->0<=i->i<L.length->bW 8 ns->eR (.aj j) (.int i) (mD ns) s=some (s.set j (.lst ((L.set i.toNat ns).map mD)))/\Gr s0 k j (L.set i.toNat ns) (s.set j (.lst ((L.set i.toNat ns).map mD))):=λ{s L i ns} h i0 i1 hn=>by
  refine⟨by rw[setAt h.at_ i0 (by rw[Y1];exact i1),Rq],h.st.set h.jk _,h.ex.cell h.hj,by rw[Zi (Y0.mp h.at_).1],λx hx=>?_,h.jk,h.hj⟩
  rcases List.mem_or_eq_of_mem_set hx with hx|rfl
  ·exact h.gR x hx
  ·exact hn
 refine Rr (x:=mD nb) (y:=mD na) ?_ (G1 ?_)
 ·unfold ae e2 ai
  simp only[l2,l5,l6,fg,ea,eb]
 ·rw[l6,wp_ok,l2,wp_ok]
  obtain⟨p1,g1⟩:=put h a0 a1 (h.gR nb hb);refine⟨_,p1,G1 ?_⟩;rw[l6,wp_ok,l5,wp_ok];obtain⟨p2,g2⟩:=put g1 b0 (by rw[ZU];exact b1) (h.gR na ha);exact⟨_,p2,q _ _ g2 (by rw[ZU,ZU])⟩
theorem Ru (L:List (List Int)):oj (L.map mD)=(L.zipIdx 0).map λp=>D.tup [.int (p.2:Nat),mD p.1]:=by
 unfold oj
 first|rfl | (rw[List.zipIdx_map];simp[Z7,aaT])
theorem Oc (h:Gr s0 k j L s) (hL:L.length<=1000) (hn:bW 8 ns)
 (q:∀ki x,bW 8 ki->Gr s0 k j (L++[ki]) (s.set j (.lst ((L++[ki]).map mD)))->Q (.nx [some X,some Y,some (.int at_),some (.int mk),some (.int way),some (.int to),b,some (.int la),some (.aj j),some (.int d),some (mD ns),x]) (s.set j (.lst ((L++[ki]).map mD)))) :
  Wp (yK [some X,some Y,some (.int at_),some (.int mk),some (.int way),some (.int to),b,some (.int la),some (.aj j),some (.int d),some (mD ns),e] s) Q:=by
 unfold yK;simp only[VC];refine Wp.of (eQ (n:=8) rfl (by decide)) ⟨by rw[df];exact le_size (by decide),?_⟩;rw[w9];refine Wp.of (fx (λx=>!(decide (x∈ns)==(x==mk))) (λx=>.int x) k8 λx _=>⟨[some (.int x),some (mD ns),some (.int mk)],rfl,Wp.eq ?_,λ_=>rfl⟩) ?_
 ·simp only[VC,ko]
  refine Wp.of (show ei (.bl (decide (x∈ns))) (.bl (x==mk)) s=ok (.bl (!(decide (x∈ns)==(x==mk)))) s by cases decide (x∈ns)<;>cases x==mk<;>rfl) ?_
  simp only[VC,and_self]
 refine Wp.of (show cj [.lst ((k8.filter λx=>!(decide (x∈ns)==(x==mk))).map λx=>.int x)] s=ok (mD (k8.filter λx=>!(decide (x∈ns)==(x==mk)))) s from rfl) ?_;have hm:=zZ λx=>!(decide (x∈ns)==(x==mk));generalize (k8.filter λx=>!(decide (x∈ns)==(x==mk)))=ms at hm |-;obtain⟨g1,g2,g3⟩:=h.app hL hm;obtain⟨f1,f2,f3⟩:=h.app hL hn;refine⟨g1,?_⟩
 by_cases h1:at_<=d<;>by_cases h2:d<la<;>simp only[h1,h2,decide_true,decide_false,if_true,Y2,if_false]
 ·exact Wp.of g2 (q _ _ hm g3)
 ·exact Wp.of f2 (q _ _ hn f3)
 ·exact Wp.of f2 (q _ _ hn f3)
 ·exact Wp.of f2 (q _ _ hn f3)
end DI
namespace DI
open PySem L2 TK
theorem z9 (st:bP s k) (ex:Ex k s0 s) (h:∀ns∈L,bW 8 ns):Gr s0 k s.length L (s++[.lst (L.map mD)]) :=
 ⟨st.app _,ex.trans (Ex.app k s _),by simp,h,aan st.lt,ex.len⟩
theorem Od (hb:cu ps=true) (hm:0<=m/\m<4) (h:Gr s0 k j L s) (hL:L.length=31) (t0:0<=at_) (t1:at_ < 31) (hX:X=.aj k) :
  Wp (az (bR (aE (e2 aT (aa 4) (eC (.int 2)))) (fS (e2 aq (dR (ae (eB jH (ae (e2 aq (aa 8) (aa 2)) ai)) (ae (e2 bY (e2 aq (aa 8) (aa 2)) (bB (ae (eC (.int 9)) ai))) (ae (eC .aA) (ae (e2 bY (e2 aq (aa 8) (aa 2)) (bB (ae (eC (.int 0)) ai))) ai))))) (aC bX (ae (aa 0) (ae (eC (.int 4)) ai)))) (aa 8) (aa 2)) bT) (aO (eB cj (ae (aa 8) ai)))
   [some X,some Y,some (.int at_),a3,some (.int way),a5,a6,a7,some (.aj j),a9,nG,nH] s) (oI λd s'=>bP s' k/\Ex k s0 s'/\Lk ps m d):=by
 subst hX;refine Wp.step λR hR=>?_;simp only[VC];by_cases hw:way=2
 ·subst hw
  simp only[beq_self_eq_true,if_true];obtain⟨ns,hn,e⟩:=Bn h.at_ t0 (by omega);have hk:=h.gR ns hn;have nl:=hk.len;refine Wp.of e (Wp.of (show jH [mD ns] s=ok (lI ns) s from rfl) (Wp.of e ⟨by decide,?_⟩));have ad:∀x:Int,bY (mD ns) (.tup [.int x]) s=ok (mD (ns++[x])) s:=λx=>by
   unfold bY;simp only[oF,res];rw[if_pos (by unfold jQ;rw[Y1];exact decide_eq_true (le_size (by simp;omega)))];simp[bF]
  refine Wp.of (ad 9) (Wp.of e ⟨by decide,Wp.of (ad 0) ⟨by decide,?_⟩⟩);refine(eY h.st (by decide) (by decide)).mono λx s1 hx=>?_;obtain⟨r,rfl,r0,r1,st,ex⟩:=hx;have bd:∀x,x∈ns->-1<=x/\x<=60:=λx hx=>by have:=hk.lo x hx;omega
  have sm:∀y:Int,0<=y/\y<=9->Sm (.mk (ns++[y])):=λy hy=>⟨by show (ns++[y]).length<=20;simp;omega,λx hx=>by
   rcases Zq.mp (show x∈ns++[y] from hx) with hx|hx
   ·exact bd x hx
   ·rw[Zs.mp hx];omega⟩
  have Kq:s1[j]?=some (.lst (L.map mD)):=by rw[ex.val j (Y0.mp h.at_).1 h.jk];exact h.at_
  have fin:∀(v:Rv),Sm v->Wp (ok v.d s1) λd s2=>∃s',eR (.aj j) (.int at_) d s2=some s'/\Wp (R [some (.aj k),some Y,some (.int at_),a3,some (.int 2),a5,a6,a7,some (.aj j),a9,nG,nH] s') (oI λd s'=>bP s' k/\Ex k s0 s'/\Lk ps m d):=λv hv=>by
   refine Wp.ok ⟨_,setAt Kq t0 (by rw[Y1];omega),?_⟩;subst hR;have e3:(s1.set j (.lst ((L.map mD).set at_.toNat v.d)))[j]?=some (.lst (((L.map Rv.mk).set at_.toNat v).map Rv.d)):=by
    rw[Zi (Y0.mp Kq).1,List.map_set,<- G0]
   simp only[wp_sRet,wp_eB,wp_aCons,wp_aNil,wp_loc0,wp_locS];refine Wp.of (a:=.tup (((L.map Rv.mk).set at_.toNat v).map Rv.d)) (s:=s1.set j (.lst ((L.map mD).set at_.toNat v.d))) (by unfold cj;simp only[res,e3]) ?_;rw[fin_rt];refine⟨st.set h.jk _,(h.ex.trans ex).cell h.hj,GZ hb hm (by rw[ZU,Y1];omega) λr hr=>?_⟩
   rcases List.mem_or_eq_of_mem_set hr with hr|rfl
   ·exact zu h.gR r hr
   ·exact hv
  rcases(show r=0\/r=1\/r=2\/r=3 by omega) with rfl|rfl|rfl|rfl
  ·exact fin (.ls ns) ⟨by show ns.length<=20;omega,bd⟩
  ·exact fin (.mk (ns++[9])) (sm 9 (by omega))
  ·exact fin .no ⟨by show 0<=20;omega,λx hx=>(by cases hx)⟩
  ·exact fin (.mk (ns++[0])) (sm 0 (by omega))
 ·rw[if_neg (by simpa using hw)]
  subst hR;simp only[wp_sRet,wp_eB,wp_aCons,wp_aNil,wp_loc0,wp_locS];refine Wp.of (show cj [.aj j] s=ok (lf L) s by unfold cj;simp only[res,h.at_]) ?_;rw[fin_rt];exact⟨h.st,h.ex,(ot hb hm (by omega) h.gR).1⟩
theorem Rx (hb:cu ps=true) (hm:0<=m/\m<4) (h:bP s k) (hL:L.length=31) (hM:∀ns∈L,bW 8 ns):Wp (vF [.aj k,lf L] s) λd s'=>bP s' k/\Ex k s s'/\Lk ps m d:=by
 unfold vF;refine wp_fn.symm ▸ ⟨rfl,Wp.step λR hR=>?_⟩;simp only[VC];refine(eY h (by decide) (by decide)).mono λx s1 hx=>?_;obtain⟨at_,rfl,t0,t1,Kr,x1⟩:=hx;refine(eY Kr (by decide) (by decide)).mono λx s2 hx=>?_;obtain⟨mk,rfl,m0,m1,gv,x2⟩:=hx;refine(eY gv (by decide) (by decide)).mono λx s3 hx=>?_;obtain⟨way,rfl,w0,w1,j0,x3⟩:=hx;refine⟨by decide,?_⟩;subst hR;refine Wp.step λR hR=>?_;simp only[VC];refine(eY j0 (by decide) (by decide)).mono λx s4 hx=>?_;obtain⟨to,rfl,o0,o1,st,x4⟩:=hx;have ex:=x1.trans (x2.trans (x3.trans x4));clear x1 x2 x3 x4 Kr gv j0;subst hR;refine Wp.step λR hR=>?_;simp only[wp_sIf,wp_tBl,wp_e2,wp_loc0,wp_locS,wp_C,wp_eqI,wp_isBl];by_cases hw:way=0
 ·rw[if_pos (by simp[hw])]
  simp only[VC,nV (show eC (.int 30) [some (.aj k),some (lf L),some (.int at_),some (.int mk),some (.int way),some (.int to),none,none,none,none,none,none] s4=ok (.int 30) s4 from rfl)];obtain⟨L1,e1,l1,i1⟩:=H0 L none (some 30);obtain⟨L2,e2,l2,i2⟩:=H0 L (some (-1)) none;refine Wp.of (e1 s4) ?_;rw[nV (i:=-1) rfl];refine(Wp.of (e2 s4) (Wp.of (Tq (by omega) (by omega)) (Wp.of (show jH [lf L] s4=ok (.lst (L.map mD)) s4 from rfl) (Wp.of (show wX (lf L) s4=ok (lf L.reverse) s4 by show ok (D.tup (L.map mD).reverse) s4=_;rw[<- List.map_reverse]) ⟨by decide,?_⟩))));refine(eY st (by decide) (by decide)).mono λx s5 hx=>?_;obtain⟨r,rfl,r0,r1,gO,x5⟩:=hx
  rcases(show r=0\/r=1\/r=2\/r=3 by omega) with rfl|rfl|rfl|rfl
  ·exact Wp.ok ⟨gO,ex.trans x5,(ot hb hm (by omega) λns hn=>hM ns (i1 ns hn)).1⟩
  ·refine Wp.ok ⟨gO,ex.trans x5,(ot hb hm (by rw[Zx];omega) λns hn=>?_).1⟩
   rcases Zq.mp hn with hn|hn
   ·exact hM ns hn
   ·exact hM ns (i2 ns hn)
  ·exact Wp.ok ⟨gO,ex.trans x5,(ot hb hm (by omega) hM).2⟩
  ·exact Wp.ok ⟨gO,ex.trans x5,(ot hb hm (by rw[adm];omega) λns hn=>hM ns (List.mem_reverse.mp hn)).1⟩
 rw[if_neg (by simpa using hw)];simp only[wp_sNil,aft_nx];subst hR;refine Wp.step λR hR=>?_;simp only[wp_sIf,wp_tBl,wp_e2,wp_loc0,wp_locS,wp_C,wp_eqI,wp_isBl];by_cases Ks:way=1
 ·rw[if_pos (by simp[Ks])]
  refine mO (env':=[some (.aj k),some (lf L),some (.int at_),some (.int mk),some (.int way),some (.int to),some (.aj s4.length),none,none,none,none,none]) (s':=s4++[.lst (L.map mD)]) rfl ?_;rw[wp_sSeq];refine Rt (z9 st ex hM) t0 (by omega) o0 (by omega) rfl rfl rfl λs' L' g hl=>?_;simp only[aft_nx,wp_sRet,wp_eB,wp_aCons,wp_aNil,wp_loc0,wp_locS];refine Wp.of (show cj [.aj s4.length] s'=ok (lf L') s' by unfold cj;simp only[res,g.at_]) ?_;exact⟨g.st,g.ex,(ot hb hm (by omega) g.gR).1⟩
 rw[if_neg (by simpa using Ks)];simp only[wp_sNil,aft_nx];subst hR;obtain⟨la,e⟩:∃la:Int,(aP (e2 aq (dR (ae (e2 bY (aa 2) (eC (.int 1))) (ae (eC (.int 31)) (ae (eB kC (ae (e2 bY (aa 2) (eC (.int 1))) (ae (aa 5) ai))) ai)))) (e2 jh (aa 4) (eC (.int 3)))) (gN 7)) [some (.aj k),some (lf L),some (.int at_),some (.int mk),some (.int way),some (.int to),none,none,none,none,none,none] s4=ok (.nx [some (.aj k),some (lf L),some (.int at_),some (.int mk),some (.int way),some (.int to),none,some (.int la),none,none,none,none]) s4:=by
  have VT:way % 3=0\/way % 3=1\/way % 3=2:=by omega
  have mx:∃y:Int,kC [.int (at_ + 1),.int to] s4=ok (.int y) s4:=by
   unfold kC
   first|exact⟨_,rfl⟩ | (split<;>exact⟨_,rfl⟩)
  obtain⟨y,ey⟩:=mx;have md:jh (.int way) (.int 3) s4=ok (.int (way % 3)) s4:=oJ s4 (by decide)
  rcases VT with hq|hq|hq
  ·refine⟨at_ + 1,Wp.eq ?_⟩
   simp only[VC];refine Wp.of ey ⟨by decide,Wp.of md ?_⟩;rw[hq];exact Wp.ok ⟨rfl,rfl⟩
  ·refine⟨31,Wp.eq ?_⟩
   simp only[VC];refine Wp.of ey ⟨by decide,Wp.of md ?_⟩;rw[hq];exact Wp.ok ⟨rfl,rfl⟩
  ·refine⟨y,Wp.eq ?_⟩
   simp only[VC];refine Wp.of ey ⟨by decide,Wp.of md ?_⟩;rw[hq];exact Wp.ok ⟨rfl,rfl⟩
 refine mO e ?_;refine mO (env':=[some (.aj k),some (lf L),some (.int at_),some (.int mk),some (.int way),some (.int to),none,some (.int la),some (.aj s4.length),none,none,none]) (s':=s4++[.lst []]) rfl ?_;refine Wp.step λR hR=>?_;rw[wp_sFor];refine Wp.of (show An (ae (aa 1) ai) _ _=ok (oj (L.map mD)) _ from rfl) ?_;rw[Ru];refine Wp.gL (λi env t=>∃L' x9 gS kQ,Gr s k s4.length L' t/\L'.length=i/\env=[some (.aj k),some (lf L),some (.int at_),some (.int mk),some (.int way),some (.int to),none,some (.int la),some (.aj s4.length),x9,gS,kQ]) _ ⟨[],_,_,_,z9 (L:=[]) st ex (λ_ h=>(by cases h)),rfl,rfl⟩ (λi d env t hd hI=>?_) λenv t hI=>?_
 ·obtain⟨L',x9,gS,kQ,g,hl,rfl⟩:=hI
  rw[Zj] at hd;obtain⟨p,hp,rfl⟩:=Option.map_eq_some_iff.mp hd;have hi:=(Y0.mp hp).1;rw[List.length_zipIdx] at hi;have i5:p.1∈L:=by
   have:=aaK hp;exact(List.fst_mem_of_mem_zipIdx this)
  refine⟨_,rfl,Oc g (by omega) (hM _ i5) λki x Bo g'=>⟨L'++[ki],_,_,_,g',by rw[Zx,hl];rfl,rfl⟩⟩
 ·obtain⟨L',x9,gS,kQ,g,hl,rfl⟩:=hI
  rw[Y1,List.length_zipIdx,hL] at hl;rw[aft_nx];subst hR;exact Od hb hm g hl t0 t1 rfl
end DI
namespace DI
open PySem L2 TK
theorem H9 (p:Pg):lay p.d=true:=by
 cases p with
 |made m d a b=>simp only[Pg.d,lay,cO,ti,nQ,CP,aay]
 |aM m d k=>simp only[Pg.d,lay,cO,CQ,aay]
theorem MY:∃b,dg (.tup [.str "mended",.int m,.int d,.int k]) (bD ps) s=ok (.bl b) s:=by
 unfold dg;simp only[lM,res,inD];rw[if_pos (by unfold mJ;rw[vw Pg.d H9,show lay (.tup [.str "mended",.int m,.int d,.int k])=true from H9 (.aM m d k)];simp[dep,cB])];exact⟨_,rfl⟩
theorem xf (e:s[j]?=some (.lst L)) (hL:L.length<=1000):gJ (.aj j) s=true/\gI (.aj j) x s=ok .aA (s.set j (.lst (L++[x]))):=by
 refine⟨by simp only[gJ,e],?_⟩;unfold gI;simp only[e];rw[if_pos (by rw[decide_eq_true_eq];exact Y5 (show L.length<1001 by omega) (le_size (by decide)))]
structure Hr (s0:ag) (k j:Nat) (L:List (List Int)) (i:Nat) (n:Nat) (ns:List Int) (s:ag):Prop where
 gr:Gr s0 k j L s
 here:s[i]?=some (.lst (ns.map D.int))
 up:ns.Pairwise (· < ·)
 lo:∀x∈ns,0<=x/\x<n
 ik:i≠k
 ij:i≠j
 hi:s0.length<=i
theorem Gr.other (h:Gr s0 k j L s) (ik:i≠k) (ij:i≠j) (hi:s0.length<=i):Gr s0 k j L (s.set i c) :=
 ⟨h.st.set ik _,h.ex.cell hi,by rw[Ze ij];exact h.at_,h.gR,h.jk,h.hj⟩
theorem Gr.draw (h:Gr s0 k j L s) (st:bP s' k) (ex:Ex k s s'):Gr s0 k j L s' :=
 ⟨st,h.ex.trans ex,by rw[ex.val j (Y0.mp h.at_).1 h.jk];exact h.at_,h.gR,h.jk,h.hj⟩
theorem L8 (hb:cu ps=true) (hm:0<=m/\m<4) (hd:0<=d/\d<31) (hn:n<8) (h:Hr s0 k j L i n ns s) (hl:ns.length<=1000)
 (q:∀s' ki x,Hr s0 k j L i (n+1) ki s'->ki.length<=ns.length+1->Q (.nx [some (.aj k),some (bD ps),some (.int m),some (mP ps m),some (.aj j),some (lI as),some (.int d),some (.aj i),some (.int n),x]) s') :
  Wp (yl [some (.aj k),some (bD ps),some (.int m),some (mP ps m),some (.aj j),some (lI as),some (.int d),some (.aj i),some (.int n),x9] s) Q:=by
 have hk:(0:Int)<=n/\(n:Int)<8:=by omega
 have ne:=Ri (Rb hb hm hk) (d:=d.toNat) (by omega);have fin:∀(bs:List Bool),bs≠[]->bs.length<=2->Wp (bR (dD (e2 aq (aa 9) (aC bX (ae (aa 0) (ae (eB dj (ae (aa 9) ai)) ai))))) (dI (fJ (aa 7) (aa 8))) bT [some (.aj k),some (bD ps),some (.int m),some (mP ps m),some (.aj j),some (lI as),some (.int d),some (.aj i),some (.int n),some (.lst (bs.map D.bl))] s) Q:=λbs h0 h2=>by
  simp only[VC];refine Wp.of (show dj [.lst (bs.map D.bl)] s=ok (.int bs.length) s by rw[show dj [.lst (bs.map D.bl)] s=ok (.int ((bs.map D.bl).length:Nat)) s from rfl,Y1]) ?_
  have hp:0<bs.length:=by cases bs with|nil=>exact absurd rfl h0|cons _ _=>simp
  refine(eY h.gr.st (by omega) (by omega)).mono λx s1 hx=>?_;obtain⟨r,rfl,r0,r1,st,ex⟩:=hx;obtain⟨b,hb,e⟩:=z0 (ds:=bs.map D.bl) (s:=s1) r0 (by rw[Y1];exact r1);obtain⟨c,hc,rfl⟩:=Zv.mp hb;refine Wp.of e ?_;rw[wp_truB];have h':Hr s0 k j L i (n+1) ns s1:=⟨h.gr.draw st ex,by rw[ex.val i (Y0.mp h.here).1 h.ik];exact h.here,h.up,λx hx=>by have:=h.lo x hx;omega,h.ik,h.ij,h.hi⟩
  cases c with
  |false=>rw[if_neg Y7];exact q _ _ _ h' (by omega)
  |true =>
   rw[if_pos rfl];obtain⟨g1,g2⟩:=xf (x:=.int n) h'.here (by rw[Y1];exact hl);refine⟨(xf (x:=.aA) h'.here (by rw[Y1];exact hl)).1,Wp.of g2 ?_⟩;refine q _ (ns++[(n:Int)]) _ ⟨h'.gr.other h.ik h.ij h.hi,?_,?_,λx hx=>?_,h.ik,h.ij,h.hi⟩ (by simp)
   ·rw[Zi (Y0.mp h'.here).1,Z3];rfl
   ·rw[ac9]
    exact⟨h.up,abF _ _,λa ha b hb=>by rw[Zs.mp hb];exact(h.lo a ha).2⟩
   ·rcases Zq.mp hx with hx|hx
    ·have:=h.lo x hx;omega
    ·rw[Zs.mp hx];omega
 unfold yl;refine Wp.step λR hR=>?_;simp only[VC];refine Wp.of (UL hk) (Wp.of (Te hd) ?_);generalize bw (sN ps m n) (lN ps m n) (mN ps m n) d.toNat=x at ne |-;refine Wp.of (show jH [xa x] s=ok (.lst ((fL x).map D.bl)) s from rfl) ?_;have nl:fL x≠[]/\(fL x).length<=2:=by
  obtain⟨f,t⟩:=x
  cases f<;>cases t<;>first|exact absurd rfl ne|exact⟨by simp[fL],by simp[fL]⟩
 subst hR;refine Wp.step λR hR=>?_;simp only[VC,kE];obtain⟨b,eb⟩:=MY (ps:=ps) (m:=m) (d:=d) (k:=n) (s:=s);have en:bN (.bl true) (.lst ((fL x).map D.bl)) s=ok (.bl x.2) s:=by
  obtain⟨f,t⟩:=x
  cases f<;>cases t<;>rfl
 by_cases h1:(n:Int)∈as
 ·simp only[h1,decide_true,if_true]
  refine Wp.of en ?_;simp only[VC]
  cases x.2 with
  |false=>simp only[Y2,if_false];subst hR;exact fin _ nl.1 nl.2
  |true =>
   simp only[if_true];refine⟨by decide,Wp.of eb ?_⟩;simp only[VC]
   cases b with
   |false=>simp only[Y2,if_false];subst hR;exact fin _ nl.1 nl.2
   |true=>simp only[if_true];refine⟨by decide,?_⟩;subst hR;exact fin [true] (by simp) (by simp)
 ·simp only[h1,decide_false,Y2,if_false]
  subst hR;exact fin _ nl.1 nl.2
theorem MZ (hb:cu ps=true) (hm:0<=m/\m<4) (hd:0<=d/\d<31) (h:Gr s0 k j L s) (hl:L.length<=100)
 (q:∀s' ns CT y7 y8 y9,Gr s0 k j (L++[ns]) s'->Q (.nx [some (.aj k),some (bD ps),some (.int m),some (mP ps m),some (.aj j),some (lI CT),some (.int d),y7,y8,y9]) s') :
  Wp (ym [some (.aj k),some (bD ps),some (.int m),some (mP ps m),some (.aj j),some (lI as),some (.int d),x7,x8,x9] s) Q:=by
 unfold ym;refine mO (env':=[some (.aj k),some (bD ps),some (.int m),some (mP ps m),some (.aj j),some (lI as),some (.int d),some (.aj s.length),x8,x9]) (s':=s++[.lst []]) rfl ?_;refine Wp.step λR hR=>?_;rw[wp_sFor];refine Wp.of (eQ (n:=8) rfl (by decide)) ?_;have jl:=(Y0.mp h.at_).1;have g0:Gr s0 k j L (s++[.lst []]):=h.draw (h.st.app _) (Ex.app k s _);refine Wp.gL (λi env t=>∃ns x8 x9,Hr s0 k j L s.length i ns t/\ns.length<=i/\env=[some (.aj k),some (bD ps),some (.int m),some (mP ps m),some (.aj j),some (lI as),some (.int d),some (.aj s.length),x8,x9]) _ ⟨[],_,_,⟨g0,by simp,List.Pairwise.nil,λx hx=>(by cases hx),aan h.st.lt,aan jl,h.ex.len⟩,Nat.le_refl _,rfl⟩ (λi e env t he hI=>?_) λenv t hI=>?_
 ·obtain⟨ns,x8,x9,g,hl,rfl⟩:=hI
  rw[gX] at he;split at he
  ·rename_i hi
   have he:D.int (0+(i:Int))=e:=Option.some.inj he;rw[ac6] at he;subst he;refine⟨_,rfl,L8 hb hm hd hi g (by omega) λs' ki x g' l8=>⟨ki,_,_,g',by omega,rfl⟩⟩
  ·cases he
 ·obtain⟨ns,x8,x9,g,hl,rfl⟩:=hI
  rw[df] at g hl;rw[aft_nx];subst hR;have hk:bW 8 ns:=⟨λx hx=>by have:=g.lo x hx;omega,g.up⟩;refine Wp.step λR hR=>?_;obtain⟨g1,g2,g3⟩:=g.gr.app (ns:=ns) (by omega) hk;simp only[wp_sExpr,wp_app,wp_eB,wp_aCons,wp_aNil,wp_loc0,wp_locS];refine⟨g1,Wp.of (show cj [.aj s.length] t=ok (mD ns) t by unfold cj;simp only[res,g.here]) (Wp.of g2 ?_)⟩;rw[aft_nx];subst hR;have e:(t.set j (.lst ((L++[ns]).map mD)))[s.length]?=some (.lst (ns.map D.int)):=by rw[Ze (abe g.ij)];exact g.here
  simp only[wp_sAsg,asg_N,wp_frz,wp_loc0,wp_locS];refine Wp.of (show cE (.aj s.length) _=ok (lI ns) ((t.set j (.lst ((L++[ns]).map mD))).set s.length .dead) by unfold cE;simp only[e]) ?_;exact q _ ns ns _ _ _ (g3.other g.ik g.ij g.hi)
theorem Oe (hb:cu ps=true) (hm:0<=m/\m<4) (h:bP s k):Wp (u6 [.aj k,bD ps,.int m] s) λx s'=>∃L,x=lf L/\L.length=31/\(∀ns∈L,bW 8 ns)/\bP s' k/\Ex k s s':=by
 obtain⟨hl,hg⟩:=pM hb;unfold u6;refine wp_fn.symm ▸ ⟨rfl,Wp.step λR hR=>?_⟩;refine Wp.IL ?_;simp only[VC];refine Wp.of (eQ (n:=8) rfl (by decide)) ⟨by rw[df];exact le_size (by decide),?_⟩;refine PB (G:=qC ps m) (b:=bD ps) (mu:=m) (λk s=>Tc (by omega) λp hp=>⟨(hg p hp).day,(hg p hp).gk,(hg p hp).apart⟩) rfl λc=>?_;refine⟨by decide,by decide,_,_,_,rfl,?_⟩;subst hR;have g0:=z9 (s0:=s) (L:=[]) (h.app c) (Ex.app k s c) (λ_ h=>(by cases h));generalize (s++c).length=j at g0 |-;generalize s++c=s1 at g0 |-;refine Wp.step λR hR=>?_;rw[wp_sFor];refine Wp.of (eQ (n:=31) rfl (by decide)) ?_;refine Wp.gL (λi env t=>∃L as x6 x7 x8 x9,Gr s k j L t/\L.length=i/\env=[some (.aj k),some (bD ps),some (.int m),some (mP ps m),some (.aj j),some (lI as),x6,x7,x8,x9]) _ ⟨[],[],_,_,_,_,g0,rfl,rfl⟩ (λi e env t he hI=>?_) λenv t hI=>?_
 ·obtain⟨L,as,x6,x7,x8,x9,g,hl,rfl⟩:=hI
  rw[gX] at he;split at he
  ·rename_i hi
   have he:D.int (0+(i:Int))=e:=Option.some.inj he;rw[ac6] at he;subst he;exact⟨_,rfl,MZ hb hm (by omega) g (by omega) λs' ns CT y7 y8 y9 g'=>⟨_,CT,_,_,_,_,g',by rw[Zx,hl];rfl,rfl⟩⟩
  ·cases he
 ·obtain⟨L,as,x6,x7,x8,x9,g,hl,rfl⟩:=hI
  rw[df] at hl;rw[aft_nx];subst hR;simp only[wp_sRet,wp_eB,wp_aCons,wp_aNil,wp_loc0,wp_locS];refine Wp.of (show cj [.aj j] t=ok (lf L) t by unfold cj;simp only[res,g.at_]) ?_;exact⟨L,rfl,hl,g.gR,g.st,g.ex⟩
end DI
namespace DI
open PySem L2 TK
theorem Ry (b:Bool) (s:ag):vC 8 [.bl b,.bl b] s=ok (.bl true) s:=by cases b<;>rfl
theorem M0 {ps:List Pg} {m:Int} {d:D} {s:ag} {e0 e1 e2 e5 e6 e7 e9 e10:Option D} (h:Lk ps m d):Wp (zS [e0,e1,e2,some (bD ps),some (.int m),e5,e6,e7,some d,e9,e10] s) λfl s'=>s'=s/\∃x y,fl=.nx [e0,e1,e2,some (bD ps),some (.int m),e5,e6,e7,some d,x,y]:=by
 obtain⟨b,g1,g2⟩:=h.both s;have rp:sd [d] s=ok (.str (py d).shown) s:=by
  show (if oo (res d s)=true then ok (D.str (py (res d s)).shown) s else none)=_
  rw[h.nh,if_pos h.rep]
 unfold zS;refine Wp.step λR hR=>?_;simp only[VC];refine Wp.of rp (Wp.of g1 ?_);subst hR;simp only[VC];refine Wp.of g2 (Wp.of (Ry b s) ?_);simp only[VC,Zr,Y2,if_false];refine Wp.of rp (Wp.of ne_str ?_);simp only[VC,Y2,if_false];exact⟨_,_,rfl⟩
theorem Rz (F:Int->List Int):cS F=lf (cD.map F):=by unfold cS lf;rw[Z7];rfl
def Lv (d:D):Prop:=∃L,d=lf L/\L.length=31/\∀ns∈L,bW 8 ns
theorem G2 (h:∀d,bW 8 (F d)):Lv (cS F):=⟨_,Rz F,by simp[cD],λns hn=>by obtain⟨d,_,rfl⟩:=Zv.mp hn;exact h d⟩
theorem UO (hb:cu ps=true) (hm:0<=m/\m<4) (h:Lv d):Lk ps m d:=by
 obtain⟨L,rfl,hl,hk⟩:=h;exact(ot hb hm (by omega) hk).1
structure xT (ps:List Pg) (m:Int) (k j:Nat) (ds:List D) (s:ag):Prop where
 st:bP s k
 at_:s[j]?=some (.lst ds)
 lk:∀d∈ds,Lk ps m d
 jk:j≠k
theorem Of {ps:List Pg} {m:Int} {s:ag} {k j:Nat} {ds lv:List D} {e0 e1 e7 e8 e9 e10:Option D} {Q:Fl->ag->Prop} (hb:cu ps=true) (hm:0<=m/\m<4) (h:xT ps m k j ds s) (hd:ds.length<=1000) (h3:lv.length=3) (hv:∀d∈lv,Lv d)
  (q:∀d s',xT ps m k j (ds++[d]) s'->Q (.nx [e0,e1,some (.aj k),some (bD ps),some (.int m),some (.lst lv),some (.aj j),e7,e8,e9,e10]) s') :
  Wp (zR [e0,e1,some (.aj k),some (bD ps),some (.int m),some (.lst lv),some (.aj j),e7,e8,e9,e10] s) Q:=by
 unfold zR;simp only[VC];refine⟨(xf (x:=.aA) h.at_ hd).1,?_⟩;refine(eY h.st (by decide) (by decide)).mono λx s1 hx=>?_;obtain⟨r,rfl,r0,r1,st,ex⟩:=hx;obtain⟨d,XQ,e⟩:=z0 (ds:=lv) (s:=s1) r0 (by omega);obtain⟨L,rfl,hl,hk⟩:=hv d XQ;refine Wp.of e ((Rx hb hm st hl hk).mono λd s2 hx=>?_);obtain⟨gv,xN,lk⟩:=hx;have XR:=ex.trans xN;have at2:s2[j]?=some (.lst ds):=by rw[XR.val j (Y0.mp h.at_).1 h.jk];exact h.at_
 refine Wp.of (xf at2 hd).2 (q d _ ⟨gv.set h.jk _,by rw[Zi (Y0.mp at2).1],λy hy=>?_,h.jk⟩)
 rcases Zq.mp hy with hy|hy
 ·exact h.lk y hy
 ·rw[Zs.mp hy];exact lk
theorem Og {W:World} {ns:List Int} {i:Int} {s:ag} {e2 e3 e4 e5 e6 e7 e8 e9 e10:Option D} {Q:Fl->ag->Prop} (hi:0<=i)
  (q:∀e2 e3 e4 e5 e6 e7 e8 e9 e10 s',Q (.nx [some (.bG ns),some (.int i),e2,e3,e4,e5,e6,e7,e8,e9,e10]) s') :
  Wp (zT W [some (.bG ns),some (.int i),e2,e3,e4,e5,e6,e7,e8,e9,e10] s) Q:=by
 unfold zT;refine Wp.step λR hR=>?_;simp only[VC];refine(Po hi).mono λd s1 hd=>?_;obtain⟨rfl,h1,c1,rfl⟩:=hd;generalize s.length=k at h1;subst hR;refine Wp.step λR hR=>?_;simp only[VC];refine(PH h1).mono λd s2 hd=>?_;obtain⟨ps,rfl,YV,h2,x2,hb⟩:=hd;rw[nV (i:=24) rfl];refine Wp.of (Tf (n:=24)) ?_;rw[List.take_of_length_le (by omega)];refine(eY h2 (by decide) (by decide)).mono λd s3 hd=>?_;obtain⟨m,rfl,m0,m1,h3,x3⟩:=hd;subst hR;have hm:0<=m/\m<4:=⟨m0,m1⟩;obtain⟨hl,hg⟩:=pM hb;refine Wp.step λR hR=>?_;simp only[VC];refine(Oe hb hm h3).mono λd s4 hd=>?_;obtain⟨L,rfl,XT,lk,h4,x4⟩:=hd;refine(PC (by omega) (λp hp=>(hg p hp).gk) hb hm).mono λd s5 hd=>?_;obtain⟨rfl,c5,rfl⟩:=hd;refine(Rk (by omega) (λp hp=>(hg p hp).gk) hb hm).mono λd s6 hd=>?_;obtain⟨rfl,c6,rfl⟩:=hd;refine⟨by decide,?_⟩;subst hR;have h6:=(h4.app c5).app c6;generalize s4++c5++c6=s6 at h6 |-;have hv:∀d∈[lf L,cS (qg ps m),cS (wC ps m)],Lv d:=λd hd=>by
  simp only[Zh,Z5,or_false] at hd
  rcases hd with rfl|rfl|rfl
  ·exact⟨L,rfl,XT,lk⟩
  ·exact G2 λd=>zZ _
  ·exact G2 λd=>zZ _
 generalize Kt:[lf L,cS (qg ps m),cS (wC ps m)]=lv at hv |-;have Ku:lv.length=3:=by rw[<- Kt];rfl
 clear Kt;refine Wp.step λR hR=>?_;simp only[VC];refine(Tn hb hm h6).mono λd s7 hd=>?_;obtain⟨h7,x7,od⟩:=hd
 refine⟨by decide,Wp.of (show wa (.lst lv) (.lst [d]) s7=ok (.aj s7.length) (s7++[.lst (lv++[d])]) by show (if jQ lv [d]=true then ok (D.aj s7.length) (s7++[.lst (lv++[d])]) else none)=_;rw[if_pos (by unfold jQ;exact decide_eq_true (le_size (by simp only[Zz,ZY];omega)))]) ?_⟩
 subst hR;have t0:xT ps m k s7.length (lv++[d]) (s7++[.lst (lv++[d])]):=⟨h7.app _,by simp,λy hy=>by
  rcases Zq.mp hy with hy|hy
  ·exact UO hb hm (hv y hy)
  ·rw[Zs.mp hy];exact od,aan h7.lt⟩
 have n0:(lv++[d]).length=4+0:=by rw[Zx,Ku];rfl
 generalize lv++[d]=ds at t0 n0;generalize s7.length=j at t0;generalize s7++[Cell.lst ds]=s8 at t0;refine Wp.step λR hR=>?_;rw[wp_sFor];refine Wp.of (eQ (n:=5) rfl (by decide)) ?_;refine Wp.gL (λn env t=>∃ds e7 e8 e9 e10,xT ps m k j ds t/\ds.length=4+n/\env=[some (.bG ns),some (.int i),some (.aj k),some (bD ps),some (.int m),some (.lst lv),some (.aj j),e7,e8,e9,e10]) _ ⟨ds,_,_,_,_,t0,n0,rfl⟩ (λn d env t hd hI=>?_) λenv t hI=>?_
 ·obtain⟨ds,e7,e8,e9,e10,g,hn,rfl⟩:=hI
  have YW:n<5:=by have:=(Y0.mp hd).1;rw[df] at this;exact this
  exact⟨_,rfl,Of hb hm g (by omega) Ku hv λd s' g'=>⟨_,_,_,_,_,g',by rw[Zx,hn];rfl,rfl⟩⟩
 ·obtain⟨ds,e7,e8,e9,e10,g,hn,rfl⟩:=hI
  rw[aft_nx];subst hR;rw[wp_sFor];refine Wp.of (gW (s1:=t.set j .dead) (ds:=ds) (Wp.eq ?_)) ?_
  ·simp only[wp_frz,wp_loc0,wp_locS]
   exact Wp.of (show cE (.aj j) t=ok (.lst ds) (t.set j .dead) by unfold cE;simp only[g.at_]) ⟨rfl,rfl⟩
  generalize t.set j Cell.dead=t';refine Wp.gL (λn env t=>∃e8 e9 e10,env=[some (.bG ns),some (.int i),some (.aj k),some (bD ps),some (.int m),some (.lst lv),some (.aj j),e7,e8,e9,e10]) _ ⟨_,_,_,rfl⟩ (λn d env t hd hI=>?_) λenv t hI=>?_
  ·obtain⟨e8,e9,e10,rfl⟩:=hI
   refine⟨_,rfl,(M0 (g.lk d (aaK hd))).mono λfl s' z=>?_⟩;obtain⟨rfl,x,y,rfl⟩:=z;exact⟨_,_,_,rfl⟩
  ·obtain⟨e8,e9,e10,rfl⟩:=hI
   exact q _ _ _ _ _ _ _ _ _ _
theorem PV (W:World) (ns:List Int) (hn:ns.length<=63):∃s,wz W [.bG ns] []=some (.ok (.bl true),s):=by
 suffices h:Wp (wz W [.bG ns] []) λd _=>d=.bl true by
  obtain⟨d,s,e,rfl⟩:=h;exact⟨s,e⟩
 unfold wz;refine wp_fn.symm ▸ ⟨rfl,Wp.step λR hR=>?_⟩;rw[wp_sFor];have hr:∃n:Nat,n<=1000/\(ae (eB kC (ae (eC (.int 1)) (ae (eB wq (ae (eB dj (ae (aa 0) ai)) (ae (eC (.int 3)) ai))) ai))) ai) [some (.bG ns),none,none,none,none,none,none,none,none,none,none] []=ok [.int n] []:=by
  refine⟨(if (if (3:Int)<ns.length then (3:Int) else ns.length) > 1 then (if (3:Int)<ns.length then (3:Int) else ns.length) else 1).toNat,by split<;>split<;>omega,?_⟩
  rw[Int.toNat_of_nonneg (by split<;>split<;>omega)]
  rfl
 obtain⟨n,hn,hr⟩:=hr;refine Wp.of (eQ hr (by omega)) ?_;refine Wp.gL (λi env s=>∃e1 e2 e3 e4 e5 e6 e7 e8 e9 e10,env=[some (.bG ns),e1,e2,e3,e4,e5,e6,e7,e8,e9,e10]) _ ⟨_,_,_,_,_,_,_,_,_,_,rfl⟩ (λi d env s hd hI=>?_) (λenv s hI=>?_)
 ·obtain⟨e1,e2,e3,e4,e5,e6,e7,e8,e9,e10,rfl⟩:=hI
  rw[gX] at hd;split at hd
  ·have hd:D.int (0+(i:Int))=d:=Option.some.inj hd
   subst hd;exact⟨_,rfl,Og (by omega) λ_ _ _ _ _ _ _ _ _ _=>⟨_,_,_,_,_,_,_,_,_,_,rfl⟩⟩
  ·cases hd
 ·obtain⟨e1,e2,e3,e4,e5,e6,e7,e8,e9,e10,rfl⟩:=hI
  rw[aft_nx];subst hR;simp only[wp_sRet,wp_C,fin_rt]
end DI
namespace DI.jA
open PySem L2 DI
def Df (K:Frag) (x:Str) (st:Stmt):Prop:=∃(f:Addr) (oc:Value) (od:Option Addr) (sl:Array (Option Value)) (kV dc pm:Value) (an:Option Addr) (cd ct:Value),ZT K Zy x=some (some (.ref f))/\K.lookup f=some ⟨oc,od,.func (aby x x (nU st) (lg st) (aX st) .none kV dc pm an cd ct),sl⟩/\acX K cd x=true/\abp K (.ref f)=true
theorem UP {K:Frag} {x:Str} {st:Stmt} {f:Addr} {oc:Value} {od:Option Addr} {sl:Array (Option Value)} {kV dc pm:Value} {an:Option Addr} {cd ct:Value} (a:ZT K Zy x=some (some (.ref f))) (l:K.lookup f=some ⟨oc,od,.func (aby x x (nU st) (lg st) (aX st) .none kV dc pm an cd ct),sl⟩) (c:acX K cd x=true) (k:abp K (.ref f)=true):Df K x st:=⟨f,oc,od,sl,kV,dc,pm,an,cd,ct,a,l,c,k⟩
theorem qq {K:Frag} {x:Str} {i:Int} {t:Tok} (e:ZT K Zy x=some (some (.int i t))):∃t,ZT K Zy x=some (some (.int i t)):=⟨t,e⟩
theorem bM {K:Frag} {h:Heap} {mg:Str->Option Value} {x:Str} {st:Stmt} {ps:List Str} (X:K.In h) (G:h.Ns Zy mg) (D:Df K x st) (hb:∀(kV doc pm:Value) (an:Option Addr) (bg ct:Value) (us:List Value),us.length=ps.length->bindArgs (aby x x (nU st) (lg st) (aX st) .none kV doc pm an bg ct) ⟨us,[]⟩=pure (ps.zip us)):∃f fd,Gd K mg x st ps f fd:=by
 obtain⟨f,oc,od,sl,kV,dc,pm,an,cd,ct,a,l,c,k⟩:=D;have F:=Ha (st:=st) l c k;exact⟨f,_,abo X G a,F,F.binds hb⟩
theorem fZ {P:List Value->Prop} (h:∀a0:Value,P [a0]) (us:List Value) (hl:us.length=1):P us:=by
 cases us with
 |nil=>simp at hl
 |cons a0 pF =>
 cases pF with
 |cons _ _=>simp at hl
 |nil =>
 exact h a0
theorem iO {P:List Value->Prop} (h:∀a0 a1:Value,P [a0,a1]) (us:List Value) (hl:us.length=2):P us:=by
 cases us with
 |nil=>simp at hl
 |cons a0 pF =>
 cases pF with
 |nil=>simp at hl
 |cons a1 ug =>
 cases ug with
 |cons _ _=>simp at hl
 |nil =>
 exact h a0 a1
theorem jJ {P:List Value->Prop} (h:∀a0 a1 a2:Value,P [a0,a1,a2]) (us:List Value) (hl:us.length=3):P us:=by
 cases us with
 |nil=>simp at hl
 |cons a0 pF =>
 cases pF with
 |nil=>simp at hl
 |cons a1 ug =>
 cases ug with
 |nil=>simp at hl
 |cons a2 CU =>
 cases CU with
 |cons _ _=>simp at hl
 |nil =>
 exact h a0 a1 a2
theorem IS {P:List Value->Prop} (h:∀a0 a1 a2 a3:Value,P [a0,a1,a2,a3]) (us:List Value) (hl:us.length=4):P us:=by
 cases us with
 |nil=>simp at hl
 |cons a0 pF =>
 cases pF with
 |nil=>simp at hl
 |cons a1 ug =>
 cases ug with
 |nil=>simp at hl
 |cons a2 CU =>
 cases CU with
 |nil=>simp at hl
 |cons a3 XU =>
 cases XU with
 |cons _ _=>simp at hl
 |nil =>
 exact h a0 a1 a2 a3
theorem all_mk {P:ZE} {w:World} {K:Frag} {h:Heap} {mg:Str->Option Value} {fa:Addr} (X:K.In h) (G:h.Ns Zy mg) (XW:mg "law"=some (.ref fa))
  (d0:Df K "_law_cell_at" (top 42))
  (d1:Df K "_law_state" (top 43))
  (d2:Df K "_law_take" (top 44))
  (d3:Df K "_law_leads" (top 53))
  (d4:Df K "_law_gone" (top 52))
  (d5:Df K "_law_may" (top 51))
  (d6:Df K "_law_chance" (top 54))
  (d7:Df K "is_rising" (top 13))
  (d8:Df K "is_number" (top 8))
  (d9:Df K "is_below" (top 9))
  (CV:Df K "is_mark" (top 10))
  (CY:Df K "are_marks" (top 19))
  (CZ:Df K "are_apart" (top 21))
  (C0:Df K "is_sheet" (top 20))
  (C1:Df K "is_mould" (top 11))
  (C2:Df K "is_day" (top 12))
  (C3:Df K "is_page" (top 22))
  (C4:Df K "are_laid" (top 23))
  (C5:Df K "days_seen" (top 28))
  (C6:Df K "days_mended" (top 29))
  (C7:Df K "is_any_behind" (top 27))
  (C8:Df K "clashes" (top 26))
  (C9:Df K "faults_of" (top 25))
  (Dc:Df K "is_book" (top 24))
  (Dd:Df K "need_book" (top 30))
  (De:Df K "need_mould" (top 14))
  (Dg:Df K "days_present" (top 37))
  (Dh:Df K "days_absent" (top 38))
  (Di:Df K "marks_on" (top 36))
  (Dj:Df K "sure_sheets" (top 35))
  (kh:Df K "least_life" (top 33))
  (cD:Df K "most_life" (top 34))
  (Dk:Df K "_law_lived" (top 49))
  (Dl:Df K "_law_book" (top 50))
  (Dm:Df K "_law_odd" (top 46))
  (Dp:Df K "_law_bent" (top 55))
  (Dq:Df K "_law_mark" (top 57))
  (Dr:Df K "_law_good" (top 56))
  (Ds:Df K "_law_same" (top 45))
  (Dt:Df K "goes_with" (top 40))
  (Du:Df K "days_with" (top 39))
  (Dv:Df K "is_life" (top 32))
  (dl:Df K "law" (top 58))
  (zv:∃t,ZT K Zy "MARKS"=some (some (.int (8) t)))
  (yT:∃t,ZT K Zy "MOULDS"=some (some (.int (4) t)))
  (Aa:∃t,ZT K Zy "DAYS"=some (some (.int (31) t)))
  (zw:∃t,ZT K Zy "PAGES"=some (some (.int (24) t)))
  (AE:∃t,ZT K Zy "HAS"=some (some (.int (0) t)))
  (zx:∃t,ZT K Zy "LACKS"=some (some (.int (1) t)))
  (AF:ZT K Zy "all"=some none)
  (AG:ZT K Zy "any"=some none)
  (Ab:ZT K Zy "bool"=some none)
  (yh:ZT K Zy "enumerate"=some none)
  (AH:ZT K Zy "int"=some none)
  (yc:ZT K Zy "isinstance"=some none)
  (AI:ZT K Zy "len"=some none)
  (Ac:ZT K Zy "list"=some none)
  (AJ:ZT K Zy "max"=some none)
  (AK:ZT K Zy "min"=some none)
  (zy:ZT K Zy "range"=some none)
  (Ad:ZT K Zy "repr"=some none)
  (yn:ZT K Zy "reversed"=some none)
  (AL:ZT K Zy "set"=some none)
  (yU:ZT K Zy "sorted"=some none)
  (zz:ZT K Zy "tuple"=some none)
  (AM:ZT K Zy "zip"=some none)
  : ∃fd:ZA,(∀(s:Y4) (v:Value),BindsTo s fd ⟨[v],[]⟩ [("_law_script",v)])/\∀base:Heap,K.In base->base.Ns Zy mg->aV P w K mg base aY 11 fa fd ["_law_script"] (wu K):=by
 have g0:=bM (ps:=["_law_script","_law_k"]) X G d0 λ_ _ _ _ _ _=>iO λ_ _=>rfl;have g1:=bM (ps:=["_law_script","_law_k"]) X G d1 λ_ _ _ _ _ _=>iO λ_ _=>rfl;have g2:=bM (ps:=["_law_state_here","_law_many"]) X G d2 λ_ _ _ _ _ _=>iO λ_ _=>rfl;have g3:=bM (ps:=["_law_later","_law_one","_law_free"]) X G d3 λ_ _ _ _ _ _=>jJ λ_ _ _=>rfl;have g4:=bM (ps:=["_law_ahead","_law_one","_law_free"]) X G d4 λ_ _ _ _ _ _=>jJ λ_ _ _=>rfl;have g5:=bM (ps:=["_law_laid","_law_mould","_law_mark_here"]) X G d5 λ_ _ _ _ _ _=>jJ λ_ _ _=>rfl;have g6:=bM (ps:=["_law_state_here","_law_book_here","_law_mould"]) X G d6 λ_ _ _ _ _ _=>jJ λ_ _ _=>rfl;have g7:=bM (ps:=["things"]) X G d7 λ_ _ _ _ _ _=>fZ λ_=>rfl;have g8:=bM (ps:=["thing"]) X G d8 λ_ _ _ _ _ _=>fZ λ_=>rfl;have g9:=bM (ps:=["thing","many"]) X G d9 λ_ _ _ _ _ _=>iO λ_ _=>rfl;have XX:=bM (ps:=["thing"]) X G CV λ_ _ _ _ _ _=>fZ λ_=>rfl;have XY:=bM (ps:=["thing"]) X G CY λ_ _ _ _ _ _=>fZ λ_=>rfl;have XZ:=bM (ps:=["marks","others"]) X G CZ λ_ _ _ _ _ _=>iO λ_ _=>rfl;have X0:=bM (ps:=["thing"]) X G C0 λ_ _ _ _ _ _=>fZ λ_=>rfl;have X1:=bM (ps:=["thing"]) X G C1 λ_ _ _ _ _ _=>fZ λ_=>rfl;have X2:=bM (ps:=["thing"]) X G C2 λ_ _ _ _ _ _=>fZ λ_=>rfl;have X3:=bM (ps:=["thing"]) X G C3 λ_ _ _ _ _ _=>fZ λ_=>rfl;have X4:=bM (ps:=["thing"]) X G C4 λ_ _ _ _ _ _=>fZ λ_=>rfl;have X5:=bM (ps:=["pages","mould","mark","half"]) X G C5 λ_ _ _ _ _ _=>IS λ_ _ _ _=>rfl;have X6:=bM (ps:=["pages","mould","mark"]) X G C6 λ_ _ _ _ _ _=>jJ λ_ _ _=>rfl;have X7:=bM (ps:=["days","day","later"]) X G C7 λ_ _ _ _ _ _=>jJ λ_ _ _=>rfl;have X8:=bM (ps:=["pages","mould","mark"]) X G C8 λ_ _ _ _ _ _=>jJ λ_ _ _=>rfl;have X9:=bM (ps:=["pages"]) X G C9 λ_ _ _ _ _ _=>fZ λ_=>rfl;have Ya:=bM (ps:=["thing"]) X G Dc λ_ _ _ _ _ _=>fZ λ_=>rfl;have Yb:=bM (ps:=["thing"]) X G Dd λ_ _ _ _ _ _=>fZ λ_=>rfl;have Yc:=bM (ps:=["thing"]) X G De λ_ _ _ _ _ _=>fZ λ_=>rfl;have Yd:=bM (ps:=["book","mould","mark"]) X G Dg λ_ _ _ _ _ _=>jJ λ_ _ _=>rfl;have Ye:=bM (ps:=["book","mould","mark"]) X G Dh λ_ _ _ _ _ _=>jJ λ_ _ _=>rfl;have Yf:=bM (ps:=["days_by_mark","day"]) X G Di λ_ _ _ _ _ _=>iO λ_ _=>rfl;have Yg:=bM (ps:=["book","mould"]) X G Dj λ_ _ _ _ _ _=>iO λ_ _=>rfl;have Yh:=bM (ps:=["book","mould"]) X G kh λ_ _ _ _ _ _=>iO λ_ _=>rfl;have Yi:=bM (ps:=["book","mould"]) X G cD λ_ _ _ _ _ _=>iO λ_ _=>rfl;have Yj:=bM (ps:=["_law_state_here","_law_mended"]) X G Dk λ_ _ _ _ _ _=>iO λ_ _=>rfl;have Yk:=bM (ps:=["_law_state_here"]) X G Dl λ_ _ _ _ _ _=>fZ λ_=>rfl;have Yl:=bM (ps:=["_law_state_here"]) X G Dm λ_ _ _ _ _ _=>fZ λ_=>rfl;have Ym:=bM (ps:=["_law_state_here","_law_life"]) X G Dp λ_ _ _ _ _ _=>iO λ_ _=>rfl;have Yn:=bM (ps:=["_law_thing"]) X G Dq λ_ _ _ _ _ _=>fZ λ_=>rfl;have Yo:=bM (ps:=["_law_book_here","_law_mould","_law_thing"]) X G Dr λ_ _ _ _ _ _=>jJ λ_ _ _=>rfl;have Yp:=bM (ps:=["_law_found","_law_due"]) X G Ds λ_ _ _ _ _ _=>iO λ_ _=>rfl;have Yq:=bM (ps:=["book","mould","mark","days"]) X G Dt λ_ _ _ _ _ _=>IS λ_ _ _ _=>rfl;have Yr:=bM (ps:=["life","mark"]) X G Du λ_ _ _ _ _ _=>iO λ_ _=>rfl;have Ys:=bM (ps:=["book","mould","thing"]) X G Dv λ_ _ _ _ _ _=>jJ λ_ _ _=>rfl;have kZ:∃t,mg "MARKS"=some (.int (8) t):=by obtain⟨t,e⟩:=zv;exact⟨t,abo X G e⟩
 have u7:∃t,mg "MOULDS"=some (.int (4) t):=by obtain⟨t,e⟩:=yT;exact⟨t,abo X G e⟩
 have kn:∃t,mg "DAYS"=some (.int (31) t):=by obtain⟨t,e⟩:=Aa;exact⟨t,abo X G e⟩
 have yN:∃t,mg "PAGES"=some (.int (24) t):=by obtain⟨t,e⟩:=zw;exact⟨t,abo X G e⟩
 have rM:∃t,mg "HAS"=some (.int (0) t):=by obtain⟨t,e⟩:=AE;exact⟨t,abo X G e⟩
 have rg:∃t,mg "LACKS"=some (.int (1) t):=by obtain⟨t,e⟩:=zx;exact⟨t,abo X G e⟩
 have UQ:=ZR X G AF;have UR:=ZR X G AG;have Tr:=ZR X G Ab;have L9:=ZR X G yh;have US:=ZR X G AH;have Ly:=ZR X G yc;have UT:=ZR X G AI;have Tt:=ZR X G Ac;have UU:=ZR X G AJ;have UW:=ZR X G AK;have RA:=ZR X G zy;have Tu:=ZR X G Ad;have M3:=ZR X G yn;have UX:=ZR X G AL;have PX:=ZR X G yU;have RC:=ZR X G zz;have UY:=ZR X G AM;obtain⟨f,oc,od,sl,kV,dc,pm,an,cd,ct,a,l,c,k⟩:=dl;have e:=XW.symm.trans (abo X G a);cases e;have F:=Ha (st:=(top 58)) l c k;have GL:Gd K mg "law" (top 58) ["_law_script"] _ _:=⟨abo X G a,F,F.binds λ_ _ _ _ _ _=>fZ λ_=>rfl⟩;exact⟨_,λs v=>.of_eq rfl,λbase _ _=>Sy (SX ⟨UQ,UR,Tr,L9,US,Ly,UT,Tt,UU,UW,RA,Tu,M3,UX,PX,RC,UY,kZ,u7,kn,yN,rM,rg,g0,g1,g2,g3,g4,g5,g6,g7,g8,g9,XX,XY,XZ,X0,X1,X2,X3,X4,X5,X6,X7,X8,X9,Ya,Yb,Yc,Yd,Ye,Yf,Yg,Yh,Yi,Yj,Yk,Yl,Ym,Yn,Yo,Yp,Yq,Yr,Ys⟩ GL) (PV w)⟩
theorem walk {l:PySem.W.OpenLaw} {q:ZE} {loose:List Str} {XP:(Str->Option Value)->Heap->Prop} {YP:World->Heap->Prop} {d:DefRec} {K:Params->Frag} (hn:l.most=some 63) (tB:d.params.defaults=[])
  (hY:∀(w:World) (h:Heap),YP w h->(K w.params).In h)
  (F:∀(w:World) (mg:Str->Option Value) (fa:Addr) (h:Heap),(K w.params).In h->h.Ns Zy mg->mg d.name=some (.ref fa) ->
   ∃fd:ZA,(∀(s:Y4) (u:Value),BindsTo s fd ⟨[u],[]⟩ [("_law_script",u)])/\∀base:Heap,(K w.params).In base->base.Ns Zy mg->aV l.prog w (K w.params) mg base aY 11 fa fd ["_law_script"] (wu (K w.params))) :
  PySem.W.WalkO q loose XP YP l.row.toRowW d [] (λf vs=>PySem.call f vs) :=
 L2.Qj (n:=63) (k:=11) (x:="_law_script") (CX:=λ_=>aY) (sp:=λw=>wu (K w.params)) hn (by decide) tB ⟨rfl,by decide,by decide,rfl⟩ hY F (λ_ _ a ns hl _ hS=>⟨a,ns,rfl,hS,hl,λ_=>rfl⟩) λ_ _ _ _ _ z=>z
end DI.jA
open PySem PySem.W PyProof.Rows
theorem PySem.W.Fast.te18030811225518536124:True:=trivial
theorem PySem.W.Fast.te3880256760015320687:True:=trivial
theorem PySem.W.Fast.te9192246988613894776:True:=trivial
theorem PySem.W.Fast.te8403559534865787773:True:=trivial
theorem PySem.W.Fast.te15500001179271910561:True:=trivial
theorem PySem.W.Fast.te4331410980928209977:True:=trivial
theorem PySem.W.Fast.te15530034611948614137:True:=trivial
theorem PySem.W.Fast.te13526620639714171908:True:=trivial
theorem PySem.W.Fast.te6218134664243617228:True:=trivial
theorem PySem.W.Fast.te17581120502771542305:True:=trivial
theorem PySem.W.Fast.te7844779749706050291:True:=trivial
theorem PySem.W.Fast.te9596381700532936302:True:=trivial
theorem PySem.W.Fast.te2816516891731276907:True:=trivial
theorem PySem.W.Fast.te12911479424765539923:True:=trivial
theorem PySem.W.Fast.te13349160104753203779:True:=trivial
theorem PySem.W.Fast.te211965053558557608:True:=trivial
theorem PySem.W.Fast.te8207521871431113354:True:=trivial
theorem PySem.W.Fast.te13997585709047987853:True:=trivial
theorem PySem.W.Fast.te5634771727408667308:True:=trivial
theorem PySem.W.Fast.te1290211239924089035:True:=trivial
theorem PySem.W.Fast.te5588882143141828538:True:=trivial
theorem PySem.W.Fast.te7346842435360186141:True:=trivial
theorem PySem.W.Fast.te9811909391269013637:True:=trivial
theorem PySem.W.Fast.te12088816016087758741:True:=trivial
set_option maxRecDepth 100000 in
set_option maxHeartbeats 0 in
theorem PySem.Challenge.cw_twinmoulds_k05_lives_looked_at_holds : PySem.Challenge.rw_twinmoulds_k05_lives_looked_at.Holds := by
 w_on;o_law;k_head;(case hw=>w_witness2)
 k_fill
 refine DI.jA.walk (l:=PySem.Challenge.rw_twinmoulds_k05_lives_looked_at) rfl rfl (λw h Y=>PySem.W.kIn_of Y) ?F
 case F =>
  intro w mg fa h KX G tD;refine' DI.jA.all_mk KX G tD ?d0 ?d1 ?d2 ?d3 ?d4 ?d5 ?d6 ?d7 ?d8 ?d9 ?CV ?CY ?CZ ?C0 ?C1 ?C2 ?C3 ?C4 ?C5 ?C6 ?C7 ?C8 ?C9 ?Dc ?Dd ?De ?Dg ?Dh ?Di ?Dj ?kh ?cD ?Dk ?Dl ?Dm ?Dp ?Dq ?Dr ?Ds ?Dt ?Du ?Dv ?dl ?zv ?yT ?Aa ?zw ?AE ?zx ?AF ?AG ?Ab ?yh ?AH ?yc ?AI ?Ac ?AJ ?AK ?zy ?Ad ?yn ?AL ?yU ?zz ?AM
  (case d0|d1|d2|d3|d4|d5|d6|d7|d8|d9|CV|CY|CZ|C0|C1|C2|C3|C4|C5|C6|C7|C8|C9|Dc|Dd|De|Dg|Dh|Di|Dj|kh|cD|Dk|Dl|Dm|Dp|Dq|Dr|Ds|Dt|Du|Dv|dl=>refine' DI.jA.UP ?a ?l ?c ?k;(case a=>k_is);(case l=>k_is);(case c=>k_is);(case k=>k_is))
  (case zv=>refine' DI.jA.qq ?e;(case e=>k_is))
  (case yT=>refine' DI.jA.qq ?e;(case e=>k_is))
  (case Aa=>refine' DI.jA.qq ?e;(case e=>k_is))
  (case zw=>refine' DI.jA.qq ?e;(case e=>k_is))
  (case AE=>refine' DI.jA.qq ?e;(case e=>k_is))
  (case zx=>refine' DI.jA.qq ?e;(case e=>k_is))
  (case AF|AG|Ab|yh|AH|yc|AI|Ac|AJ|AK|zy|Ad|yn|AL|yU|zz|AM=>k_is)
