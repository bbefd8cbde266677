import PyProof.Rows.All
import Wide.All
import OpenK.AllK
import Wide.FinOn
import Lean
import PyProof.EqAt
import PyProof.EqKinds
import PyProof.TupleCall
import PyProof.NeData
import PyProof.P3In
import PyProof.FactsAll.set
import PyProof.CollectWalk
import PyProof.FactsAll.range
import PyProof.MinMaxWalk
import KE.KMinKey
import PyProof.WalkInts
import PyProof.Rows.CallKwBuiltin
import KE.KLam
import KE.KSortTup
import PyProof.Rows.Range3
import PyProof.ListRange
import PyProof.DictRoadsH
import KE.KDictList
import PyProof.Rows.SortKeyStr
import PyProof.DictCompW
import PyProof.DictWalks
import PyProof.Rows.CompDC
import PyProof.SumAny
import PyProof.TupleOfGen
import PyProof.CollectIter
import PySem.Challenge.RW_twinmoulds_k16_a_page_more
set_option bootstrap.genMatcherCode false
set_option genInjectivity false
set_option genSizeOfSpec false
set_option Elab.async false
set_option linter.all false
set_option maxRecDepth 100000
set_option maxHeartbeats 4000000
open PySem renaming wpAny_bind→À,wpAny_pure→Â,Shared→Æ,Value→Ê,wpAny→Ú,sizeLine→Û,starEach→Ý,Addr→à,model→î,mainGlobals→ó,Program→ô,wpAny_newObj_type→ö,wpAny_call_entry→ý,bootBuiltins→ā,Around→Ă,wpAny_callSpecial?_slot→ą,foldedSetIterable→ć,World→Ĉ,wpAny_holding→ĝ,compareOp→ĭ,wpAny_seqItems→ı,wpAny_setState_of→Ĳ,wpAny_field→Ĺ,SetTable→ł,codeAny_builtin→Ń,Expr→ņ,wpAny_mono→ň,rawInt→ŋ,binaryOp→Ō,Heap→ō,sizeLine_eq→ŏ,wpAny_typeNameOfWhole_keyiter→ő,Builtin→Œ,codeAny_mono→Ŕ,wpAny_setField→ŕ,wpAny_truthy_bool→Ŗ,letOwnedTupleGo→Ř,intKind→ŝ,assignEach→š,wpAny_rule→Ţ,wpAny_askSetting→ţ,wpAny_setField_rec→ũ,FuncData→ű,wpAny_pyIter_list→Ŵ,wpAny_storeSet_of→ź,eval→Ž,pyNext→ž,wpAny_standAt→δ,swapsWithSole→ε,swappedStores→ζ,mem_of_lookup→η,wpAny_of_eq→ι,wpAny_attempt→μ,wpAny_setEntries_of→ν,pickOrder→χ,wpAny_forIn_list→ψ,backTo→Yt,scanBound→Yv,sysModules→YC,NameKind→YE,fits_of_scanBound→YH,codeAny→YM,codeAny_call_builtin→YN,cellsFrom→YO,firstArgMember→YR,IsPair→YS,wpAny_fieldsOf→YU,wpAny_isInstance→Y0,wpAny_typeOf→Y8,holding→Zc,wpAny_passesOwn→Zf,behindInMarks→Zg,cLine→Zh,codeAny_of_tree→Zk,wpAny_specialOf→Zn,wpAny_pyIter_rangeiter→Zs,PyData→Zv,sliceBounds→Zy,eqIsQuiet_byValue→ZA,wpAny_bindName→ZC,Scope→ZF,builtinLookup_eq_fast→ZI,weight_type_call_type→ZJ,assign→ZO,assignInOrder→ZQ,bindName→ZR,plainId_quiet→ZT,standAt→ZZ,DictEntry→aac,pyIter→aag
open PySem.Heap renaming get?_push_of_some→Á,get?_push_size→Ì,lt_size→Ñ,size_push→Ą,get?_update_self→Ě,SameBut→Ĵ,get?_update_other→Yr,ExtBut→Zz,get?_update_ne→Z3
open Bool renaming false_eq_true→Ã,and_eq_true→È,false_ne_true→Ö,not_true→ï,true_and→Ā,not_eq_true'→ě,eq_iff_iff→Ĩ,and_self→Ķ,or_eq_true→Ŝ,false_and→ŭ,not_eq_true→υ
open List renaming length_map→Ä,getElem?_eq_some_iff→Ç,getElem?_eq_getElem→É,mem_append_right→Í,mem_cons_self→Î,replicate→Ï,mem_cons_of_mem→Ð,mem_cons→Ò,range→Ó,size_toArray→Ô,getElem?_append_left→Õ,mem_singleton→Ø,getElem?_set_ne→Ù,getElem?_map→Ü,map_cons→Þ,length_cons→á,mem_append→â,mem_map→å,getElem?_append_right→æ,mem_filter→ê,all_eq_true→ë,getElem?_set_self→ì,length_append→í,mem_range→ò,length_nil→û,map_append→ü,not_mem_nil→þ,pairwise_cons→ÿ,mem_append_left→Ć,map_map→ĉ,getD_eq_getElem?_getD→Ċ,append_assoc→ĕ,cons_append→ė,mem_of_getElem?→Ę,length_take→Ğ,length_set→ġ,getElem?_eq_none→Ģ,set_cons_succ→ģ,set_cons_zero→Ĥ,getElem?_range→ĥ,getElem?_replicate→ī,nil_append→Į,map_nil→ĵ,zip_cons_cons→ķ,append_nil→ĸ,length_range→Ŀ,lookup_cons→Ň,replicate_succ→Ŋ,any_eq_true→Ő,getD→Ś,getElem_of_mem→ś,filter_cons→ť,length_singleton→Ũ,length_filter_le→ū,nodup_cons→ŵ,flatten_cons→Ŷ,ext_getElem?→Ÿ,nodup_append→Ż,map_congr_left→θ,nodup_nil→ω,length_replicate→Yu,range_succ→YA,set_append_right→YB,any_eq_false→YK,drop_eq_getElem_cons→YW,length_drop→YY,getElem_mem→YZ,isEmpty_nil→Y1,mem_flatMap→Y2,filterMap_cons→Y3,map_eq_nil_iff→Y5,getElem?_take_of_lt→Y6,mem_filterMap→Ze,map_filterMap→Zj,length_eq_zero_iff→Zl,pairwise_singleton→Zm,find?_eq_none→Zp,flatMap_eq_nil_iff→Zr,filter_eq_nil_iff→Zw,toArray→ZH,isEmpty_iff→ZM,pairwise_append→ZP,map_eq_flatMap→Z5
open Nat renaming lt_of_lt_of_le→Ë,ne_of_lt→ç,le_trans→è,lt_irrefl→ù,zero_le→ď,lt_succ_of_lt→Ġ,lt_succ_self→Ť,ne_of_gt→ŧ,le_of_not_lt→ς,le_of_lt_succ→YJ,le_succ→Y4,le_max_right→ZL,add_assoc→ZV,mod_lt→ZX,succ_pos→Z8
open Array renaming length_toList→ä,getElem?_toList→ú,getD_eq_getD_getElem?→Ĕ,getElem?_eq_some_iff→Š,toList_push→YG,forIn_toList→Zo,getD→aad
open PySem.SetTable renaming below→õ,bits→đ,turns→Ē,runEnd→ę,grown→Ű,insertAt→Ź,leap→ο,slot→ZS,layClean→aae
open PySem.W renaming nsIn→ă,mg_none_of→Č,Frag→Ļ,mg_of→Ŭ,keepIn→Ů,fnOf→ſ,cellsFrom_some→Zt,findIn→ZD,codeIn→ZE,methodObj→aab
open PySem.Obj renaming data_mapFields→ċ,isFreed_of_fields→ľ,mapSeq→ŗ,cls_mapFields→YF,putSet→Za
open Int renaming toNat_natCast→č,emod_lt_of_pos→Ū,emod_nonneg→Yz,toNat_of_nonneg→Z4,zero_add→Z9
open PySem.Heap.SameBut renaming update→Ď
open PySem.Builtin.SmallTypes renaming nextOf→Đ,ownedTupleIsFree→Ľ,ownedTupleHandOut→YT
open PySem.Str renaming ofString→ē
open PySem.Value renaming ref→ħ,type→Ų,int→ZY
open PyProof.Rows renaming slot_tuple_getitem→ĩ,callWith_type1→Ł,firstMet→œ,assignInOrder_cons→Ŧ,IntsAre→Zx,seqObj→ZK
open PySem.Builtin.Range renaming rangeFitsLong→Ī,rangeSize→Zd,rangeFields→aaa
open PySem.PassesOwn renaming never→į
open PySem.PyData renaming eqv→İ,depthAll→Yx,weightAll→ZN
open Classical renaming byContradiction→ĳ
open PySem.F renaming called_set→ĺ,slot_dict_keyiterator_next→ŀ,slot_tuple_iterator_next→ş,slot_range_reversed→Yw,slot_tuple_hash→YI,args_tuple_add_2→Y7,entry_tuple_add→Zi,slot_tuple_add→Zu,slot_int_rmul→Z0,slot_zip_next→Z1
open PyProof.Rows.F renaming plain_set_update_loop→ń,entry_set_update_loop→ξ
open PySem.Around renaming under_plainId→Ņ,under_plain→Z7
open PySem.Builtin.Tuple renaming tupleExact→Ŏ,tupleItemsOf→Ş,tupleIsExact→YL,tupleHashOf→YX
open ForInStep renaming yield→ř
open PySem.Builtin.Slice renaming slicePlaces→ů,sliceAdjust→YQ,sliceApplied→Z6
open Ne renaming symm→ų
open Option renaming map_some→ŷ,map_eq_some_iff→Ys
open Function renaming comp_def→ż
open List.cons renaming injEq→Yy
open False renaming elim→YD
open PySem.Calls renaming call_function_entry→YV
open PySem.Builtin.List renaming listTooLong→Y9,listExtendWith→Z2
open Or renaming inl→Zb
open List.Pairwise renaming sublist→ZG
open PySem.Builtin.Frozenset renaming updateFrom→ZU
open PySem.Builtin.Dict_items renaming ownsTuple→ZW
open PySem.Shared renaming TypeIs→aaf
def Å:=@decide_eq_true_eq
def ß:=@decide_eq_true
def ã:=@if_false
def é:=@if_pos
def ð:=@if_neg
def ñ:=@decide_eq_false
def ø:=@if_true
def Ė:=@of_decide_eq_true
def Ĝ:=@beq_self_eq_true
def ğ:=@bne_self_eq_false
def Ħ:=@and_self
def Ĭ:=@decide_true
def ļ:=@congrArg
def Zq:=@true_and
def aal:=@Nat.le_refl
def aam:=@Option.some.inj
abbrev aan:PySem.Str:="_law_state_here"
abbrev aao:PySem.Str:="_law_script"
abbrev aap:PySem.Str:="_law_mark"
abbrev aaq:PySem.Str:="_law_day"
abbrev aar:PySem.Str:="_law_mould"
abbrev aas:PySem.Str:="_law_mended"
abbrev aat:PySem.Str:="_law_other"
abbrev aau:PySem.Str:="_law_found"
abbrev aav:PySem.Str:="_law_lives"
noncomputable section
local macro_rules | `(tactic| omega) => `(tactic| lia)
open PySem.W (Frag)
namespace L2
open PySem PySem.Spec PyProof.Rows
noncomputable abbrev Key:=Sum Int Str
def AU:Key->Ê->Bool
 | .inl k,v=>Value.isInt k v
 | .inr x,v=>Value.isStrOf x v
def UB (w:Ĉ):Key->Int
 | .inl k=>hashInt k
 | .inr x=>hashStr w x
def ki:∀{k:Key} {v:Ê},AU k v=true->(∃i t,k=Sum.inl i/\v=ZY i t)\/(∃x t,k=Sum.inr x/\v=Value.str x t)
 | .inl i,v,h=>by
  obtain⟨t,e⟩:=Value.isInt_shape (k:=i) (v:=v) h;exact .inl ⟨i,t,rfl,e⟩
 | .inr x,v,h=>by
  obtain⟨t,e⟩:=Value.isStrOf_shape (x:=x) (v:=v) h;exact .inr ⟨x,t,rfl,e⟩
def Ra (a b:Int):decide ((Sum.inl a:Key)=Sum.inl b)=(a==b):=by
 by_cases e:a=b
 ·subst e;simp
 ·have h:¬ (Sum.inl a:Key)=Sum.inl b:=λq=>e (Sum.inl.inj q)
  rw[ñ h];exact(beq_eq_false_iff_ne.mpr e).symm
def Rb (a b:Str):decide ((Sum.inr a:Key)=Sum.inr b)=decide (a=b):=by
 by_cases e:a=b
 ·subst e;simp
 ·have h:¬ (Sum.inr a:Key)=Sum.inr b:=λq=>e (Sum.inr.inj q)
  rw[ñ h,ñ e]
def Rc (a:Int) (b:Str):decide ((Sum.inl a:Key)=Sum.inr b)=false:=ñ (λq=>nomatch q)
def Rf (a:Str) (b:Int):decide ((Sum.inr a:Key)=Sum.inl b)=false:=ñ (λq=>nomatch q)
def v9 (prog:ô) (w:Ĉ):PySem.KeyKind prog w Key where
 is:=AU
 hash:=UB w
 inj:=λv a b X Y=>by
  rcases ki X with ⟨i,t,rfl,rfl⟩ | ⟨x,t,rfl,rfl⟩
  ·rcases ki Y with ⟨j,u,rfl,e⟩ | ⟨y,u,rfl,e⟩
   ·injection e with e1 _;rw[e1]
   ·exact nomatch e
  ·rcases ki Y with ⟨j,u,rfl,e⟩ | ⟨y,u,rfl,e⟩
   ·exact nomatch e
   ·injection e with e1 _;rw[e1]
 byValue:=λk v h=>by
  rcases ki h with ⟨i,t,rfl,rfl⟩ | ⟨x,t,rfl,rfl⟩<;>rfl
 pyHash:=λZ h=>by
  rcases ki Z with ⟨i,t,rfl,rfl⟩ | ⟨x,t,rfl,rfl⟩
  ·exact wpAny_pyHash_int h
  ·exact wpAny_pyHash_str h
 eqBool:=λW Z h=>by
  rcases ki W with ⟨i,t,rfl,rfl⟩ | ⟨x,t,rfl,rfl⟩
  ·rcases ki Z with ⟨j,u,rfl,rfl⟩ | ⟨y,u,rfl,rfl⟩
   ·rw[Ra] at h;exact wpAny_eqBool_int h
   ·rw[Rc] at h;exact SeqAt.EqAt.int_str i t y u _ _ _ _ h
  ·rcases ki Z with ⟨j,u,rfl,rfl⟩ | ⟨y,u,rfl,rfl⟩
   ·rw[Rf] at h;exact SeqAt.EqAt.str_int x t j u _ _ _ _ h
   ·rw[Rb] at h;exact wpAny_eqBool_str h
 «strs»:=λk x t v h=>by
  rcases ki h with ⟨i,u,rfl,e⟩ | ⟨y,u,rfl,e⟩
  ·exact nomatch e
  ·injection e with e1 _
   subst e1
   cases v<;>rfl
set_option genInjectivity true in
inductive V where
 |au|bl (b:Bool)|int (i:Int)|str (x:Str)|iT (b:Array UInt8)|uk (b:UInt64)|ref (a:à)|ty (n:String)
 deriving DecidableEq
def RelV:V->Ê->Prop
 | .au,u=>u=Value.none
 | .bl b,u=>u=Value.bool b
 | .int i,u=>∃t,u=ZY i t
 | .str x,u=>∃t,u=Value.str x t
 | .iT b,u=>∃t,u=Value.bytes b t
 | .uk b,u=>∃t,u=Value.float b t
 | .ref a,u=>u=ħ a
 | .ty n,u=>u=Ų n
abbrev Vals:List V->List Ê->Prop:=Paired RelV
theorem Vals.length (r:Vals xs us):xs.length=us.length:=Paired.length r
theorem Vals.get:∀{xs:List V} {us:List Ê} {i:Nat} {x:V},Vals xs us->xs[i]?=some x->∃u,us[i]?=some u/\RelV x u
 |_,_,_,_,.nil,e=>by simp at e
 |_,_,0,_,.cons r _,e=>by simp at e;subst e;exact⟨_,rfl,r⟩
 |_,_,i+1,x,.cons _ t,e=>by
  obtain⟨u,Z,Y⟩:=Vals.get (i:=i) (x:=x) t (by simpa using e);exact⟨u,by simpa using Z,Y⟩
theorem Vals.set (r:RelV x u):∀{xs:List V} {us:List Ê} (i:Nat),Vals xs us->Vals (xs.set i x) (us.set i u)
 |_,_,_,.nil=>.nil
 |_,_,0,.cons _ t=>.cons r t
 |_,_,i+1,.cons q t=>.cons q (Vals.set r i t)
theorem Vals.append:∀{xs ys:List V} {us ws:List Ê},Vals xs us->Vals ys ws->Vals (xs++ys) (us++ws)
 |_,_,_,_,.nil,s=>s
 |_,_,_,_,.cons r t,s=>.cons r (Vals.append t s)
theorem Vals.take:∀{xs:List V} {us:List Ê} (n:Nat),Vals xs us->Vals (xs.take n) (us.take n)
 |_,_,0,_=>.nil
 |_,_,_ + 1,.nil=>.nil
 |_,_,n+1,.cons r t=>.cons r (Vals.take n t)
theorem Vals.drop:∀{xs:List V} {us:List Ê} (n:Nat),Vals xs us->Vals (xs.drop n) (us.drop n)
 |_,_,0,r=>r
 |_,_,_ + 1,.nil=>.nil
 |_,_,n+1,.cons _ t=>Vals.drop n t
def JH:Option V->Option Ê->Prop
 |some v,some u=>RelV v u
 |none,none=>True
 |_,_=>False
def KV {κ:Type}:List (κ×V)->List (κ×Ê)->Prop:=Paired λ(p:κ×V) (q:κ×Ê)=>p.1=q.1/\RelV p.2 q.2
def kV:Key->V
 | .inl i=>.int i
 | .inr x=>.str x
inductive HO where
 |lst (xs:List V)
 |tup (xs:List V)
 |dK (ai:List (Key×V))|dT (ai:List (List Key×V))
 |set (S:Int->Bool) (n:Nat)
 |ins (C dx:à) (fs:List (Str×V))
 |own (x:à)
 |xd (fs:List (Str×V))
 |met (f x:à)
 |bc (lo hi:Int)
 |bE (o:Obj) (u:HO)
 |mW (ps:Array Ê)
 |ext (φ:ō->Prop)
noncomputable abbrev Hp:=à->Option HO
def upd (H:Hp) (a:à) (o:HO):Hp:=λb=>if b=a then some o else H b
def cU:upd H a o a=some o:=by unfold upd;rw[é rfl]
def bj (h:b≠a):upd H a o b=H b:=by unfold upd;rw[ð h]
def dF {H:Hp} {a b:à} {o:HO} (h:H a=some o) (h':H b=none):a≠b:=by
 intro e;subst e;rw[h] at h';cases h'
section
variable (P:ô) (w:Ĉ)
def cL (H:Hp) (h:ō) (a:à):HO->Prop
 | .lst Z=>Z.length<=Û/\∃(its:List Ê) (n:Nat),Vals Z its/\h.get? a=some { cls:=.type "list",data:=.seq its.toArray n }
 | .tup Z=>Z.length<=Û/\∃its:List Ê,Vals Z its/\IsTup h a its.toArray
 | .dK X=>X.length<=Û/\(a==YC)=false/\∃R,KV X R/\h.DictOf (v9 P w) a R
 | .dT X=>X.length<=Û/\(a==YC)=false/\∃Z:List (List Key×à×Ê),
   Paired (λ(p:List Key×V) (q:List Key×à×Ê)=>p.1=q.1/\H q.2.1=some (.tup (p.1.map kV))/\RelV p.2 q.2.2) X Z /\
   ∃o Q M,h.get? a=some o/\o.ExactDict/\o.data=.dict Q M/\Q.toList=Z.map (entryOfKey (tupleKind (v9 P w)))/\(Z.map (·.1)).Nodup
 | .set S n=>h.SetOf (ŝ P w) a S n
 | .ins C U fs=>H U=some (.own a)/\fs.length<=1000/\U≠a/\h.get? a=some (PySem.W.instObj C U) /\
   ∃Y,h.Ns1 U Y/\(∀f,JH (fs.lookup f) (Y f))/\PySem.Within Y (fs.map (·.1))
 | .own _=>∃o,h.get? a=some o
 | .xd fs=>∃Y,h.Ns1 a Y/\∀f,JH (fs.lookup f) (Y f)
 | .bc lo hi=>∃t u v,h.get? a=some { cls:=.type "range",data:=.fields #[.int lo t,.int hi u,.int 1 v] }
 | .bE o u=>h.get? a=some o/\cL H h a u
 | .mW L=>h.get? a=some { cls:=.none,data:=.fields L }
 | .met f x=>h.get? a=some (aab (.ref f) (.ref x))
 | .ext T=>T h/\(∃o,h.get? a=some o)/\∀O N:ō,T O->(∀o,O.get? a=some o->N.get? a=some o)->T N
def bZ (H:Hp) (h:ō):Prop:=∀a o,H a=some o->cL P w H h a o
end
section
variable {P:ô} {w:Ĉ} {H H':Hp} {h h':ō} {a:à} {o:HO}
theorem cL.lt (x:cL P w H h a o):a<h.objs.size:=by
 cases o with
 |lst Z=>obtain⟨_,_,_,_,e⟩:=x;exact Ñ e
 |tup Z=>obtain⟨_,_,_,p⟩:=x;exact p.lt
 |dK Y=>obtain⟨_,_,_,_,o,_,_,e,_⟩:=x;exact Ñ e
 |dT Y=>obtain⟨_,_,_,_,o,_,_,e,_⟩:=x;exact Ñ e
 |set S n=>obtain⟨o,_,_,_,e,_⟩:=x;exact Ñ e
 |ins C X fs=>obtain⟨_,_,_,e,_⟩:=x;exact Ñ e
 |own y=>obtain⟨_,e⟩:=x;exact Ñ e
 |xd fs=>obtain⟨_,⟨_,_,_,e,_⟩,_⟩:=x;exact Ñ e
 |bc lo hi=>obtain⟨_,_,_,e⟩:=x;exact Ñ e
 |bE W u=>obtain⟨e,_⟩:=x;exact Ñ e
 |mW V=>exact Ñ (show h.get? a=some _ from x)
 |met f y=>exact Ñ (show h.get? a=some _ from x)
 |ext U=>obtain⟨_,⟨_,e⟩,_⟩:=x;exact Ñ e
theorem Paired.JI {α β:Type} {F G:α->β->Prop}:∀{JJ:List α} {JK:List β},Paired F JJ JK->(∀a b,F a b->G a b)->Paired G JJ JK
 |_,_,.nil,_=>.nil
 |_,_,.cons r t,f=>.cons (f _ _ r) (Paired.JI t f)
def cL.dB (x:cL P w H h a o) (k:∀b u,(b=a\/H b=some (.own a))->h.get? b=some u->h'.get? b=some u)
  (ho:∀b,H b=some (.own a)->H' b=some (.own a)) (ht:∀b xs,H b=some (.tup xs)->H' b=some (.tup xs)):cL P w H' h' a o:=by
 induction o with
 |lst xs=>obtain⟨z,its,n,r,e⟩:=x;exact⟨z,its,n,r,k _ _ (.inl rfl) e⟩
 |tup xs=>obtain⟨z,its,r,Z,e,c⟩:=x;exact⟨z,its,r,Z,k _ _ (.inl rfl) e,c⟩
 |dK R=>obtain⟨z,y,Q,r,Z,Y,X,e,c⟩:=x;exact⟨z,y,Q,r,Z,Y,X,k _ _ (.inl rfl) e,c⟩
 |dT R =>
  obtain⟨z,y,xs,r,Z,Y,X,e,c⟩:=x;exact⟨z,y,xs,Paired.JI r λp q z=>⟨z.1,ht _ _ z.2.1,z.2.2⟩,Z,Y,X,k _ _ (.inl rfl) e,c⟩
 |set S n=>obtain⟨Z,Y,X,t,e,c⟩:=x;exact⟨Z,Y,X,t,k _ _ (.inl rfl) e,c⟩
 |ins C O fs =>
  obtain⟨d,z,ne,e,W,⟨V,Y,X,e2,c⟩,r⟩:=x;exact⟨ho _ d,z,ne,k _ _ (.inl rfl) e,W,⟨V,Y,X,k _ _ (.inr d) e2,c⟩,r⟩
 |own y=>obtain⟨Z,e⟩:=x;exact⟨Z,k _ _ (.inl rfl) e⟩
 |xd fs=>obtain⟨W,⟨V,Y,X,e,c⟩,r⟩:=x;exact⟨W,⟨V,Y,X,k _ _ (.inl rfl) e,c⟩,r⟩
 |bc lo hi=>obtain⟨t,u,v,e⟩:=x;exact⟨t,u,v,k _ _ (.inl rfl) e⟩
 |bE Z u ih=>obtain⟨e,q⟩:=x;exact⟨k _ _ (.inl rfl) e,ih q⟩
 |mW U =>
  have e:h.get? a=some { cls:=.none,data:=.fields U }:=x;show h'.get? a=some { cls:=.none,data:=.fields U };exact k a _ (.inl rfl) e
 |met f y =>
  have e:h.get? a=some (aab (.ref f) (.ref y)):=x;show h'.get? a=some (aab (.ref f) (.ref y));exact k a _ (.inl rfl) e
 |ext N=>obtain⟨p,⟨o,e⟩,T⟩:=x;exact⟨T _ _ p λo q=>k _ _ (.inl rfl) q,⟨o,k _ _ (.inl rfl) e⟩,T⟩
theorem bZ.lt (x:bZ P w H h) (e:H a=some o):a<h.objs.size:=(x a o e).lt
def bZ.fresh (x:bZ P w H h) (e:h.objs.size<=a):H a=none:=by
 cases q:H a with
 |none=>rfl
 |some u=>exact absurd (Ë (x.lt q) e) (ù _)
def bZ.kept (x:bZ P w H h) (k:∀b u,h.get? b=some u->h'.get? b=some u):bZ P w H h':=λa o e =>
 (x a o e).dB (λb u _ q=>k b u q) (λ_ q=>q) λ_ _ q=>q
def bZ.laid (x:bZ P w H h) (k:∀b u,h.get? b=some u->h'.get? b=some u) (hp:h.objs.size<=a) (new:cL P w (upd H a o) h' a o):bZ P w (upd H a o) h':=λb u e=>by
 have Z:=x.fresh hp;by_cases Y:b=a
 ·subst Y;rw[cU] at e;cases e;exact new
 ·rw[bj Y] at e
  exact(x b u e).dB (λc v _ q=>k c v q) (λc q=>by rw[bj (dF q Z)];exact q) λc X q=>by rw[bj (dF q Z)];exact q
end
def Rd (H:Hp) (a:à) (u:HO):Prop:=H a=some u\/∃o,H a=some (.bE o u)
def Rd.ok (r:Rd H a u) (x:bZ P w H h):cL P w H h a u:=by
 rcases r with r | ⟨o,r⟩
 ·exact x a u r
 ·obtain⟨_,q⟩:=x a _ r
  exact q
def uq:Option HO->Prop
 |some (.lst _)=>True
 |some (.dK _)=>True
 |some (.dT _)=>True
 |some (.set _ _)=>True
 |some (.ins _ _ _)=>True
 |some (.ext _)=>True
 |_=>False
section
variable {P:ô} {w:Ĉ} {H:Hp} {h h':ō} {x e:à} {o':HO}
def bZ.write (ok:bZ P w H h) (mu:uq (H x)) (he:e=x\/H e=some (.own x)) (k:∀b u,b≠e->h.get? b=some u->h'.get? b=some u) (qO:∃u,h'.get? e=some u)
  (new:cL P w (upd H x o') h' x o'):bZ P w (upd H x o') h':=λb u q=>by
 have W:∀c y,H c=some (.own y)->c≠x:=λc y r z=>by subst z;rw[r] at mu;exact mu
 have U:∀c Z,H c=some (.tup Z)->c≠x:=λc Z r z=>by subst z;rw[r] at mu;exact mu
 by_cases Y:b=x
 ·subst Y;rw[cU] at q;cases q;exact new
 ·rw[bj Y] at q
  by_cases X:b=e
  ·have V:H b=some (.own x):=by
    rcases he with z|z
    ·exact absurd (X.trans z) Y
    ·rw[X];exact z
   rw[q] at V;cases V;obtain⟨v,T⟩:=qO;exact⟨v,by rw[X];exact T⟩
  ·refine(ok b u q).dB (λc v hc r=>k c v ?_ r) (λc r=>by rw[bj (W c b r)];exact r) λc Z r=>by rw[bj (U c Z r)];exact r
   rcases hc with rfl|hc
   ·exact X
   ·rintro rfl
    rcases he with z|z
    ·exact W c b hc z
    ·rw[hc] at z;cases z;exact Y rfl
end
structure Un (fs ex:List à) (H H':Hp) (h h':ō):Prop where
 keep:∀b o,h.get? b=some o->H b=none->b∉fs->b∉ex->h'.get? b=some o
 slot:∀b o,h.get? b=some o->H b=none->b∈fs->b∉ex->∃sl,h'.get? b=some { o with slots:=sl }
 free:∀b o,h.get? b=some o->H b=none->b∉ex->H' b=none
 there:∀b o,h.get? b=some o->b∉ex->∃o',h'.get? b=some o'
 jj:∀b xs,H b=some (.tup xs)->H' b=some (.tup xs)
 iJ:∀b o u,H b=some (.bE o u)->H' b=some (.bE o u)
 jL:∀b ps,H b=some (.mW ps)->∃more,H' b=some (.mW (ps++more))
section
variable {fs VB ex X2:List à} {H H1 H2:Hp} {h h1 h2 h':ō} {a x e:à} {o:HO}
def Un.any (u:Un fs ex H H1 h h1) (q:h.get? b=some ob) (n:H b=none) (hx:b∉ex):∃sl,h1.get? b=some { ob with slots:=sl }:=by
 by_cases Z:b∈fs
 ·exact u.slot b ob q n Z hx
 ·exact⟨ob.slots,u.keep b ob q n Z hx⟩
def Un.kept (k:∀b u,h.get? b=some u->h'.get? b=some u):Un fs ex H H h h' :=
 ⟨λb Z q _ _ _=>k b Z q,λb Z q _ _ _=>⟨Z.slots,k b Z q⟩,λ_ _ _ n _=>n,λb Z q _=>⟨Z,k b Z q⟩,λ_ _ q=>q,λ_ _ _ q=>q,λ_ Y q=>⟨#[],by rw[q];simp⟩⟩
def Un.refl:Un fs ex H H h h:=Un.kept λ_ _ q=>q
def Un.laid (k:∀b u,h.get? b=some u->h'.get? b=some u) (hp:h.objs.size<=a) (hn:H a=none):Un fs ex H (upd H a o) h h' where
 keep:=λb u q _ _ _=>k b u q
 slot:=λb u q _ _ _=>⟨u.slots,k b u q⟩
 free:=λb u q n _=>by rw[bj (ç (Ë (Ñ q) hp))];exact n
 there:=λb u q _=>⟨u,k b u q⟩
 jj:=λb Z q=>by rw[bj (dF q hn)];exact q
 iJ:=λb u Z q=>by rw[bj (dF q hn)];exact q
 jL:=λb Y q=>⟨#[],by rw[bj (dF q hn),q];simp⟩
def Un.write (mu:uq (H x)) (he:e=x\/H e=some (.own x)) (k:∀b u,b≠e->h.get? b=some u->h'.get? b=some u) (qO:∃u,h'.get? e=some u):Un fs ex H (upd H x o) h h':=by
 have Y:∀b,H b=none->b≠x:=λb n z=>by subst z;rw[n] at mu;exact mu
 have X:∀b,H b=none->b≠e:=λb n z=>by
  subst z
  rcases he with r|r
  ·exact Y b n r
  ·rw[n] at r;cases r
 have Z:∀b u,H b=some u->¬ uq (some u)->b≠x:=λb u q nm z=>by subst z;rw[q] at mu;exact nm mu
 refine⟨λb u q n _ _=>k b u (X b n) q,λb u q n _ _=>⟨u.slots,k b u (X b n) q⟩,λb u q n _=>by rw[bj (Y b n)];exact n,λb u q _=>?_,
  λb V q=>by rw[bj (Z b _ q λz=>z)];exact q,λb u V q=>by rw[bj (Z b _ q λz=>z)];exact q,λb U q=>⟨#[],by rw[bj (Z b _ q λz=>z),q];simp⟩⟩
 by_cases W:b=e
 ·subst W;exact qO
 ·exact⟨u,k b u W q⟩
end
def xP (h:ō) (H:Hp):List à:=(Ó h.objs.size).filter λa=>(H a).isSome
def lO (h:ō) (H:Hp):ō:=PySem.W.hideAll h (xP h H)
def M7 (h:ō) (H:Hp):(lO h H).objs.size=h.objs.size:=PySem.W.hideAll_size _ _
def Oa (e:h.get? b=some o) (n:H b=none):(lO h H).get? b=some o :=
 PySem.W.hideAll_get _ e λZ=>by
  have q:(H b).isSome=true:=(ê.mp Z).2;rw[n] at q;simp at q
def Pu (e:(lO h H).get? b=some o):h.get? b=some o/\H b=none:=by
 have Z:h.get? b=some o:=PySem.W.of_hideAll (xP h H) e;refine⟨Z,?_⟩
 cases q:H b with
 |none=>rfl
 |some x =>
  have Y:b∈xP h H:=ê.mpr ⟨ò.mpr (Ñ Z),by simp[q]⟩;have z:(lO h H).get? b=none:=PySem.W.hideAll_none (xP h H) Y;rw[z] at e;cases e
noncomputable def Pw (g h:ō) (L:à):List (à×Obj):=(Ó h.objs.size).filterMap λa=>if a=L\/(g.get? a).isSome=true then none else (h.get? a).map λo=>(a,o)
def rest (g h:ō) (L d:à):List (à×Obj):=(Pw g h L).filter λp=>decide (p.1≠d)
structure Mod (K:Ļ) (mg:Str->Option Ê) (base:ō):Prop where
 uu:K.In base
 glob:base.Ns ó mg
 blt:∃mb,base.Ns builtinsNs mb/\∀x:Str,x≠"__name__"->mb x=ā x
 nolimit:base.NoLimit
structure Cx where
 prog:ô
 w:Ĉ
 K:Ļ
 mg:Str->Option Ê
 base:ō
 A:Ă
 N:List Str
 cH:Æ
 tK:Hp
 env:Env
 outer:List Env
 stack:List Env
 ex:List à
 fn:Str->Bool
 calm:Bool
 pn:List (à×Obj)
 xe:Ê->Æ->Prop
noncomputable def gC (l:List Env):List à:=l.filterMap (·.frame)
abbrev Cx.fs (X:Cx):List à:=gC X.outer
def uw (sc:ZF) (x:Str):Prop:=sc.names.lookup x=some .local\/sc.names.lookup x=some .cell\/sc.names.lookup x=some .free
def Loc (sc:ZF) (x:Str):Prop:=sc.names.lookup x=some .local\/sc.names.lookup x=some .cell
def Look (env:Env) (h:ō) (m:Str->Option Ê) (x:Str) (u:Ê):Prop :=
 (env.kindOf x=some .local/\m x=some u)\/((env.kindOf x=some .cell\/env.kindOf x=some .free)/\∃c,env.cells.lookup x=some c/\h.IsCell c (some u))
structure Cx.Ok (X:Cx):Prop where
 mod:Mod X.K X.mg X.base
 kind:X.env.scope.kind=.function
 glob:X.env.globals=ó
 blt:X.env.builtins=builtinsNs
 above:X.cH.heap.objs.size<=X.env.locals
 inj:∀x y c,X.env.cells.lookup x=some c->X.env.cells.lookup y=some c->x=y
 has:∀x,(X.env.kindOf x=some .cell\/X.env.kindOf x=some .free)->∃c,X.env.cells.lookup x=some c
 ux:∀x c,X.fn x=true->X.env.cells.lookup x=some c->X.cH.heap.objs.size<=c
 hd:X.calm=true->X.A.handled=none
 frames:X.A.frames=some X.stack
 xQ:X.stack=X.outer\/(X.stack=X.env::X.outer/\X.env.frame=some X.env.locals)
 Ke:∀b∈X.ex,b≠X.env.locals/\∀x c,X.env.cells.lookup x=some c->c≠b
 bs:∀b o,X.base.get? b=some o->X.cH.heap.get? b=some o/\X.tK b=none
 jo:X.base.objs.size<=X.cH.heap.objs.size
 mR:∀b o,X.base.get? b=some o->b∉X.ex
 xt:∀b∈X.ex,b∉X.fs
 jM:X.cH.heap.FunFrames X.base X.outer
 qP:∀b∈X.fs,X.tK b=none
structure Inv (X:Cx) (π:List (à×Obj)) (σ:List (Option V)) (H:Hp) (s:Æ):Prop where
 ok:X.Ok
 os:s.os=X.cH.os
 bare:AllBare s.gens
 base:Un X.fs X.ex X.tK H X.cH.heap s.heap
 loc:∃m,s.heap.Ns X.env.locals m/\∀(i:Nat) (x:Str) (v:V),X.N[i]?=some x->σ[i]?=some (some v)->uw X.env.scope x->∃u,RelV v u/\Look X.env s.heap m x u
 cell:∀x c,X.env.cells.lookup x=some c->∃v,s.heap.IsCell c v
 free:H X.env.locals=none
 je:∀x c,X.env.cells.lookup x=some c->H c=none
 pin:∀p∈X.pn++π,s.heap.get? p.1=some p.2/\H p.1=none/\p.1≠X.env.locals/\p.1∉X.fs/\∀v,p.2.data≠.cell v
 aC:bZ X.prog X.w H s.heap
 len:σ.length=X.N.length
section
variable {X:Cx} {π:List (à×Obj)} {σ:List (Option V)} {H H':Hp} {s:Æ} {h':ō}
def Cx.Ok.UD (ok:X.Ok) (e:X.base.get? b=some o):b∉X.fs:=λZ=>by
 have:=(ok.jM.mem Z).1;rw[e] at this;cases this
theorem Inv.bs (I:Inv X π σ H s):∀b o,X.base.get? b=some o->s.heap.get? b=some o/\H b=none:=λb o e =>
 ⟨I.base.keep b o (I.ok.bs b o e).1 (I.ok.bs b o e).2 (I.ok.UD e) (I.ok.mR b o e),I.base.free b o (I.ok.bs b o e).1 (I.ok.bs b o e).2 (I.ok.mR b o e)⟩
def Inv.bk (I:Inv X π σ H s):∀b o,X.base.get? b=some o->s.heap.get? b=some o:=λb o e=>(I.bs b o e).1
theorem Inv.mod (I:Inv X π σ H s):Mod X.K X.mg X.base:=I.ok.mod
def Inv.qQ (I:Inv X π σ H s):X.K.In s.heap:=I.ok.mod.uu.keeps I.bk
theorem Inv.lt (I:Inv X π σ H s):X.env.locals<s.heap.objs.size:=let ⟨_,Z,_⟩:=I.loc;Z.lt
def Inv.sz (I:Inv X π σ H s):X.cH.heap.objs.size<=s.heap.objs.size:=è I.ok.above (Nat.le_of_lt I.lt)
def Inv.tL (I:Inv X π σ H s) {a:à} (h:s.heap.objs.size<=a):a∉X.fs:=λZ=>by
 obtain⟨_,o,Y,_⟩:=I.ok.jM.mem Z;exact absurd (Ë (Ñ Y) (è I.sz h)) (ù _)
def Inv.oH (I:Inv X π σ H s):∀x c,X.env.cells.lookup x=some c->c≠X.env.locals:=λx c e z=>by
 obtain⟨v,o,Z,Y⟩:=I.cell x c e;obtain⟨m,⟨U,T,S,W,V,_⟩,_⟩:=I.loc;rw[z,W] at Z;cases Z;rw[V] at Y;cases Y
theorem Inv.jM (I:Inv X π σ H s):s.heap.FunFrames X.base X.outer:=by
 have all:∀(l:List Env),(∀b∈gC l,b∈X.fs)->X.cH.heap.FunFrames X.base l->s.heap.FunFrames X.base l:=by
  intro l
  induction l with
  |nil=>intro _ _;trivial
  |cons env r ih =>
   intro hs V;obtain⟨U,⟨L,o,Z,T,S,R⟩,Q⟩:=V;have Y:L∈X.fs:=hs L (by unfold gC;rw[Y3,Z];exact Î);obtain⟨P,e⟩:=I.base.slot L o S (I.ok.qP L Y) Y λz=>I.ok.xt L z Y;exact⟨U,⟨L,_,Z,T,e,R⟩,ih (λb W=>hs b (by unfold gC;rw[Y3,Z];exact Ð _ W)) Q⟩
 exact all X.outer (λ_ W=>W) I.ok.jM
theorem Inv.stack (I:Inv X π σ H s):s.heap.FunFrames X.base X.stack:=by
 rcases I.ok.xQ with e | ⟨e,Z⟩
 ·rw[e];exact I.jM
 ·rw[e]
  obtain⟨m,Y,_⟩:=I.loc;refine .cons (by rw[I.ok.kind];decide) Z Y ?_ I.jM;exact Heap.get?_none_of_le (è I.ok.jo I.ok.above)
def Inv.lC (I:Inv X π σ H s):∀b∈gC X.stack,b∈X.env.locals::X.fs:=λb Z=>by
 rcases I.ok.xQ with e | ⟨e,Y⟩
 ·rw[e] at Z;exact Ð _ Z
 ·rw[e] at Z
  unfold gC at Z;rw[Y3,Y] at Z;exact Z
def Inv.zJ (I:Inv X π σ H s):∀b∈gC X.stack,H b=none:=λb hb=>by
 rcases Ò.mp (I.lC b hb) with e|hb
 ·rw[e];exact I.free
 ·obtain⟨_,o,Z,_⟩:=I.ok.jM.mem hb
  exact I.base.free b o Z (I.ok.qP b hb) λz=>I.ok.xt b z hb
def Inv.step {g':Array GenState} {t':Nat} {d':Drawn} {ch:List à} (I:Inv X π σ H s)
  (kP:∀b∈ch,(b∈X.ex\/X.cH.heap.objs.size<=b)/\b≠X.env.locals/\(∀x c,X.env.cells.lookup x=some c->c≠b)/\∀p∈X.pn++π,p.1≠b)
  (keep:∀b o,b≠X.env.locals->b∉X.fs->b∉ch->s.heap.get? b=some o->H b=none->h'.get? b=some o)
  (slot:∀b o,b≠X.env.locals->b∈X.fs->b∉ch->s.heap.get? b=some o->H b=none->∃sl,h'.get? b=some { o with slots:=sl }) (free:∀b o,b∉ch->s.heap.get? b=some o->H b=none->H' b=none)
  (there:∀b o,b∉ch->s.heap.get? b=some o->∃o',h'.get? b=some o')
  (jj:∀b xs,H b=some (.tup xs)->H' b=some (.tup xs)) (iJ:∀b o u,H b=some (.bE o u)->H' b=some (.bE o u)) (jL:∀b ps,H b=some (.mW ps)->∃more,H' b=some (.mW (ps++more)))
  (ns:∀m,s.heap.Ns X.env.locals m->h'.Ns X.env.locals m) (aC:bZ X.prog X.w H' h') (hg:AllBare g') :
  Inv X π σ H' { s with heap:=h',gens:=g',drawn:=d',toks:=t' }:=by
 have S:∀b o,X.cH.heap.get? b=some o->b≠X.env.locals:=λb o e=>ç (Ë (Ñ e) I.ok.above);have U:∀b o,X.cH.heap.get? b=some o->b∉X.ex->b∉ch:=λb o e Z Y=>by
  rcases(kP b Y).1 with z|z
  ·exact Z z
  ·exact absurd (Ë (Ñ e) z) (ù _)
 have cellK:∀x c,X.env.cells.lookup x=some c->∀v,s.heap.IsCell c v->h'.IsCell c v:=λx c e v ⟨o,W,T⟩=>by
  have V:c∉ch:=λz=>(kP c z).2.2.1 x c e rfl;by_cases R:c∈X.fs
  ·obtain⟨sl,q⟩:=slot c o (I.oH x c e) R V W (I.je x c e)
   exact⟨_,q,T⟩
  ·exact⟨o,keep c o (I.oH x c e) R V W (I.je x c e),T⟩
 refine⟨I.ok,I.os,hg,⟨λb o e n Y Z=>?_,λb o e n Y Z=>?_,λb o e n Z=>?_,λb o e Z=>?_,λb xs e=>jj b xs (I.base.jj b xs e),λb o xs e=>iJ b o xs (I.base.iJ b o xs e),λb ps e=>?_⟩,?_,λx c e=>?_,?_,λx c e=>?_,λp Q=>?_,aC,I.len⟩
 ·exact keep b o (S b o e) Y (U b o e Z) (I.base.keep b o e n Y Z) (I.base.free b o e n Z)
 ·obtain⟨sl,e1⟩:=I.base.slot b o e n Y Z
  obtain⟨O,e2⟩:=slot b _ (S b o e) Y (U b o e Z) e1 (I.base.free b o e n Z);exact⟨O,e2⟩
 ·obtain⟨o',e1⟩:=I.base.there b o e Z
  exact free b o' (U b o e Z) e1 (I.base.free b o e n Z)
 ·obtain⟨o',e1⟩:=I.base.there b o e Z
  exact there b o' (U b o e Z) e1
 ·obtain⟨N,e1⟩:=I.base.jL b ps e
  obtain⟨M,e2⟩:=jL b _ e1;exact⟨N++M,by rw[e2,Array.append_assoc]⟩
 ·obtain⟨m,L,K⟩:=I.loc
  refine⟨m,ns m L,λi x v e1 e2 J=>?_⟩;obtain⟨u,r,l⟩:=K i x v e1 e2 J;refine⟨u,r,?_⟩
  rcases l with l | ⟨k,c,e,z⟩
  ·exact .inl l
  ·exact .inr ⟨k,c,e,cellK x c e _ z⟩
 ·obtain⟨v,z⟩:=I.cell x c e
  exact⟨v,cellK x c e v z⟩
 ·obtain⟨m,⟨o,_,_,W,_⟩,_⟩:=I.loc
  exact free _ o (λz=>(kP _ z).2.1 rfl) W I.free
 ·obtain⟨v,o,W,T⟩:=I.cell x c e
  exact free c o (λz=>(kP c z).2.2.1 x c e rfl) W (I.je x c e)
 ·obtain⟨e,n,ne,P,d⟩:=I.pin p Q
  have V:p.1∉ch:=λz=>(kP p.1 z).2.2.2 p Q rfl;exact⟨keep p.1 p.2 ne P V e n,free p.1 p.2 V e n,ne,P,d⟩
def Inv.un {t':Nat} (I:Inv X π σ H s) (u:Un X.fs [] H H' s.heap h') (aC:bZ X.prog X.w H' h'):Inv X π σ H' { s with heap:=h',toks:=t' }:=by
 obtain⟨m,⟨o,Q,P,W,r⟩,_⟩:=id I.loc;obtain⟨O,U⟩:=u.any W I.free (by simp)
 exact I.step (g':=s.gens) (d':=s.drawn) (ch:=[]) (λ_ z=>nomatch z) (λb o _ Z _ e n=>u.keep b o e n Z (by simp)) (λb o _ Z _ e n=>u.slot b o e n Z (by simp)) (λb o _ e n=>u.free b o e n (by simp)) (λb o _ e=>u.there b o e (by simp)) u.jj u.iJ u.jL (λN T=>by
  obtain⟨M,Y,S,V,R⟩:=T;rw[W] at V;cases V;exact⟨_,Y,S,U,R⟩) aC I.bare
def Inv.call {g':Array GenState} {t':Nat} {d':Drawn} {ch:List à} (I:Inv X π σ H s) (u:Un (gC X.stack) ch H H' s.heap h') (aC:bZ X.prog X.w H' h') (hg:AllBare g')
  (kP:∀b∈ch,(b∈X.ex\/X.cH.heap.objs.size<=b)/\b≠X.env.locals/\(∀x c,X.env.cells.lookup x=some c->c≠b)/\∀p∈X.pn++π,p.1≠b) :
  Inv X π σ H' { s with heap:=h',gens:=g',drawn:=d',toks:=t' }:=by
 obtain⟨m,⟨o,P,O,V,r⟩,_⟩:=id I.loc;obtain⟨N,Y⟩:=u.any V I.free λz=>(kP _ z).2.1 rfl;exact I.step (ch:=ch) kP (λb o Y T Z e n=>u.keep b o e n (λz=>(Ò.mp (I.lC b z)).elim Y T) Z) (λb o _ _ Z e n=>u.any e n Z) (λb o Z e n=>u.free b o e n Z) (λb o Z e=>u.there b o e Z) u.jj u.iJ u.jL (λM S=>by
  obtain⟨L,W,R,U,Q⟩:=S;rw[V] at U;cases U;exact⟨_,W,R,Y,Q⟩) aC hg
def Inv.turned {t':Nat} {it:à} (I:Inv X π σ H s) (k:∀b o,b≠it->s.heap.get? b=some o->h'.get? b=some o) (hn:H it=none) (hL:it≠X.env.locals)
  (h1:it∈X.ex\/X.cH.heap.objs.size<=it) (h2:∀x c,X.env.cells.lookup x=some c->c≠it) (h3:∀p∈X.pn++π,p.1≠it):Inv X π σ H { s with heap:=h',toks:=t' }:=by
 have Y:∀b u,H b=some u->b≠it:=λb u e z=>by rw[z,hn] at e;cases e
 refine I.step (g':=s.gens) (d':=s.drawn) (ch:=[it]) (λb W=>?_) (λb o _ _ Z e _=>k b o (λz=>Z (by simp[z])) e) (λb o _ _ Z e _=>⟨o.slots,k b o (λz=>Z (by simp[z])) e⟩) (λ_ _ _ _ n=>n)
  (λb o Z e=>⟨o,k b o (λz=>Z (by simp[z])) e⟩) (λ_ _ e=>e) (λ_ _ _ e=>e) (λb R e=>⟨#[],by rw[e];simp⟩) (λm V=>?_) (λb u e=>?_) I.bare
 ·have e:b=it:=by simpa using W
  subst e;exact⟨h1,hL,h2,h3⟩
 ·obtain⟨o,U,T,S,r⟩:=V
  exact⟨o,U,T,k _ o (ų hL) S,r⟩
 ·refine(I.aC b u e).dB (λc v Z q=>k c v ?_ q) (λ_ q=>q) λ_ _ q=>q
  rcases Z with z|z
  ·rw[z];exact Y b u e
  ·exact Y c _ z
def Inv.tok (I:Inv X π σ H s) (t:Nat):Inv X π σ H { s with toks:=t }:=I.un (h':=s.heap) (t':=t) Un.refl I.aC
theorem Inv.kept (I:Inv X π σ H s) (k:∀b u,s.heap.get? b=some u->h'.get? b=some u):Inv X π σ H { s with heap:=h',toks:=t' }:=I.un (Un.kept k) (I.aC.kept k)
theorem Inv.laid {a:à} {o:HO} {t':Nat} (I:Inv X π σ H s) (k:∀b u,s.heap.get? b=some u->h'.get? b=some u) (hp:s.heap.objs.size<=a) (new:cL X.prog X.w (upd H a o) h' a o) :
  Inv X π σ (upd H a o) { s with heap:=h',toks:=t' }:=I.un (Un.laid k hp (I.aC.fresh hp)) (I.aC.laid k hp new)
theorem Inv.write (I:Inv X π σ H s) (mu:uq (H x)) (he:e=x\/H e=some (.own x)) (k:∀b u,b≠e->s.heap.get? b=some u->h'.get? b=some u) (qO:∃u,h'.get? e=some u)
 (new:cL X.prog X.w (upd H x o) h' x o):Inv X π σ (upd H x o) { s with heap:=h',toks:=t' }:=I.un (Un.write mu he k qO) (I.aC.write mu he k qO new)
def Inv.lu (I:Inv X π σ H s) (h:∀p∈SV,s.heap.get? p.1=some p.2/\H p.1=none/\p.1≠X.env.locals/\p.1∉X.fs/\∀v,p.2.data≠.cell v):Inv X SV σ H s :=
 ⟨I.ok,I.os,I.bare,I.base,I.loc,I.cell,I.free,I.je,λp Z=>(â.mp Z).elim (λz=>I.pin p (Ć _ z)) (h p),I.aC,I.len⟩
def FQ {N:List Str} (hN:N.Nodup) {i j:Nat} {x:Str} (a:N[i]?=some x) (b:N[j]?=some x):i=j:=by
 obtain⟨Z,e1⟩:=Ç.mp a;obtain⟨Y,e2⟩:=Ç.mp b;exact(List.getElem_inj hN).mp (e1.trans e2.symm)
def M8 {M:Model} {A:Ă} {E:Ê->Æ->Prop} {i:Nat} {x:Str} {v:V} {u:Ê} {Q:Unit->Æ->Prop} (I:Inv X π σ H s) (hN:X.N.Nodup) (hi:X.N[i]?=some x) (hx:Loc X.env.scope x) (r:RelV v u)
  (h:∀s',Inv X π (σ.set i (some v)) H s'->(∃a,Ĵ a s.heap s'.heap/\(a=X.env.locals\/X.env.cells.lookup x=some a))->Q () s') (hf:X.fn x=true\/X.env.scope.names.lookup x=some .local:=by first|exact .inl rfl|exact .inr rfl|assumption):Ú M A (storeName X.env x u) Q E s:=by
 obtain⟨m,T,D⟩:=id I.loc;have UE:(X.env.scope.kind==.class||(X.env.scope.kind==.module&&X.env.locals != X.env.globals))=false:=by rw[I.ok.kind];rfl
 have C:i < σ.length:=by rw[I.len];exact(Ç.mp hi).1
 have oH:=I.oH;have tracked:∀{a:à} {h':ō},(∃o,s.heap.get? a=some o/\H a=none)->Ĵ a s.heap h'->bZ X.prog X.w H h':=λ{a h'} ha hs b ob e=>by
  obtain⟨_,_,B⟩:=ha;refine(I.aC b ob e).dB (λc W hc q=>(hs.2 c ?_).trans q) (λ_ q=>q) λ_ _ q=>q;rintro rfl
  rcases hc with rfl|hc
  ·rw[B] at e;cases e
  ·rw[B] at hc;cases hc
 rcases hx with hk|hk
 ·refine wpAny_storeName_local hk T (λh' xS hs=>?_) UE
  obtain⟨oL,_,_,mY,_⟩:=id T;refine h _ ⟨I.ok,I.os,I.bare,⟨λb o e n Z hx=>?_,λb o e n Z hx=>?_,I.base.free,λb o e hx=>?_,I.base.jj,I.base.iJ,I.base.jL⟩,⟨_,xS,λj y S e1 e2 R=>?_⟩,λy c e=>?_,I.free,I.je,λp P=>?_,tracked ⟨oL,mY,I.free⟩ hs,by simpa using I.len⟩ ⟨_,hs,.inl rfl⟩
  ·exact(hs.2 b (ç (Ë (Ñ e) I.ok.above))).trans (I.base.keep b o e n Z hx)
  ·obtain⟨O,e1⟩:=I.base.slot b o e n Z hx
   exact⟨O,(hs.2 b (ç (Ë (Ñ e) I.ok.above))).trans e1⟩
  ·obtain⟨L,e1⟩:=I.base.there b o e hx
   exact⟨L,(hs.2 b (ç (Ë (Ñ e) I.ok.above))).trans e1⟩
  ·by_cases Y:j=i
   ·subst Y
    rw[hi] at e1;cases e1;rw[ì C] at e2;cases e2;exact⟨u,r,.inl ⟨hk,by simp⟩⟩
   ·rw[Ù (ų Y)] at e2
    obtain⟨K,J,q⟩:=D j y S e1 e2 R;refine⟨K,J,?_⟩
    rcases q with ⟨k,e⟩ | ⟨k,c,e,z⟩
    ·refine .inl ⟨k,?_⟩
     have:y≠x:=λe=>Y (FQ hN e1 (e ▸ hi));simp[this,e]
    ·exact .inr ⟨k,c,e,z.sameBut hs (oH y c e)⟩
  ·obtain⟨W,z⟩:=I.cell y c e
   exact⟨W,z.sameBut hs (oH y c e)⟩
  ·obtain⟨e,n,ne,G,d⟩:=I.pin p P
   exact⟨(hs.2 p.1 ne).trans e,n,ne,G,d⟩
 ·have F:X.fn x=true:=by
   rcases hf with z|z
   ·exact z
   ·rw[z] at hk;cases hk
  obtain⟨c,hc⟩:=I.ok.has x (.inl hk);obtain⟨W,z⟩:=I.cell x c hc;refine wpAny_storeName_cell I.ok.kind hk hc z (λh' t hs=>?_);obtain⟨l,g,UG⟩:=id z
  refine h { s with heap:=h' } ⟨I.ok,I.os,I.bare,⟨λb o e n Z hx=>?_,λb o e n Z hx=>?_,I.base.free,λb o e hx=>?_,I.base.jj,I.base.iJ,I.base.jL⟩,⟨m,T.sameBut hs (ų (oH x c hc)),λj y S e1 e2 R=>?_⟩,λy U e=>?_,I.free,I.je,λp P=>?_,tracked ⟨l,g,I.je x c hc⟩ hs,by simpa using I.len⟩ ⟨c,hs,.inr hc⟩
  ·exact(hs.2 b (ç (Ë (Ñ e) (I.ok.ux x c F hc)))).trans (I.base.keep b o e n Z hx)
  ·obtain⟨O,e1⟩:=I.base.slot b o e n Z hx
   exact⟨O,(hs.2 b (ç (Ë (Ñ e) (I.ok.ux x c F hc)))).trans e1⟩
  ·obtain⟨L,e1⟩:=I.base.there b o e hx
   exact⟨L,(hs.2 b (ç (Ë (Ñ e) (I.ok.ux x c F hc)))).trans e1⟩
  ·by_cases Y:j=i
   ·subst Y
    rw[hi] at e1;cases e1;rw[ì C] at e2;cases e2;exact⟨u,r,.inr ⟨.inl hk,c,hc,t⟩⟩
   ·rw[Ù (ų Y)] at e2
    obtain⟨K,J,q⟩:=D j y S e1 e2 R;refine⟨K,J,?_⟩
    rcases q with q | ⟨k,U,e,z'⟩
    ·exact .inl q
    ·refine .inr ⟨k,U,e,z'.sameBut hs ?_⟩
     rintro rfl;exact Y (FQ hN e1 (I.ok.inj _ _ _ e hc ▸ hi))
  ·by_cases f:U=c
   ·subst f;exact⟨_,t⟩
   ·obtain⟨w2,z2⟩:=I.cell y U e
    exact⟨w2,z2.sameBut hs f⟩
  ·obtain⟨e,n,ne,G,d⟩:=I.pin p P
   refine⟨(hs.2 p.1 ?_).trans e,n,ne,G,d⟩;intro q;rw[q,g] at e;have q':l=p.2:=aam e;exact d W (by rw[<- q'];exact UG)
def mq (I:Inv X π σ H s) (hN:X.N.Nodup) (hi:X.N[i]?=some x) (hx:Loc X.env.scope x) (r:RelV v u)
 (h:∀s',Inv X π (σ.set i (some v)) H s'->Q () s') (hf:X.fn x=true\/X.env.scope.names.lookup x=some .local:=by first|exact .inl rfl|exact .inr rfl|assumption):Ú M A (storeName X.env x u) Q E s :=
 M8 I hN hi hx r (λs' Z _=>h s' Z) hf
def Inv.w9 (I:Inv X π σ H s) (ho:s'.os=s.os) (u:Un (gC X.stack) ch H H' s.heap s'.heap) (aC:bZ X.prog X.w H' s'.heap) (hg:AllBare s'.gens)
 (kP:∀b∈ch,(b∈X.ex\/X.cH.heap.objs.size<=b)/\b≠X.env.locals/\(∀x c,X.env.cells.lookup x=some c->c≠b)/\∀p∈X.pn++π,p.1≠b):Inv X π σ H' s':=by
 obtain⟨h',g',d',t',Z⟩:=s';have e:Z=s.os:=ho;subst e;exact I.call (g':=g') (t':=t') (d':=d') u aC hg kP
end
abbrev XK:=Ê->Option à->Hp->Prop
noncomputable abbrev St:=List (Option V)
abbrev VK:=V->Hp->Prop
abbrev TE:=St->Hp->VK->Prop
abbrev TT:=St->Hp->(Bool->Hp->Prop)->Prop
abbrev TA:=St->Hp->(List V->Hp->Prop)->Prop
structure Ends where
 nx:St->Hp->Prop
 rt:VK
 bk:St->Hp->Prop:=λ_ _=>False
 ct:St->Hp->Prop:=λ_ _=>False
abbrev TS:=Ends->St->Hp->Prop
def EP (X:Cx) (π:List (à×Obj)) (σ:St) (Q:VK) (u:Ê) (s':Æ):Prop:=∃v Z,Inv X π σ Z s'/\RelV v u/\Q v Z
def TP (X:Cx) (π:List (à×Obj)) (σ:St) (Q:Bool->Hp->Prop) (b:Bool) (s':Æ):Prop:=∃Z,Inv X π σ Z s'/\Q b Z
def AP (X:Cx) (π:List (à×Obj)) (σ:St) (Q:List V->Hp->Prop) (us:List Ê) (s':Æ):Prop:=∃Z Y,Inv X π σ Y s'/\Vals Z us/\Q Z Y
def SP (X:Cx) (π:List (à×Obj)) (D:Ends) (f:Flow) (s':Æ):Prop :=
 match f with
 | .next=>∃ Y Z,Inv X π Y Z s'/\D.nx Y Z
 | .brk=>∃ Y Z,Inv X π Y Z s'/\D.bk Y Z
 | .cont=>∃ Y Z,Inv X π Y Z s'/\D.ct Y Z
 | .ret u=>∃v Y Z,Inv X π Y Z s'/\RelV v u/\D.rt v Z
def PE (X:Cx) (e:ņ) (t:TE):Prop :=
 ∀(Z:List (à×Obj)) (s:Æ) (σ:St) (H:Hp) (Q:VK),Inv X Z σ H s->t σ H Q->Ú (î X.prog X.w) X.A (Ž e X.env) (EP X Z σ Q) X.xe s
def PT (X:Cx) (e:ņ) (t:TT):Prop :=
 ∀(Z:List (à×Obj)) (s:Æ) (σ:St) (H:Hp) (Q:Bool->Hp->Prop),Inv X Z σ H s->t σ H Q->Ú (î X.prog X.w) X.A (isTrue e X.env (Ž e X.env)) (TP X Z σ Q) X.xe s
def PW (X:Cx) (e:ņ) (t:TT):Prop :=
 ∀(whole:Sem Ê) (Z:List (à×Obj)) (s:Æ) (σ:St) (H:Hp) (Q:Bool->Hp->Prop),Inv X Z σ H s->t σ H Q->Ú (î X.prog X.w) X.A (isTrue e X.env whole) (TP X Z σ Q) X.xe s
def PW.pt (h:PW X e t):PT X e t:=h _
def PA (X:Cx) (es:List ņ) (t:TA):Prop :=
 ∀(pos:Pos) (Z:List (à×Obj)) (s:Æ) (σ:St) (H:Hp) (Q:List V->Hp->Prop),Inv X Z σ H s->t σ H Q->Ú (î X.prog X.w) X.A (spliced (Yt pos (Ý es X.env))) (AP X Z σ Q) X.xe s
def PS (X:Cx) (st:Stmt) (t:TS):Prop :=
 ∀(Z:List (à×Obj)) (s:Æ) (σ:St) (H:Hp) (D:Ends),Inv X Z σ H s->t D σ H->Ú (î X.prog X.w) X.A (exec st X.env) (SP X Z D) X.xe s
def de (X:Cx) (st:List Stmt) (t:TS):Prop :=
 ∀(Z:List (à×Obj)) (s:Æ) (σ:St) (H:Hp) (D:Ends),Inv X Z σ H s->t D σ H->Ú (î X.prog X.w) X.A (execs st X.env) (SP X Z D) X.xe s
def aJ {α:Type} {t:Sem α} {Q Q':α->Æ->Prop} {M:Model} {A:Ă} {E:Ê->Æ->Prop} {s:Æ} (h:Ú M A t Q E s) (hQ:∀a s,Q a s->Q' a s):Ú M A t Q' E s:=ň h hQ λ_ _ x=>x
section
variable {X:Cx}
def UH (i:Nat):TE:=fun σ H Q=>∃v,σ[i]?=some (some v)/\Q v H
def tC (v:V):TE:=λ_ H Q=>Q v H
def Rg {i:Nat} {x:Str} {pos:Pos} (hN:X.N[i]?=some x) (hv:uw X.env.scope x) (hd:(x==("__debug__":Str))=false:=by decide) (jU:(x==("__classdict__":Str))=false:=by decide):PE X (.Name x pos) (UH i):=by
 intro W s σ H Q I h;obtain⟨v,e,h⟩:=h;obtain⟨m,V,U⟩:=I.loc;obtain⟨u,r,l⟩:=U i x v hN e hv;have fin:EP X W σ Q u s:=⟨v,H,I,r,h⟩
 rcases l with ⟨hk,T⟩ | ⟨hk,c,Z,Y⟩
 ·exact wpAny_Name (wpAny_loadName_local I.ok.kind hk V T fin) hd
 ·rcases hk with hk|hk
  ·exact wpAny_Name (wpAny_loadName_cell I.ok.kind hk Z Y fin) hd
  ·exact wpAny_Name (wpAny_loadName_free I.ok.kind hk Z Y fin jU) hd
def Rh {i j pos}:PE X (.Constant (.int i) j pos) (tC (.int i)):=λ_ _ _ H _ I h=>wpAny_Constant_int ⟨.int i,H,I.tok _,⟨_,rfl⟩,h⟩
def SW {b j pos}:PE X (.Constant (.bool b) j pos) (tC (.bl b)):=λ_ _ _ H _ I h=>Constant_bool ⟨.bl b,H,I,rfl,h⟩
def Ri {x j pos}:PE X (.Constant (.str x) j pos) (tC (.str x)):=λ_ _ _ H _ I h=>Calls.Constant_str ⟨.str x,H,I.tok _,⟨_,rfl⟩,h⟩
def Gl (X:Cx) (x:Str):Prop:=X.env.kindOf x=some .globalImplicit
def GH {E:Ê->Æ->Prop} {π:List (à×Obj)} {s:Æ} {σ:St} {H:Hp} {x:Str} {u:Ê} {pos:Pos} {Q:Ê->Æ->Prop} (I:Inv X π σ H s) (hg:Gl X x) (hm:X.mg x=some u) (h:Q u s)
  (hd:(x==("__debug__":Str))=false:=by decide):Ú (î X.prog X.w) X.A (Ž (.Name x pos) X.env) Q E s :=
 Calls.Name_function_global I.ok.kind hg (Calls.loadGlobal_global (by rw[I.ok.glob];exact I.mod.glob.keeps I.bk) hm h) hd
def nV {E:Ê->Æ->Prop} {π:List (à×Obj)} {s:Æ} {σ:St} {H:Hp} {x:Str} {u:Ê} {pos:Pos} {Q:Ê->Æ->Prop} (I:Inv X π σ H s) (hg:Gl X x) (hm:X.mg x=none) (hv:ā x=some u) (h:Q u s)
  (hn:x≠"__name__":=by decide) (hd:(x==("__debug__":Str))=false:=by decide):Ú (î X.prog X.w) X.A (Ž (.Name x pos) X.env) Q E s:=by
 obtain⟨W,Z,Y⟩:=I.mod.blt;exact Calls.Name_function_global I.ok.kind hg (Calls.loadGlobal_builtin (by rw[I.ok.glob];exact I.mod.glob.keeps I.bk) hm (by rw[I.ok.blt];exact Z.keeps I.bk) ((Y x hn).trans hv) h) hd
def Px (hg:Gl X x) (hm:X.mg x=some u) (r:RelV v u) (hd:(x==("__debug__":Str))=false:=by decide):PE X (.Name x pos) (tC v) :=
 λ_ _ _ H _ I h=>GH I hg hm ⟨v,H,I,r,h⟩ hd
theorem Py {x:Str} {v:V} {u:Ê} {pos:Pos} (hg:Gl X x) (hm:X.mg x=none) (hv:ā x=some u) (r:RelV v u) (hn:x≠"__name__":=by decide) (hd:(x==("__debug__":Str))=false:=by decide):PE X (.Name x pos) (tC v) :=
 λ_ _ _ H _ I h=>nV I hg hm hv ⟨v,H,I,r,h⟩ hn hd
variable {a b:ņ} {ta tb:TE} {pos:Pos}
variable {tA xT:TT} {rest:List ņ}
def gP (t u:TT):TT:=fun σ H Q=>t σ H λc Z=>if c=true then u σ Z Q else Q false Z
def iU (t u:TT):TT:=fun σ H Q=>t σ H λc Z=>if c=true then Q true Z else u σ Z Q
def fI (t:TT):TT:=fun σ H Q=>t σ H λc Z=>Q (!c) Z
def Pz (ha:PT X a tA):PW X (.BoolOp .And [a] pos) tA:=by
 intro Y Z s σ H Q I h;refine isTrue_and (aJ (ha Z s σ H Q I h) λc W e=>?_)
 cases c with
 |true=>exact isTrue_and_nil e
 |false=>exact e
def Rj (ha:PT X a tA):PW X (.BoolOp .Or [a] pos) tA:=by
 intro Y Z s σ H Q I h;refine isTrue_or (aJ (ha Z s σ H Q I h) λc W e=>?_)
 cases c with
 |false=>exact isTrue_or_nil e
 |true=>exact e
def Rk (ha:PT X a tA) (hb:PW X (.BoolOp .And (b::rest) pos) xT):PW X (.BoolOp .And (a::b::rest) pos) (gP tA xT):=by
 intro U Z s σ H Q I h;refine isTrue_and (aJ (ha Z s σ H _ I h) λc T ⟨Y,W,V⟩=>?_)
 cases c with
 |true=>exact hb U Z T σ Y Q W V
 |false=>exact⟨Y,W,V⟩
def SX (ha:PT X a tA) (hb:PW X (.BoolOp .Or (b::rest) pos) xT):PW X (.BoolOp .Or (a::b::rest) pos) (iU tA xT):=by
 intro U Z s σ H Q I h;refine isTrue_or (aJ (ha Z s σ H _ I h) λc T ⟨Y,W,V⟩=>?_)
 cases c with
 |true=>exact⟨Y,W,V⟩
 |false=>exact hb U Z T σ Y Q W V
def Rl (ha:PT X a tA):PT X (.UnaryOp .Not a pos) (fI tA):=by
 intro Z s σ H Q I h;exact isTrue_not (ha Z s σ H (λc Y=>Q (!c) Y) I h)
def SY (ta tb:TE):TE:=fun σ H Q=>ta σ H λx Z=>∃c,x=.bl c/\if c=true then tb σ Z Q else Q (.bl false) Z
def UI (ta tb:TE):TE:=fun σ H Q=>ta σ H λx Z=>∃c,x=.bl c/\if c=true then Q (.bl true) Z else tb σ Z Q
def S0 (ta:TE):TE:=fun σ H Q=>ta σ H λx Z=>∃c,x=.bl c/\Q (.bl (!c)) Z
def Rm {op} (h:PE X a t):PE X (.BoolOp op [a] pos) t:=λZ s σ H Q I hw=>BoolOp_one (h Z s σ H Q I hw)
def Rn (ha:PE X a ta) (hb:PE X (.BoolOp .And (b::rest) pos) tb):PE X (.BoolOp .And (a::b::rest) pos) (SY ta tb):=by
 intro Y s σ H Q I h;refine BoolOp_and (aJ (ha Y s σ H _ I h) λv U ⟨x,W,V,T,Z⟩=>?_);obtain⟨c,rfl,Z⟩:=Z;cases T;refine Ŗ ?_
 cases c with
 |true=>exact hb Y U σ W Q V Z
 |false=>exact⟨.bl false,W,V,rfl,Z⟩
def S6 (ha:PE X a ta) (hb:PE X (.BoolOp .Or (b::rest) pos) tb):PE X (.BoolOp .Or (a::b::rest) pos) (UI ta tb):=by
 intro Y s σ H Q I h;refine BoolOp_or (aJ (ha Y s σ H _ I h) λv U ⟨x,W,V,T,Z⟩=>?_);obtain⟨c,rfl,Z⟩:=Z;cases T;refine Ŗ ?_
 cases c with
 |false=>exact hb Y U σ W Q V Z
 |true=>exact⟨.bl true,W,V,rfl,Z⟩
def Ro (ha:PE X a ta):PE X (.UnaryOp .Not a pos) (S0 ta):=by
 intro Y s σ H Q I h;refine UnaryOp_ (aJ (ha Y s σ H _ I h) λv T ⟨x,W,V,U,Z⟩=>?_);obtain⟨c,rfl,Z⟩:=Z;cases U;exact not_of (Ŗ ⟨.bl (!c),W,V,rfl,Z⟩)
end
def bo (K:Ļ) (H:Hp) (a:à) (xs:List V):Prop :=
 Rd H a (.lst xs) \/
  ∃(o:Obj) (its:Array Ê) (n:Nat),K.lookup a=some o/\o.cls=.type "list"/\o.dict=none/\o.data=.seq its n/\its.size<=Û/\Vals xs its.toList
def aX (K:Ļ) (H:Hp) (a:à) (xs:List V):Prop :=
 Rd H a (.tup xs) \/
  ∃(o:Obj) (its:Array Ê) (n:Nat),K.lookup a=some o/\o.cls=.type "tuple"/\o.data=.seq its n/\its.size<=Û/\Vals xs its.toList
noncomputable def UJ:Ê->Option V
 | .none=>some .au
 | .bool b=>some (.bl b)
 | .int i _=>some (.int i)
 | .str x _=>some (.str x)
 | .bytes b _=>some (.iT b)
 | .float b _=>some (.uk b)
 | .ref a=>some (.ref a)
 | .type n=>some (.ty n)
 |_=>none
def RelV.abs (r:RelV x u):UJ u=some x:=by
 cases x with
 |au=>cases r;rfl
 |bl _=>cases r;rfl
 |int _=>obtain⟨t,rfl⟩:=r;rfl
 |str _=>obtain⟨t,rfl⟩:=r;rfl
 |iT _=>obtain⟨t,rfl⟩:=r;rfl
 |uk _=>obtain⟨t,rfl⟩:=r;rfl
 |ref _=>cases r;rfl
 |ty _=>cases r;rfl
def RelV.inj (r:RelV x u) (q:RelV y u):x=y:=aam (r.abs.symm.trans q.abs)
theorem Vals.inj:∀{xs ys:List V} {us:List Ê},Vals xs us->Vals ys us->xs=ys
 |_,_,_,.nil,.nil=>rfl
 |_,_,_,.cons r t,.cons Z Y=>by rw[r.inj Z,Vals.inj t Y]
section
variable {X:Cx} {π:List (à×Obj)} {σ:St} {H:Hp} {s:Æ} {a:à} {xs ys:List V}
def bo.of {K:Ļ} (h:H a=some (.lst xs)):bo K H a xs:=.inl (.inl h)
def aX.of {K:Ļ} (h:H a=some (.tup xs)):aX K H a xs:=.inl (.inl h)
def Inv.list (I:Inv X π σ H s) (h:bo X.K H a xs):∃its:List Ê,Vals xs its/\PlainL s.heap a its.toArray/\xs.length<=Û:=by
 rcases h with h | ⟨o,its,n,Z,Y,W,hs,V,r⟩
 ·obtain⟨z,its,n,r,e⟩:=h.ok I.aC
  exact⟨its,r,⟨_,n,e,rfl,rfl,rfl⟩,z⟩
 ·refine⟨its.toList,r,⟨o,n,I.qQ a o Z,Y,W,by simpa using hs⟩,?_⟩
  have e:=r.length;simp only[ä] at e;omega
def Inv.tuple (I:Inv X π σ H s) (h:aX X.K H a xs):∃its:List Ê,Vals xs its/\IsTup s.heap a its.toArray/\xs.length<=Û:=by
 rcases h with h | ⟨o,its,n,Z,Y,hs,W,r⟩
 ·obtain⟨z,its,r,p⟩:=h.ok I.aC
  exact⟨its,r,p,z⟩
 ·refine⟨its.toList,r,⟨o,I.qQ a o Z,Y,n,by simpa using hs⟩,?_⟩
  have e:=r.length;simp only[ä] at e;omega
def Inv.FR (I:Inv X π σ H s) (h:bo X.K H a xs) (h':bo X.K H a ys):xs=ys:=by
 obtain⟨its,r,⟨o,n,e,_,_,d⟩,_⟩:=I.list h;obtain⟨Z,V,⟨T,S,Y,_,_,W⟩,_⟩:=I.list h';rw[e] at Y;cases Y;rw[d] at W
 injection W with U _
 have:its=Z:=by simpa using ļ Array.toList U
 subst this;exact r.inj V
def Inv.E8 (I:Inv X π σ H s) (h:aX X.K H a xs) (h':aX X.K H a ys):xs=ys:=by
 obtain⟨its,r,⟨o,e,_,n,d⟩,_⟩:=I.tuple h;obtain⟨Z,V,⟨T,Y,_,S,W⟩,_⟩:=I.tuple h';rw[e] at Y;cases Y;rw[d] at W
 injection W with U _
 have:its=Z:=by simpa using ļ Array.toList U
 subst this;exact r.inj V
end
noncomputable abbrev Cx.kJ (X:Cx) (E:Ê->Æ->Prop):Cx:={ X with xe:=E }
noncomputable abbrev Cx.qR (X:Cx):Cx:=X.kJ λ_ _=>False
theorem Cx.Ok.kJ {X:Cx} (ok:X.Ok) (E:Ê->Æ->Prop):(X.kJ E).Ok :=
 ⟨ok.mod,ok.kind,ok.glob,ok.blt,ok.above,ok.inj,ok.has,ok.ux,ok.hd,ok.frames,ok.xQ,ok.Ke,ok.bs,ok.jo,ok.mR,ok.xt,ok.jM,ok.qP⟩
def Cx.Ok.mB {X:Cx} {E:Ê->Æ->Prop} (ok:(X.kJ E).Ok):X.Ok :=
 ⟨ok.mod,ok.kind,ok.glob,ok.blt,ok.above,ok.inj,ok.has,ok.ux,ok.hd,ok.frames,ok.xQ,ok.Ke,ok.bs,ok.jo,ok.mR,ok.xt,ok.jM,ok.qP⟩
section
variable {X:Cx} {π:List (à×Obj)} {σ:St} {H:Hp} {s:Æ} {E:Ê->Æ->Prop}
theorem Inv.kJ (I:Inv X π σ H s) (E:Ê->Æ->Prop):Inv (X.kJ E) π σ H s:=⟨I.ok.kJ E,I.os,I.bare,I.base,I.loc,I.cell,I.free,I.je,I.pin,I.aC,I.len⟩
theorem Inv.mB (I:Inv (X.kJ E) π σ H s):Inv X π σ H s:=⟨I.ok.mB,I.os,I.bare,I.base,I.loc,I.cell,I.free,I.je,I.pin,I.aC,I.len⟩
theorem SP.mB (h:SP (X.kJ E) π D f s'):SP X π D f s':=by
 cases f with
 |next=>obtain⟨Z,Y,I,q⟩:=h;exact⟨Z,Y,I.mB,q⟩
 |brk=>obtain⟨Z,Y,I,q⟩:=h;exact⟨Z,Y,I.mB,q⟩
 |cont=>obtain⟨Z,Y,I,q⟩:=h;exact⟨Z,Y,I.mB,q⟩
 |ret u=>obtain⟨v,Z,Y,I,r,q⟩:=h;exact⟨v,Z,Y,I.mB,r,q⟩
theorem de.qR {st:List Stmt} {t:TS} (h:de X.qR st t):de X st t:=λπ s σ H D I hw =>
 ň (h π s σ H D (I.kJ _) hw) (λ_ _ q=>q.mB) λ_ _ z=>YD z
end
section
variable {X:Cx} {st:Stmt} {rest:List Stmt} {t u:TS} {e:ņ} {te:TE} {pos:Pos}
def S7:TS:=λD σ H=>D.nx σ H
def UK (t u:TS):TS:=λD σ H=>t { D with nx:=u D } σ H
def PB:de X [] S7:=λ_ _ σ H _ I h=>wpAny_execs_nil ⟨σ,H,I,h⟩
def Ob (h1:PS X st t) (h2:de X rest u):de X (st::rest) (UK t u):=by
 intro Z s σ H D I h
 refine wpAny_execs_cons (aJ (h1 Z s σ H { D with nx:=u D } I h) λf Y q=>?_)
 cases f with
 |next =>
  obtain⟨W,V,U,q⟩:=q;exact h2 Z Y W V D U q
 |ret v=>exact q
 |brk=>exact q
 |cont=>exact q
def PC (h1:PS X st t):de X [st] t:=by
 intro Z s σ H D I h;refine wpAny_execs_cons (aJ (h1 Z s σ H D I h) λf Y q=>?_)
 cases f with
 |next=>exact wpAny_execs_nil q
 |ret v=>exact q
 |brk=>exact q
 |cont=>exact q
def Inv.quiet {π:List (à×Obj)} {σ:St} {H:Hp} {s:Æ} (I:Inv X π σ H s):interactive X.env=false:=by simp[interactive,I.ok.kind]
def S8 (te:TE):TS:=λD σ H=>te σ H λ_ Z=>D.nx σ Z
def PD (he:PE X e te) (hs:swapsWith e none pos.line X.env=pure false:=by rfl):PS X (.Expr e pos) (S8 te):=by
 intro Z s σ H D I h;exact wpAny_Expr_any (aJ (he Z s σ H _ I h) λv U ⟨x,Y,W,T,V⟩=>⟨σ,Y,W,V⟩) I.quiet hs
def UL (te:TE):TS:=λD σ H=>te σ H D.rt
def Rp (he:PE X e te):PS X (.Return (some e) pos) (UL te):=by
 intro Z s σ H D I h;exact wpAny_Return_some (aJ (he Z s σ H _ I h) λv T ⟨x,Y,W,V,U⟩=>⟨x,σ,Y,W,V,U⟩)
def UM (c:TT) (t u:TS):TS:=λD σ H=>c σ H λb Z=>if b=true then t D σ Z else u D σ Z
def S9 {c:ņ} {a b:List Stmt} {tc:TT} (hc:PT X c tc) (ha:de X a t) (hb:de X b u):PS X (.If c a b pos) (UM tc t u):=by
 intro Z s σ H D I h;refine wpAny_If (aJ (hc Z s σ H _ I h) λd Y ⟨W,V,U⟩=>?_)
 cases d with
 |true=>exact ha Z Y σ W D V U
 |false=>exact hb Z Y σ W D V U
end
abbrev TG:=V->St->Hp->(St->Hp->Prop)->Prop
abbrev jV:=List V->St->Hp->(St->Hp->Prop)->Prop
def PG (X:Cx) (target:ņ) (t:TG):Prop :=
 ∀(Z:List (à×Obj)) (s:Æ) (σ:St) (H:Hp) (v:V) (u:Ê) (Q:St->Hp->Prop),Inv X Z σ H s->RelV v u->t v σ H Q ->
  Ú (î X.prog X.w) X.A (ZO target X.env u) (λ_ U=>∃ Y W,Inv X Z Y W U/\Q Y W) X.xe s
def kR (X:Cx) (ts:List ņ) (t:jV):Prop :=
 ∀(Z:List (à×Obj)) (s:Æ) (σ:St) (H:Hp) (Y:List V) (W:List Ê) (Q:St->Hp->Prop),Inv X Z σ H s->Vals Y W->t Y σ H Q ->
  Ú (î X.prog X.w) X.A (ZQ ((š ts X.env).map (·.2)) W) (λ_ S=>∃ U T,Inv X Z U T S/\Q U T) X.xe s
abbrev xu:=V->V->V->Hp->(Hp->Prop)->Prop
def Bv (X:Cx) (t:xu):Prop :=
 ∀(Z:List (à×Obj)) (s:Æ) (σ:St) (H:Hp) (o i v:V) (Y W u:Ê) (Q:Hp->Prop),Inv X Z σ H s->RelV o Y->RelV i W->RelV v u->t o i v H Q ->
  Ú (î X.prog X.w) X.A (setItem Y W u) (λ_ T=>∃U,Inv X Z σ U T/\Q U) X.xe s
section
variable {X:Cx} {pos:Pos}
def lG (i:Nat):TG:=λv σ H Q=>Q (σ.set i (some v)) H
def fE (hN:X.N.Nodup) (hi:X.N[i]?=some x) (hx:Loc X.env.scope x) (hf:X.fn x=true\/X.env.scope.names.lookup x=some .local:=by first|exact .inl rfl|exact .inr rfl|assumption):PG X (.Name x pos) (lG i):=by
 intro Y s σ H v u Q I r h;exact wpAny_assign_Name (mq I hN hi hx r (λW Z=>⟨_,H,Z,h⟩) hf)
def Bw:jV:=λZ σ H Q=>Z=[]/\Q σ H
def AV (t:TG) (u:jV):jV:=λZ σ H Q=>∃v r,Z=v::r/\t v σ H fun Y X=>u r Y X Q
def p6:kR X [] Bw:=by
 intro Z s σ H Y W Q I r h;obtain⟨e,h⟩:=h;subst e;cases r;exact assignInOrder_nil ⟨σ,H,I,h⟩
def jA {e:ņ} {es:List ņ} {t:TG} {u:jV} (h1:PG X e t) (h2:kR X es u)
  (hs:(š (e::es) X.env).map (·.2)=ZO e X.env::(š es X.env).map (·.2):=by rfl):kR X (e::es) (AV t u):=by
 intro Z s σ H R P Q I r h;obtain⟨v,O,e1,h⟩:=h;subst e1
 cases r with
 |cons r Y =>
  rw[hs];refine Ŧ (aJ (h1 Z s σ H _ _ _ I r h) λ_ W ⟨V,U,T,S⟩=>?_);exact h2 Z W V U _ _ Q T Y S
def Bx (K:Ļ) (n:Nat) (t:jV):TG:=λv σ H Q=>∃a Z,v=.ref a/\aX K H a Z/\Z.length=n/\t Z σ H Q
def kA {k:Nat} {n:Nat} (hc:X.calm=true) (h:kR X es t)
 (hn:(š es X.env).length=n:=by rfl) (uA:(š es X.env).findIdx? (·.1)=none:=by rfl):PG X (.Tuple es k pos) (Bx X.K n t):=by
 intro Z s σ H v u Q I r hw;obtain⟨a,W,e1,V,U,hw⟩:=hw;subst e1;cases r;obtain⟨its,Y,T,O⟩:=I.tuple V;refine assign_Tuple_tuple (I.ok.hd hc) T (by simp[hn,<- U,Y.length]) uA λS R=>?_
 have P:Inv X Z σ H { s with heap:=S }:=I.kept (t':=s.toks) λb o e=>R b o (ç (Ñ e)) e
 exact h Z _ σ H W _ Q P (by simpa using Y) hw
def UN (to ti:TE) (t:xu):TG:=λv σ H Q=>to σ H λo Z=>ti σ Z λi Y=>t o i v Y λX=>Q σ X
def HD {o i:ņ} {to ti:TE} {t:xu} (ho:PE X o to) (hi:PE X i ti) (hs:Bv X t)
  (ha:∀v,ZO (.Subscript o i pos) X.env v=(do
   let ov <- Zc [v] (Ž o X.env)
   let iv <- Zc [v,ov] (Ž i X.env)
   ZZ pos
   Zc [v,ov,iv] (setItem ov iv v)
   release [v,ov,iv] []):=by intro _;rfl):PG X (.Subscript o i pos) (UN to ti t):=by
 intro Z s σ H v u Q I r h;rw[ha];refine À (ĝ (aJ (ho Z s σ H _ I h) λov Y ⟨x,W,V,U,T⟩=>?_));refine À (ĝ (aJ (hi Z Y σ W _ V T) λiv S ⟨y,R,P,O,N⟩=>?_));refine À (δ (À (ĝ (aJ (hs Z S σ R x y v ov iv u _ P U O r N) λ_ J ⟨M,L,K⟩=>?_))));exact wpAny_release ⟨σ,M,L,K⟩
def qC (te:TE) (g:TG):TS:=λD σ H=>te σ H λx Z=>g x σ Z D.nx
def As {tg e:ņ} {te:TE} {g:TG} (he:PE X e te) (hg:PG X tg g) (hs:ε [tg] e pos.line X.env=pure false:=by rfl) (hw:ζ [tg] e X.env=pure none:=by rfl)
  (h1:(š [tg] X.env).map (·.2)=[ZO tg X.env]:=by rfl):PS X (.Assign [tg] e pos) (qC te g):=by
 intro Z s σ H D I h;refine wpAny_Assign_stores (aJ (he Z s σ H _ I h) λv Y ⟨x,W,V,U,T⟩=>?_) hs hw;rw[h1];exact aJ (hg Z Y σ W x v _ V U T) λ_ S q=>q
def Rq {i:Nat} {x:Str} {e:ņ} {te:TE} {pos':Pos} (hN:X.N.Nodup) (hi:X.N[i]?=some x) (hx:Loc X.env.scope x) (he:PE X e te) (hs:swapsWith e (some (.Name x pos')) pos.line X.env=pure false:=by rfl) (hf:X.fn x=true\/X.env.scope.names.lookup x=some .local:=by first|exact .inl rfl|exact .inr rfl|assumption) :
  PS X (.Assign [.Name x pos'] e pos) (qC te (lG i)):=by
 intro Z s σ H D I h;refine wpAny_Assign_Name (aJ (he Z s σ H _ I h) λv S ⟨y,Y,W,V,U⟩=>?_) hs;exact mq W hN hi hx V (λR T=>⟨_,Y,T,U⟩) hf
def UO (i j:Nat) (ta:TA):TS:=λD σ H=>ta σ H λZ Y=>∃v w,Z=[v,w]/\D.nx ((σ.set i (some v)).set j (some w)) Y
def Rr {i j:Nat} {x y:Str} {a b:ņ} {ta:TA} {px py pt:Pos} {kt k2 gX} (hc:X.calm=true) (hN:X.N.Nodup) (hi:X.N[i]?=some x) (hj:X.N[j]?=some y) (dR:i≠j)
  (hx:X.env.scope.names.lookup x=some .local) (hy:X.env.scope.names.lookup y=some .local) (ha:PA X [a,b] ta)
  (hw:ζ [.Tuple [.Name x px,.Name y py] kt pt] (.Tuple [a,b] k2 gX) X.env=pure (some [x,y]))
  (hs:ε [.Tuple [.Name x px,.Name y py] kt pt] (.Tuple [a,b] k2 gX) pos.line X.env=pure false:=by rfl) :
  PS X (.Assign [.Tuple [.Name x px,.Name y py] kt pt] (.Tuple [a,b] k2 gX) pos) (UO i j ta):=by
 intro U s σ H D I h;rw[exec_Assign_arm];refine À (δ ?_);rw[hs];refine À (Â ?_);rw[ð (by decide)];refine À (Tuple_ (aJ (ha _ U s σ H _ I h) λR Z ⟨C,T,Q,P,V⟩=>?_));obtain⟨v,w,e1,V⟩:=V;subst e1;obtain⟨Y,W,rfl,O,M⟩:∃Y W,R=[Y,W]/\RelV v Y/\RelV w W:=by
  cases P with
  |cons p q =>
   cases q with
   |cons L K =>
    cases K;exact⟨_,_,rfl,p,L⟩
 refine ö ?_ (by show 2<=Û;decide)
 have J:Inv X U σ T { Z with heap:=Z.heap.push { cls:=.type "tuple",data:=.seq [Y,W].toArray } }:=Q.kept (t':=Z.toks) λb o e=>Á _ e
 rw[hw];refine À (Â ?_)
 show Ú (î X.prog X.w) X.A (do rule "assign.swapped-stores";let items <- unpackItems (.ref Z.heap.objs.size) 2 none;ZQ [λv=>ZR X.env y v,λv=>ZR X.env x v] items.reverse;pure Flow.next) _ _ _
 refine À (Ţ (À (unpackItems_tuple (items:=#[Y,W]) (I.ok.hd hc) (IsTup.new Z.heap _) λh' G=>?_)));have F:=J.kept (h':=h') (t':=Z.toks) λb o e=>G b o (ç (Ñ e)) e
 show Ú _ _ (ZQ [λv=>ZR X.env y v,λv=>ZR X.env x v] [W,Y] >>= λ_=>pure Flow.next) _ _ _
 refine À (Ŧ (ZC (mq F hN hj (.inl hy) M (λB E=>?_) (.inr hy))));refine Ŧ (ZC (mq E hN hi (.inl hx) O (λz S=>assignInOrder_nil (Â ?_)) (.inr hx)));rw[List.set_comm _ _ (ų dR)] at S;exact⟨_,T,S,V⟩
end
section
variable {X:Cx} {pos:Pos}
end
structure It where
 go:Nat->Hp->Prop
 uC:Nat->Hp->V->Hp->Prop
 stop:Nat->Hp->Prop
def fk (X:Cx) (π:List (à×Obj)) (H:Hp) (b:à):Prop :=
 H b=none/\b≠X.env.locals/\b∉X.fs/\(b∈X.ex\/X.cH.heap.objs.size<=b)/\(∀x c,X.env.cells.lookup x=some c->c≠b)/\∀p∈X.pn++π,p.1≠b
def Inv.tM {X:Cx} {π:List (à×Obj)} {σ:St} {H H':Hp} {s:Æ} {b:à} (I:Inv X π σ H s) (hb:s.heap.objs.size<=b) (hn:H' b=none):fk X π H' b:=by
 refine⟨hn,ŧ (Ë I.lt hb),I.tL hb,.inr (è I.sz hb),λx c e z=>?_,λp Z z=>?_⟩
 ·obtain⟨v,q⟩:=I.cell x c e
  exact absurd (Ë q.lt (by rw[z];exact hb)) (ù _)
 ·exact absurd (Ë (Ñ (I.pin p Z).1) (by rw[z];exact hb)) (ù _)
structure Turn (P:ô) (w:Ĉ) (K:Ļ) (tg:ņ) (J:It) (fp:List à) (it:à) (tn:Nat->ō->Prop):Prop where
 mem:it∈fp
 obj:∀i h,tn i h->∀b∈fp,∃o,h.get? b=some o/\∀v,o.data≠.cell v
 keep:∀i h h',tn i h->(∀b∈fp,∀o,h.get? b=some o->h'.get? b=some o)->tn i h'
 item:∀(X:Cx),X.prog=P->X.w=w->X.K=K->X.calm=true->∀(i:Nat) (π:List (à×Obj)) (s:Æ) (σ:St) (H:Hp) (E:Ê->Æ->Prop),Inv X π σ H s->(∀b∈fp,fk X π H b)->tn i s.heap->J.go i H ->
  Ú (î P w) X.A (ž (.ref it)) (λr s1=>∃u,r=some u /\
   Ú (î P w) X.A (Ř tg (.ref it) u) (λ_ s2=>∃x H',Inv X π σ H' s2/\RelV x u/\J.uC i H x H'/\tn (i+1) s2.heap/\∀b∈fp,H' b=none) E s1) E s
 done:∀(X:Cx),X.prog=P->X.w=w->X.K=K->X.calm=true->∀(i:Nat) (π:List (à×Obj)) (s:Æ) (σ:St) (H:Hp) (E:Ê->Æ->Prop),Inv X π σ H s->(∀b∈fp,fk X π H b)->tn i s.heap->J.stop i H ->
  Ú (î P w) X.A (ž (.ref it)) (λr s1=>r=none/\Inv X π σ H s1) E s
 self:∀(A:Ă) (i:Nat) (s:Æ) (Q:Ê->Æ->Prop) (E:Ê->Æ->Prop),tn i s.heap->Q (.ref it) s->Ú (î P w) A (aag (.ref it)) Q E s
abbrev TI:=St->Hp->(It->Hp->Prop)->Prop
def Kk (X:Cx) (π:List (à×Obj)) (σ:St) (tg:ņ) (R:It->Hp->Prop) (fZ:Ê) (s2:Æ):Prop :=
 ∃(it:à) (Y:List à) (tn:Nat->ō->Prop) (J:It) (Z:Hp),fZ=.ref it/\Inv X π σ Z s2/\Turn X.prog X.w X.K tg J Y it tn/\tn 0 s2.heap/\(∀b∈Y,fk X π Z b)/\R J Z
def PI (X:Cx) (tg iter:ņ) (wi:TI):Prop :=
 ∀(Z:List (à×Obj)) (s:Æ) (σ:St) (H:Hp) (R:It->Hp->Prop),Inv X Z σ H s->wi σ H R ->
  Ú (î X.prog X.w) X.A (Ž iter X.env) (λv Y=>Ú (î X.prog X.w) X.A (aag v) (Kk X Z σ tg R) X.xe Y) X.xe s
def xa (ho:s.heap.get? it=some o) (hc:o.cls=.type n) (hd:o.data=.fields vs)
 (hn:["enumerate","zip","dict_itemiterator","dict_reverseitemiterator","odict_iterator","itertools.zip_longest","itertools.pairwise"].contains n=false) (hQ:Q () s):Ú M A (Ř tg (.ref it) u) Q E s:=by
 unfold Ř
 cases tg<;>first
  |exact Â hQ
  |(cases u<;>first
    |exact Â hQ
    |(refine À (wpAny_load ho ?_)
      rw[hc,hd]
      show Ú M A (if (["enumerate","zip","dict_itemiterator","dict_reverseitemiterator","odict_iterator","itertools.zip_longest","itertools.pairwise"].contains n&&vs[0]?==some (ŋ _))=true then _ else _) Q E s
      rw[ð (by intro h;rw[hn,ŭ] at h;cases h)];exact Â hQ))
noncomputable def Cq (K:Ļ) (a:à):It :=
 ⟨λi H=>∃Z x,bo K H a Z/\Z[i]?=some x,λi H x Y=>Y=H/\∀Z,bo K H a Z->Z[i]?=some x,λi H=>∃Z,bo K H a Z/\Z.length<=i⟩
noncomputable def Cr (K:Ļ) (a:à):It :=
 ⟨λi H=>∃Z x,aX K H a Z/\Z[i]?=some x,λi H x Y=>Y=H/\∀Z,aX K H a Z->Z[i]?=some x,λi H=>∃Z,aX K H a Z/\Z.length<=i⟩
noncomputable def uD (lo:Int) (n:Nat):It:=⟨λi _=>i<n,λi H x Z=>Z=H/\x=.int (lo+i),λi _=>n<=i⟩
def M9 {P:ô} {w:Ĉ} {K:Ļ} {tg:ņ} (a it:à):Turn P w K tg (Cq K a) [it] it (λi h=>h.IsListIter it a i) where
 mem:=by simp
 obj:=λi h Z b Y=>by
  have e:b=it:=by simpa using Y
  subst e;obtain⟨o,e,c,d⟩:=Z;exact⟨o,e,λv z=>by rw[d] at z;cases z⟩
 keep:=λi h W Z k=>Z.at λo e=>k it (by simp) o e
 item:=by
  intro X T hw S L i J s σ H E I V Z R;subst T hw S;obtain⟨F,x,U,Q⟩:=R;obtain⟨its,O,p,D⟩:=I.list U;obtain⟨u,C,B⟩:=O.get Q;obtain⟨f0,f1,f2,N,f4,M⟩:=V it (by simp);refine wpAny_pyNext_list_item Z p.isList (x:=u) (by simpa using C) λW G A=>?_
  have y:Inv X J σ H { s with heap:=W }:=I.turned (t':=s.toks) (λb o Y e=>(A.2 b Y).trans e) f0 f1 N f4 M
  obtain⟨o,e,c,d⟩:=id G
  exact⟨u,rfl,xa (s:={ s with heap:=W }) e c d (by decide) ⟨x,H,y,B,⟨rfl,λq t=>by rw[I.FR t U];exact Q⟩,G,λb Y=>(V b Y).1⟩⟩
 done:=by
  intro X T hw S L i J s σ H E I V Z R;subst T hw S;obtain⟨F,U,Q⟩:=R;obtain⟨its,O,p,D⟩:=I.list U;obtain⟨f0,f1,f2,N,f4,M⟩:=V it (by simp);have n:=O.length;exact wpAny_pyNext_list_end (I.ok.hd L) Z p.isList (by simp;omega) λW r=>⟨rfl,I.turned (t':=s.toks) (λb o Y e=>r b o Y e) f0 f1 N f4 M⟩
 self:=λ_ _ _ _ _ Z h=>wpAny_pyIter_listiter Z h
def Ms {P:ô} {w:Ĉ} {K:Ļ} {tg:ņ} (a it:à):Turn P w K tg (Cr K a) [it] it (λi h=>h.IsTupleIter it a i) where
 mem:=by simp
 obj:=λi h Z b Y=>by
  have e:b=it:=by simpa using Y
  subst e;obtain⟨o,e,c,d⟩:=Z;exact⟨o,e,λv z=>by rw[d] at z;cases z⟩
 keep:=λi h W Z k=>Z.at λo e=>k it (by simp) o e
 item:=by
  intro X T hw S L i J s σ H E I V Z R;subst T hw S;obtain⟨F,x,U,Q⟩:=R;obtain⟨its,O,p,D⟩:=I.tuple U;obtain⟨u,C,B⟩:=O.get Q;obtain⟨f0,f1,f2,N,f4,M⟩:=V it (by simp);refine wpAny_pyNext_tuple_item Z (show s.heap.IsTuple a its.toArray from p) (x:=u) (by simpa using C) λW G A=>?_
  have y:Inv X J σ H { s with heap:=W }:=I.turned (t':=s.toks) (λb o Y e=>(A.2 b Y).trans e) f0 f1 N f4 M
  obtain⟨o,e,c,d⟩:=id G
  exact⟨u,rfl,xa (s:={ s with heap:=W }) e c d (by decide) ⟨x,H,y,B,⟨rfl,λq t=>by rw[I.E8 t U];exact Q⟩,G,λb Y=>(V b Y).1⟩⟩
 done:=by
  intro X T hw S L i J s σ H E I V Z R;subst T hw S;obtain⟨F,U,Q⟩:=R;obtain⟨its,O,p,D⟩:=I.tuple U;obtain⟨f0,f1,f2,N,f4,M⟩:=V it (by simp);have n:=O.length;exact wpAny_pyNext_tuple_end (I.ok.hd L) Z (show s.heap.IsTuple a its.toArray from p) (by simp;omega) λW r=>⟨rfl,I.turned (t':=s.toks) (λb o Y e=>r b o Y e) f0 f1 N f4 M⟩
 self:=λ_ _ _ _ _ Z h=>wpAny_pyIter_tupleiter Z h
def Mt {P:ô} {w:Ĉ} {K:Ļ} {tg:ņ} (it:à) (lo:Int) (n:Nat):Turn P w K tg (uD lo n) [it] it (λi h=>IsRangeIter h it (lo+(i:Nat)*1) ((n:Int)-(i:Nat)) 1) where
 mem:=by simp
 obj:=λi h Z b Y=>by
  have e:b=it:=by simpa using Y
  subst e;exact⟨_,Z,λv z=>by
   have G:Data.fields _=Data.cell v:=z;cases G⟩
 keep:=λi h V Z k=>k it (by simp) _ Z
 item:=by
  intro X T hw S R i M s σ H E I U Z Q;subst T hw S;obtain⟨f0,f1,f2,O,f4,N⟩:=U it (by simp);have W:=Walks.range (prog:=X.prog) (w:=X.w) (I.ok.hd R) it lo 1 n;refine W.item i s _ _ Q Z λv V L F J D=>?_;obtain⟨t,rfl⟩:=F
  have C:Inv X M σ H { s with heap:=V,toks:=L }:=I.turned (λb o Y e=>D b o (by simpa using Y) e) f0 f1 O f4 N
  refine⟨_,rfl,xa (s:={ s with heap:=V,toks:=L }) (n:="range_iterator") J rfl rfl (by decide) ⟨.int (lo+i),H,C,⟨t,?_⟩,⟨rfl,rfl⟩,J,λb Y=>(U b Y).1⟩⟩
  rw[Int.mul_one]
 done:=by
  intro X T hw S R i M s σ H E I U Z Q;subst T hw S;obtain⟨f0,f1,f2,O,f4,N⟩:=U it (by simp);exact wpAny_pyNext_range_end (I.ok.hd R) Z (by have:n<=i:=Q;omega) λV B=>⟨rfl,I.turned (t':=s.toks) (λb o Y e=>B b o Y e) f0 f1 O f4 N⟩
 self:=λ_ _ _ _ _ Z h=>Zs Z h
section
variable {X:Cx} {tg:ņ}
def IM (K:Ļ) (tl:TE):TI:=fun σ H R=>tl σ H λx Z=>∃a,x=.ref a/\(∃Y,bo K Z a Y)/\R (Cq K a) Z
def JN (K:Ļ) (tl:TE):TI:=fun σ H R=>tl σ H λx Z=>∃a,x=.ref a/\(∃Y,aX K Z a Y)/\R (Cr K a) Z
def PH {l:ņ} {tl:TE} (hl:PE X l tl):PI X tg l (IM X.K tl):=by
 intro W s σ H R I h;refine aJ (hl W s σ H _ I h) λv Z ⟨x,V,Y,U,T⟩=>?_;obtain⟨a,e,⟨P,S⟩,q⟩:=T;subst e;cases U;obtain⟨its,O,p,N⟩:=Y.list S;refine Ŵ p.isList ?_;refine⟨Z.heap.objs.size,[Z.heap.objs.size],_,_,V,rfl,Y.kept (t':=Z.toks) λb o e=>Á _ e,M9 a _,⟨_,Ì _ rfl,rfl,rfl⟩,λb Q=>?_,q⟩;have e:b=Z.heap.objs.size:=by simpa using Q
 subst e;exact Y.tM (aal _) (Y.aC.fresh (aal _))
def Rt {l:ņ} {tl:TE} (hl:PE X l tl):PI X tg l (JN X.K tl):=by
 intro W s σ H R I h;refine aJ (hl W s σ H _ I h) λv Z ⟨x,V,Y,U,T⟩=>?_;obtain⟨a,e,⟨P,S⟩,q⟩:=T;subst e;cases U;obtain⟨its,O,p,N⟩:=Y.tuple S;refine wpAny_pyIter_tuple (show Z.heap.IsTuple a its.toArray from p) ?_;refine⟨Z.heap.objs.size,[Z.heap.objs.size],_,_,V,rfl,Y.kept (t':=Z.toks) λb o e=>Á _ e,Ms a _,⟨_,Ì _ rfl,rfl,rfl⟩,λb Q=>?_,q⟩;have e:b=Z.heap.objs.size:=by simpa using Q
 subst e;exact Y.tM (aal _) (Y.aC.fresh (aal _))
def FT {π:List (à×Obj)} {σ:St} {H:Hp} {s:Æ} {R:It->Hp->Prop} {E:Ê->Æ->Prop} {lo hi:Int} {t u v:Tok} {tk:Nat} (I:Inv X π σ H s) (h1:-(2 ^ 62)<=lo) (h2:lo<2 ^ 62) (h3:-(2 ^ 62)<=hi) (h4:hi<2 ^ 62)
  (q:R (uD lo (hi-lo).toNat) H):Ú (î X.prog X.w) X.A (aag (.ref s.heap.objs.size)) (Kk X π σ tg R) E { s with heap:=s.heap.push { cls:=.type "range",data:=.fields #[.int lo t,.int hi u,.int 1 v] },toks:=tk }:=by
 refine wpAny_pyIter_range (IsRange.new ..) (small_one h1 h2 h3 h4) ?_
 have Z:Inv X π σ H { s with heap:=s.heap.push { cls:=.type "range",data:=.fields #[.int lo t,.int hi u,.int 1 v] },toks:=tk }:=I.kept λb o e=>Á _ e
 refine⟨(s.heap.push { cls:=.type "range",data:=.fields #[.int lo t,.int hi u,.int 1 v] }).objs.size,[(s.heap.push { cls:=.type "range",data:=.fields #[.int lo t,.int hi u,.int 1 v] }).objs.size],_,_,H,rfl,
  Z.kept (t':=tk) λb o e=>Á _ e,Mt _ lo (hi-lo).toNat,?_,λb Y=>?_,q⟩
 ·have e1:lo+((0:Nat):Int)*1=lo:=by simp
  have e2:(((hi-lo).toNat:Nat):Int)-((0:Nat):Int)=Zd lo hi 1:=by rw[rangeSize_one];split<;>omega
  show IsRangeIter _ _ (lo+((0:Nat):Int)*1) ((((hi-lo).toNat:Nat):Int)-((0:Nat):Int)) 1;rw[e1,e2];exact Ì _ rfl
 ·have e:b=(s.heap.push { cls:=.type "range",data:=.fields #[.int lo t,.int hi u,.int 1 v] }).objs.size:=by simpa using Y
  subst e;exact Z.tM (aal _) (Z.aC.fresh (aal _))
def Ta (ta:TA):TI:=fun σ H R=>ta σ H λZ Y=>∃j:Int,Z=[.int j]/\-(2 ^ 62)<=j/\j<2 ^ 62/\R (uD 0 j.toNat) Y
def Tb (ta:TA):TI:=fun σ H R=>ta σ H λZ Y=>∃i j:Int,Z=[.int i,.int j]/\(-(2 ^ 62)<=i/\i<2 ^ 62/\-(2 ^ 62)<=j/\j<2 ^ 62)/\R (uD i (j-i).toNat) Y
def Na {a:ņ} {ta:TA} {p pos:Pos} (hg:Gl X "range") (hm:X.mg "range"=none) (ha:PA X [a] ta) (hs:Ý [a] X.env=[(false,Ž a X.env)]:=by rfl):PI X tg (.Call (.Name "range" p) [a] [] pos) (Ta ta):=by
 intro Y s σ H R I h;refine Call_ (nV I hg hm boot_range (Ł (aJ (ha pos Y s σ H _ I h) λS Q ⟨P,O,W,V,Z⟩=>?_) hs rfl));obtain⟨j,e,Z,U,q⟩:=Z;subst e
 cases V with
 |cons r T =>
  cases T;obtain⟨t,rfl⟩:=r;exact call_range_1 (FT W (by omega) (by omega) Z U (by simpa using q))
def Nb {a b:ņ} {ta:TA} {p pos:Pos} (hg:Gl X "range") (hm:X.mg "range"=none) (ha:PA X [a,b] ta) (hs:Ý [a,b] X.env=[(false,Ž a X.env),(false,Ž b X.env)]:=by rfl) (eY:Ý [b] X.env=[(false,Ž b X.env)]:=by rfl) :
  PI X tg (.Call (.Name "range" p) [a,b] [] pos) (Tb ta):=by
 intro W s σ H R I h;refine Call_ (nV I hg hm boot_range (Ł (aJ (ha pos W s σ H _ I h) λO N ⟨M,L,V,U,Z⟩=>?_) (by rw[hs,eY]) (by rw[eY];rfl)));obtain⟨i,j,e,⟨Z,T,S,Q⟩,q⟩:=Z;subst e
 cases U with
 |cons r Y =>
  cases Y with
  |cons P Y =>
   cases Y;obtain⟨t,rfl⟩:=r;obtain⟨K,rfl⟩:=P;exact call_range_2 (FT V Z T S Q q)
def JO (wi:TI) (g:TG) (tb:TS):TS:=λD σ H=>wi σ H λJ V=>∃W:Nat->Nat->St->Hp->Prop,(∃m,W 0 m σ V)/\∀i m σ H,W i m σ H ->
 (J.stop i H/\D.nx σ H)\/(J.go i H/\∃N:St->Hp->Prop,(∀ Y Z,N Y Z->∃X,X < m/\W (i+1) X Y Z)/\∀x Z,J.uC i H x Z->g x σ Z fun U T=>tb { D with nx:=N,ct:=N,bk:=D.nx } U T)
noncomputable def mC (fp:List à) (h:ō):List (à×Obj):=fp.filterMap λb=>(h.get? b).map λo=>(b,o)
def pM (hb:b∈fp) (e:h.get? b=some o):(b,o)∈mC fp h:=Ze.mpr ⟨b,hb,by rw[e];rfl⟩
def E9 (hp:p∈mC fp h):p.1∈fp/\h.get? p.1=some p.2:=by
 obtain⟨b,Z,e⟩:=Ze.mp hp
 cases q:h.get? b with
 |none=>rw[q] at e;cases e
 |some o =>
  rw[q] at e;have Y:(b,o)=p:=aam e;subst Y;exact⟨Z,q⟩
def Inv.pinned {π:List (à×Obj)} {σ:St} {H:Hp} {s:Æ} {fp:List à} (I:Inv X π σ H s) (hf:∀b∈fp,fk X π H b) (ho:∀b∈fp,∃o,s.heap.get? b=some o/\∀v,o.data≠.cell v):Inv X (π++mC fp s.heap) σ H s :=
 I.lu λp W=>(â.mp W).elim (λz=>I.pin p (Í _ z)) λz=>by
  obtain⟨Z,e⟩:=E9 z;obtain⟨f0,f1,f2,_⟩:=hf p.1 Z;obtain⟨o,Y,d⟩:=ho p.1 Z;rw[e] at Y;cases Y;exact⟨e,f0,f1,f2,d⟩
def Inv.lr {π pl:List (à×Obj)} {σ:St} {H:Hp} {s:Æ} (I:Inv X (π++pl) σ H s):Inv X π σ H s:=I.lu λp Z=>I.pin p (Í _ (Ć _ Z))
def Ru {iter:ņ} {body:List Stmt} {wi:TI} {g:TG} {tb:TS} {pos:Pos} (hp:PassesOwn (î X.prog X.w) X.A X.env X.xe) (hc:X.calm=true) (hi:PI X tg iter wi) (hg:PG X tg g) (hb:de X body tb)
  (hs:∀x,ć iter X.env x=pure x:=by intro _;rfl):PS X (.For tg iter body [] pos) (JO wi g tb):=by
 intro R s σ H D I h;refine wpAny_For (aJ (hi R s σ H _ I h) λv s1 q=>aJ q λfZ s2 p=>?_) hs;obtain⟨it,Q,tn,J,l,e,k,T,j,f2,W,⟨m0,c⟩,turn⟩:=p;subst e;have stat:∀{U:Hp},(∀b∈Q,U b=none)->∀b∈Q,fk X R U b:=λa b hb=>⟨a b hb,(f2 b hb).2⟩;refine codeAny_forLoop_any (λn E=>∃i P U,Inv X R P U E/\tn i E.heap/\(∀b∈Q,U b=none)/\W i n P U) ?_ m0 ⟨0,σ,l,k,j,λb hb=>(f2 b hb).1,c⟩;rintro n C ⟨i,O,L,B,z,y,w3⟩
 rcases turn i n O L w3 with ⟨stop,qn⟩ | ⟨go,N,hN,step⟩
 ·refine Zf hp (aJ (T.done X rfl rfl rfl hc i R C O L X.xe B (stat y) z stop) λr s4 ⟨K,I4⟩=>?_)
  subst K;exact wpAny_execs_nil ⟨O,L,I4,qn⟩
 ·refine Zf hp (aJ (T.item X rfl rfl rfl hc i R C O L X.xe B (stat y) z go) λr s4 ⟨u,K,h4⟩=>?_)
  subst K;refine Zf hp (aJ h4 λ_ s5 ⟨x,t,I5,r5,y5,G,uE⟩=>?_);have uF:=I5.pinned (stat uE) (T.obj _ _ G);refine Zf hp (aJ (hg _ s5 O t x u _ uF r5 (step x t y5)) λ_ s6 ⟨VE,H6,I6,q6⟩=>?_);refine Zf hp (aJ (hb _ s6 VE H6 _ I6 q6) λf F S=>?_);have again:∀{Z:St} {Y:Hp},Inv X (R++mC Q s5.heap) Z Y F->N Z Y->∃m,m<n/\∃i P U,Inv X R P U F/\tn i F.heap/\(∀b∈Q,U b=none)/\W i m P U:=λ{Z Y} V M=>by
   obtain⟨m',hm,w7⟩:=hN Z Y M;refine⟨m',hm,i+1,Z,Y,V.lr,T.keep _ _ _ G λb hb o e=>(V.pin (b,o) (Í _ (Í _ (pM hb e)))).1,λb hb=>?_,w7⟩;obtain⟨o,e,d⟩:=T.obj _ _ G b hb;exact(V.pin (b,o) (Í _ (Í _ (pM hb e)))).2.1
  cases f with
  |next=>obtain⟨Z,Y,V,M⟩:=S;exact again V M
  |cont=>obtain⟨Z,Y,V,M⟩:=S;exact again V M
  |brk=>obtain⟨Z,Y,V,S⟩:=S;exact⟨Z,Y,V.lr,S⟩
  |ret v=>obtain⟨x7,Z,Y,V,r7,S⟩:=S;exact⟨x7,Z,Y,V.lr,r7,S⟩
end
abbrev R2:=V->V->Hp->VK->Prop
def bh (X:Cx) (f:Ê->Ê->Sem Ê) (r:R2):Prop :=
 ∀(Z:List (à×Obj)) (s:Æ) (σ:St) (H:Hp) (x y:V) (v u:Ê) (Q:VK),Inv X Z σ H s->RelV x v->RelV y u->r x y H Q ->
  Ú (î X.prog X.w) X.A (f v u) (EP X Z σ Q) X.xe s
def uG (X:Cx) (f:Ê->Sem Ê) (r:V->Hp->VK->Prop):Prop :=
 ∀(Z:List (à×Obj)) (s:Æ) (σ:St) (H:Hp) (x:V) (v:Ê) (Q:VK),Inv X Z σ H s->RelV x v->r x H Q ->
  Ú (î X.prog X.w) X.A (f v) (EP X Z σ Q) X.xe s
def bP (X:Cx) (f:Ê) (r:List V->Hp->VK->Prop):Prop :=
 ∀(Z:List (à×Obj)) (s:Æ) (σ:St) (H:Hp) (Y:List V) (W:List Ê) (Q:VK),Inv X Z σ H s->Vals Y W->r Y H Q ->
  Ú (î X.prog X.w) X.A (call f W) (EP X Z σ Q) X.xe s
def UP (X:Cx) (r:V->Hp->(Bool->Hp->Prop)->Prop):Prop :=
 ∀(Z:List (à×Obj)) (s:Æ) (σ:St) (H:Hp) (x:V) (v:Ê) (Q:Bool->Hp->Prop),Inv X Z σ H s->RelV x v->r x H Q ->
  Ú (î X.prog X.w) X.A (truthy v) (TP X Z σ Q) X.xe s
def uH (r:R2) (ta tb:TE):TE:=fun σ H Q=>ta σ H λx Z=>tb σ Z λy Y=>r x y Y Q
def VF (r:V->Hp->VK->Prop) (ta:TE):TE:=fun σ H Q=>ta σ H λx Z=>r x Z Q
def rI (C:Int->Int->Prop) (g:Int->Int->V):R2:=λx y H Q=>∃i j,x=.int i/\y=.int j/\C i j/\Q (g i j) H
def oJ (g:Int->Int->V):R2:=λx y H Q=>∃i j,x=.int i/\y=.int j/\Q (g i j) H
def rU (g:Int->V):V->Hp->VK->Prop:=λx H Q=>∃i,x=.int i/\Q (g i) H
section
variable {X:Cx} {a b c:ņ} {ta tb tc:TE} {pos:Pos}
def By (ha:PE X a ta) (hb:PE X b tb) {π:List (à×Obj)} {s:Æ} {σ:St} {H:Hp} {R:V->V->Hp->Prop} (I:Inv X π σ H s)
  (h:ta σ H λx H1=>tb σ H1 λy H2=>R x y H2) {Q:Ê->Æ->Prop} {f:Ê->Ê->Sem Ê}
  (hf:∀v u s2 x y H2,Inv X π σ H2 s2->RelV x v->RelV y u->R x y H2->Ú (î X.prog X.w) X.A (f v u) Q X.xe s2) :
  Ú (î X.prog X.w) X.A (Ž a X.env) (λv ba=>Ú (î X.prog X.w) X.A (Ž b X.env) (λu ox=>Ú (î X.prog X.w) X.A (f v u) Q X.xe ox) X.xe ba) X.xe s:=by
 refine aJ (ha π s σ H _ I h) λv Z ⟨x,H1,Y,W,U⟩=>?_;refine aJ (hb π Z σ H1 _ Y U) λu s2 ⟨y,H2,T,S,P⟩=>?_;exact hf v u s2 x y H2 T W S P
def Tc (ho:bh X (Ō op) r) (ha:PE X a ta) (hb:PE X b tb):PE X (.BinOp a op b pos) (uH r ta tb):=by
 intro Z s σ H Q I h;exact wpAny_BinOp (By ha hb I h λv u Y x y W V U T q=>ho Z Y σ W x y v u Q V U T q)
def Td {op:UnaryOp} {r:V->Hp->VK->Prop} (ho:uG X (unaryOp op) r) (ha:PE X a ta):PE X (.UnaryOp op a pos) (VF r ta):=by
 intro Z s σ H Q I h;exact UnaryOp_ (aJ (ha Z s σ H _ I h) λv Y ⟨x,W,U,T,S⟩=>ho Z Y σ W x v Q U T S)
def xU {C:Int->Int->Prop} {g:Int->Int->Int}
 (rule:∀(i j:Int) (t u:Tok) (s:Æ) (Q:Ê->Æ->Prop) (E:Ê->Æ->Prop),C i j->Q (.int (g i j) s.toks) { s with toks:=s.toks+1 }->Ú (î X.prog X.w) X.A (f (.int i t) (.int j u)) Q E s) :
  bh X f (rI C λi j=>.int (g i j)):=by
 intro U s σ H x y v u Q I Z Y h;obtain⟨i,j,rfl,rfl,W,q⟩:=h;obtain⟨t,rfl⟩:=Z;obtain⟨V,rfl⟩:=Y;exact rule i j t V s _ _ W ⟨.int (g i j),H,I.tok _,⟨_,rfl⟩,q⟩
def JP {g:Int->Int->Int}
 (rule:∀(i j:Int) (t u:Tok) (s:Æ) (Q:Ê->Æ->Prop) (E:Ê->Æ->Prop),Q (.int (g i j) s.toks) { s with toks:=s.toks+1 }->Ú (î X.prog X.w) X.A (f (.int i t) (.int j u)) Q E s) :
  bh X f (oJ λi j=>.int (g i j)):=by
 intro V s σ H x y v u Q I Z Y h;obtain⟨i,j,rfl,rfl,q⟩:=h;obtain⟨t,rfl⟩:=Z;obtain⟨W,rfl⟩:=Y;exact rule i j t W s _ _ ⟨.int (g i j),H,I.tok _,⟨_,rfl⟩,q⟩
def Bz {g:Int->Int->Bool}
 (rule:∀(i j:Int) (t u:Tok) (s:Æ) (Q:Ê->Æ->Prop) (E:Ê->Æ->Prop),Q (.bool (g i j)) s->Ú (î X.prog X.w) X.A (f (.int i t) (.int j u)) Q E s) :
  bh X f (oJ λi j=>.bl (g i j)):=by
 intro V s σ H x y v u Q I Z Y h;obtain⟨i,j,rfl,rfl,q⟩:=h;obtain⟨t,rfl⟩:=Z;obtain⟨W,rfl⟩:=Y;exact rule i j t W s _ _ ⟨.bl (g i j),H,I,rfl,q⟩
def UQ (i j:Int):Prop:=0<j/\j<1073741824
def UR (i j:Int):Prop:=0<=j/\j<=1000000/\i.natAbs<2 ^ 64
def xw (i j:Int):Prop:=(-(2 ^ 64)<i/\i<2 ^ 64)\/(-(2 ^ 64)<j/\j<2 ^ 64)
def xw.ok (h:xw i j):IntMulOk i j:=by
 rcases h with ⟨Z,Y⟩ | ⟨Z,Y⟩
 ·exact .of_left (intBits_le_64 Z Y)
 ·exact .of_right (intBits_le_64 Z Y)
def Rv:bh X (Ō .Add) (oJ λi j=>.int (i+j)):=JP λ_ _ _ _ _ _ _ q=>add_int q
def Rw:bh X (Ō .Sub) (oJ λi j=>.int (i-j)):=JP λ_ _ _ _ _ _ _ q=>sub_int q
def Rx:bh X (Ō .Mult) (rI xw λi j=>.int (i*j)):=xU λ_ _ _ _ _ _ _ Z q=>mul_int q Z.ok
def PJ:bh X (Ō .FloorDiv) (rI UQ λi j=>.int (i / j)):=xU λi j _ _ _ _ _ Z q=>by
 have Y:(0:Int)<j:=Z.1;have W:j<1073741824:=Z.2;exact floordiv_int (by omega) (by rw[Int.fdiv_eq_ediv_of_nonneg i (by omega)];exact q) (.inl (PyProof.noPylong_small (by omega)))
def Ry:bh X (Ō .Mod) (rI (λ_ j=>0<j) λi j=>.int (i % j)):=xU λi j _ _ _ _ _ Z q=>by
 have Y:(0:Int)<j:=Z;exact mod_int' (by omega) (by rw[Int.fmod_eq_emod_of_nonneg i (by omega)];exact q)
def Rz:bh X (Ō .Pow) (rI UR λi j=>.int (i ^ j.toNat)):=xU λ_ _ _ _ _ _ _ Z q=>pow_int_small Z.1 Z.2.1 Z.2.2 q
def VG {g:Int->Int}
 (rule:∀(i:Int) (t:Tok) (s:Æ) (Q:Ê->Æ->Prop) (E:Ê->Æ->Prop),Q (.int (g i) s.toks) { s with toks:=s.toks+1 }->Ú (î X.prog X.w) X.A (f (.int i t)) Q E s) :
  uG X f (rU λi=>.int (g i)):=by
 intro Y s σ H x v Q I Z h;obtain⟨i,rfl,q⟩:=h;obtain⟨t,rfl⟩:=Z;exact rule i t s _ _ ⟨.int (g i),H,I.tok _,⟨_,rfl⟩,q⟩
def RA:uG X (unaryOp .USub) (rU λi=>.int (-i)):=VG λ_ _ _ _ _ q=>neg_int q
end
noncomputable def BA:V->V->Bool
 | .au,.au=>true | .au,.int _=>true | .int _,.au=>true | .au,.bl _=>true | .bl _,.au=>true | .au,.str _=>true | .str _,.au=>true
 | .int _,.int _=>true | .bl _,.bl _=>true | .str _,.str _=>true | .iT _,.iT _=>true
 | .int _,.str _=>true | .str _,.int _=>true | .bl _,.str _=>true | .str _,.bl _=>true
 |_,_=>false
def VH:R2:=λx y H Q=>BA x y=true/\Q (.bl (decide (x=y))) H
def VI:R2:=λx y H Q=>BA x y=true/\Q (.bl (!decide (x=y))) H
def GI:decide (V.int i=V.int j)=(i==j):=by
 rw[Ĩ];simp
def HE:decide (V.bl i=V.bl j)=(i==j):=by
 rw[Ĩ];simp
def zK:decide (V.str i=V.str j)=(i==j):=by
 rw[Ĩ];simp
def GJ:decide (V.iT i=V.iT j)=(i.toList==j.toList):=by
 rw[Ĩ];cases i;cases j;simp
section
variable {X:Cx} {a b c:ņ} {ta tb tc:TE} {pos:Pos}
def cg {π:List (à×Obj)} {σ:St} {H:Hp} {s:Æ} {Q:VK} {k k':Bool} (I:Inv X π σ H s) (q:Q (.bl k) H) (e:k=k'):EP X π σ Q (.bool k') s:=by
 subst e;exact⟨.bl k,H,I,rfl,q⟩
def Te:bh X (ĭ .Eq) VH:=by
 intro U s σ H x y v u Q I V Z h;obtain⟨hs,q⟩:=h
 cases x with
 |au =>
  cases V
  cases y with
  |au=>cases Z;exact PySem.EqNone.eq_none_none (cg I q (by simp))
  |bl j=>cases Z;exact PySem.EqNone.eq_none_bool (cg I q (by simp))
  |int j=>obtain⟨Y,rfl⟩:=Z;exact PySem.EqNone.eq_none_int (cg I q (by simp))
  |str j=>obtain⟨Y,rfl⟩:=Z;exact PySem.EqNone.eq_none_str (cg I q (by simp))
  |_=>exact absurd (show false=true from hs) Ö
 |bl i =>
  cases V
  cases y with
  |au=>cases Z;exact PySem.EqNone.eq_bool_none (cg I q (by simp))
  |bl j=>cases Z;exact eq_bool (cg I q HE)
  |str j=>obtain⟨Y,rfl⟩:=Z;exact PySem.EqMixed.eq_bool_str (cg I q (by simp))
  |_=>exact absurd (show false=true from hs) Ö
 |int i =>
  obtain⟨t,rfl⟩:=V
  cases y with
  |au=>cases Z;exact PySem.EqNone.eq_int_none (cg I q (by simp))
  |int j=>obtain⟨Y,rfl⟩:=Z;exact eq_int (cg I q GI)
  |str j=>obtain⟨Y,rfl⟩:=Z;exact PySem.EqMixed.eq_int_str (cg I q (by simp))
  |_=>exact absurd (show false=true from hs) Ö
 |str i =>
  obtain⟨t,rfl⟩:=V
  cases y with
  |au=>cases Z;exact PySem.EqNone.eq_str_none (cg I q (by simp))
  |bl j=>cases Z;exact PySem.EqMixed.eq_str_bool (cg I q (by simp))
  |int j=>obtain⟨Y,rfl⟩:=Z;exact PySem.EqMixed.eq_str_int (cg I q (by simp))
  |str j=>obtain⟨Y,rfl⟩:=Z;exact eq_str (cg I q zK)
  |_=>exact absurd (show false=true from hs) Ö
 |iT i =>
  obtain⟨t,rfl⟩:=V
  cases y with
  |iT j=>obtain⟨Y,rfl⟩:=Z;exact PySem.W.eq_bytes (cg I q GJ)
  |_=>exact absurd (show false=true from hs) Ö
 |_=>cases y<;>exact absurd (show false=true from hs) Ö
def Tf:bh X (ĭ .NotEq) VI:=by
 intro U s σ H x y v u Q I V Z h;obtain⟨hs,q⟩:=h
 cases x with
 |au =>
  cases V
  cases y with
  |au=>cases Z;exact PySem.EqNone.ne_none_none (cg I q (by simp))
  |bl j=>cases Z;exact PySem.EqNone.ne_none_bool (cg I q (by simp))
  |int j=>obtain⟨Y,rfl⟩:=Z;exact PySem.EqNone.ne_none_int (cg I q (by simp))
  |str j=>obtain⟨Y,rfl⟩:=Z;exact PySem.EqNone.ne_none_str (cg I q (by simp))
  |_=>exact absurd (show false=true from hs) Ö
 |bl i =>
  cases V
  cases y with
  |au=>cases Z;exact PySem.EqNone.ne_bool_none (cg I q (by simp))
  |bl j=>cases Z;exact ne_bool (cg I q (ļ not HE))
  |str j=>obtain⟨Y,rfl⟩:=Z;exact PySem.EqMixed.ne_bool_str (cg I q (by simp))
  |_=>exact absurd (show false=true from hs) Ö
 |int i =>
  obtain⟨t,rfl⟩:=V
  cases y with
  |au=>cases Z;exact PySem.EqNone.ne_int_none (cg I q (by simp))
  |int j=>obtain⟨Y,rfl⟩:=Z;exact ne_int (cg I q (ļ not GI))
  |str j=>obtain⟨Y,rfl⟩:=Z;exact PySem.EqMixed.ne_int_str (cg I q (by simp))
  |_=>exact absurd (show false=true from hs) Ö
 |str i =>
  obtain⟨t,rfl⟩:=V
  cases y with
  |au=>cases Z;exact PySem.EqNone.ne_str_none (cg I q (by simp))
  |bl j=>cases Z;exact PySem.EqMixed.ne_str_bool (cg I q (by simp))
  |int j=>obtain⟨Y,rfl⟩:=Z;exact PySem.EqMixed.ne_str_int (cg I q (by simp))
  |str j=>obtain⟨Y,rfl⟩:=Z;exact ne_str (cg I q (ļ not zK))
  |_=>exact absurd (show false=true from hs) Ö
 |iT i =>
  obtain⟨t,rfl⟩:=V
  cases y with
  |iT j=>obtain⟨Y,rfl⟩:=Z;exact PySem.W.ne_bytes (cg I q (ļ not GJ))
  |_=>exact absurd (show false=true from hs) Ö
 |_=>cases y<;>exact absurd (show false=true from hs) Ö
def Th:bh X (ĭ .LtE) (oJ λi j=>.bl (decide (i<=j))):=Bz λ_ _ _ _ _ _ _ q=>le_int q
def Ti:bh X (ĭ .Gt) (oJ λi j=>.bl (decide (j<i))):=Bz λ_ _ _ _ _ _ _ q=>gt_int q
def Tj:bh X (ĭ .GtE) (oJ λi j=>.bl (decide (j<=i))):=Bz λ_ _ _ _ _ _ _ q=>ge_int q
def cz (b:ņ) (h:op≠.In:=by decide) (h2:op≠.NotIn:=by decide):Zg op b=false:=by
 have e1:(op==CmpOp.In)=false:=by cases op<;>first|rfl|exact absurd rfl h
 have e2:(op==CmpOp.NotIn)=false:=by cases op<;>first|rfl|exact absurd rfl h2
 cases b<;>simp[Zg,e1,e2]
def PK (ho:bh X (ĭ op) r) (ha:PE X a ta) (hb:PE X b tb) (hm:Zg op b=false):PE X (.Compare a [op] [b] pos) (uH r ta tb):=by
 intro Z s σ H Q I h;exact wpAny_Compare1 (By ha hb I h λv u Y x y W V U T q=>ho Z Y σ W x y v u Q V U T q) hm
def xb (t:TE):TT:=fun σ H Q=>t σ H λx Z=>∃k,x=.bl k/\Q k Z
def PL {op:CmpOp} {r:R2} (ho:bh X (ĭ op) r) (ha:PE X a ta) (hb:PE X b tb) (hm:Zg op b=false):PT X (.Compare a [op] [b] pos) (xb (uH r ta tb)):=by
 intro Z s σ H Q I h;refine wpAny_isTrue_Compare1 (aJ (ha Z s σ H _ I h) λv Y ⟨x,W,V,U,T⟩=>aJ (hb Z Y σ W _ V T) λu S ⟨y,R,P,O,N⟩ =>
  aJ (ho Z S σ R x y v u _ P U O N) λc G ⟨z,M,L,K,k,e,J⟩=>?_) hm
 subst e;cases K;exact Ŗ ⟨M,L,J⟩
def HF (r r':R2) (ta tb tc:TE):TE:=fun σ H Q=>ta σ H λx Y=>tb σ Y λy X=>r x y X λz Z=>∃k,z=.bl k /\
 (if k=true then tc σ Z λW V=>r' y W V Q else Q (.bl false) Z)
def Oc {op qS:CmpOp} {r r':R2} (ho:bh X (ĭ op) r) (dQ:bh X (ĭ qS) r') (ha:PE X a ta) (hb:PE X b tb) (hc:PE X c tc)
  (hm:lastMarks [op,qS] [b,c]=false:=by with_unfolding_all rfl):PE X (.Compare a [op,qS] [b,c] pos) (HF r r' ta tb tc):=by
 intro Z s σ H Q I h;refine Compare_chain (aJ (ha Z s σ H _ I h) λv T ⟨x,S,R,P,O⟩=>chain_link (aJ (hb Z T σ S _ R O) λu N ⟨y,M,L,Y,K⟩ =>
  aJ (ho Z N σ M x y v u _ L P Y K) λd J ⟨z,W,V,G,k,e,U⟩=>?_)) hm
 subst e;cases G;refine Ŗ ?_
 cases k with
 |false=>exact ite_ff ⟨.bl false,W,V,rfl,U⟩
 |true=>exact ite_tt (chain_last (aJ (hc Z J σ W _ V U) λF E ⟨D,C,B,A,w⟩=>dQ Z E σ C y D u F Q B Y A w))
def oy (K:Ļ) (x:V) (H:Hp) (k:Bool):Prop :=
 match x with
 | .au=>k=false
 | .bl b=>k=b
 | .int i=>k=(i != 0)
 | .str y=>y.length<=Û/\k=((y.length:Int) != 0)
 | .iT y=>y.size<=Û/\k=((y.size:Int) != 0)
 | .ref p=>(∃Z,bo K H p Z/\k=!Z.isEmpty)\/(∃Z,aX K H p Z/\k=!Z.isEmpty)\/∃Y,H p=some (.dK Y)/\k=!Y.isEmpty
 |_=>False
def Mu {κ:Type} {ai:List (κ×V)} {vs:List (κ×Ê)} (r:KV ai vs):(!vs.isEmpty)=!ai.isEmpty:=by
 cases r<;>rfl
def ET (r:Vals xs its):(!its.toArray.isEmpty)=!xs.isEmpty:=by
 cases r<;>simp
def nW:(Û:Nat)<2 ^ 63:=by rw[ŏ];decide
def HG:UP X (λx H Q=>∃k,oy X.K x H k/\Q k H):=by
 intro J s σ H x v Q I U h;obtain⟨k,e,q⟩:=h;have G:=nW;have hs:Û=16777216:=ŏ
 cases x with
 |au =>
  cases U;have Z:k=false:=e;subst Z;exact truthy_none ⟨H,I,q⟩
 |bl b =>
  cases U;have Z:k=b:=e;subst Z;exact Ŗ ⟨H,I,q⟩
 |int i =>
  obtain⟨t,rfl⟩:=U;have Z:k=(i != 0):=e;subst Z;exact PySem.P.truthy_int ⟨H,I,q⟩
 |str y =>
  obtain⟨t,rfl⟩:=U;obtain⟨M,Z⟩:y.length<=Û/\k=((y.length:Int) != 0):=e;subst Z;exact PySem.P.truthy_str (by omega) ⟨H,I.tok _,q⟩
 |iT y =>
  obtain⟨t,rfl⟩:=U;obtain⟨M,Z⟩:y.size<=Û/\k=((y.size:Int) != 0):=e;subst Z;exact PySem.W.truthy_bytes (by omega) ⟨H,I.tok _,q⟩
 |ref p =>
  cases U;have Z:(∃V,bo X.K H p V/\k=!V.isEmpty)\/(∃V,aX X.K H p V/\k=!V.isEmpty)\/∃T,H p=some (.dK T)/\k=!T.isEmpty:=e
  rcases Z with ⟨V,S,Z⟩ | ⟨V,S,Z⟩ | ⟨T,S,Z⟩
  ·subst Z
   obtain⟨its,r,O,N⟩:=I.list S;have Y:=r.length;exact wpAny_truthy_list O.isList (by simp only[Ô];omega) ⟨H,I.tok _,by rw[ET r];exact q⟩
  ·subst Z
   obtain⟨its,r,O,N⟩:=I.tuple S;have Y:=r.length;exact truthy_tuple O (by simp only[Ô];omega) ⟨H,I.tok _,by rw[ET r];exact q⟩
  ·subst Z
   obtain⟨N,L,R,r,m⟩:T.length<=Û/\(p==YC)=false/\∃R,KV T R/\s.heap.DictOf (v9 X.prog X.w) p R:=I.aC p _ S;have Y:T.length=R.length:=Paired.length r;exact wpAny_truthy_dict L m (by omega) ⟨H,I.tok _,by rw[Mu r];exact q⟩
 |_=>exact(show False from e).elim
def Od (ha:PE X a ta) (he:∀whole,isTrue a X.env whole=(do let v <- whole;ZZ a.pos;Zc [v] (truthy v))) :
  PT X a (fun σ H Q=>ta σ H λx H'=>∃k,oy X.K x H' k/\Q k H'):=by
 intro Z s σ H Q I h;exact isTrue_plain (aJ (ha Z s σ H _ I h) λv Y ⟨x,W,V,U,T⟩=>HG Z Y σ W x v Q V U T) (he _)
def Mv:bh X (Ō .Add) (λx y H Q=>∃i j,x=.str i/\y=.str j/\i.length+j.length<=Û/\Q (.str (i++j)) H):=by
 intro U s σ H x y v u Q I Z Y h;obtain⟨i,j,rfl,rfl,W,q⟩:=h;obtain⟨t,rfl⟩:=Z;obtain⟨V,rfl⟩:=Y;exact add_str (λV T=>⟨.str (i++j),H,I.tok _,⟨_,rfl⟩,q⟩) W
def vals1 (r:Vals [x] us):∃u,us=[u]/\RelV x u:=by
 cases r with
 |cons Z Y=>cases Y;exact⟨_,rfl,Z⟩
def vals2 (r:Vals [x,y] us):∃u w',us=[u,w']/\RelV x u/\RelV y w':=by
 cases r with
 |cons Z Y =>
  cases Y with
  |cons X W=>cases W;exact⟨_,_,rfl,Z,X⟩
def Nc (hc:X.calm=true):bP X (.builtin "max") (λxs H Q=>∃i j,xs=[.int i,.int j]/\Q (.int (if j > i then j else i)) H):=by
 intro Y s σ H xs W Q I r h;obtain⟨i,j,rfl,q⟩:=h;obtain⟨u,V,rfl,⟨t,rfl⟩,⟨U,rfl⟩⟩:=vals2 r;refine max_two_ints (I.ok.hd hc) λT S k=>⟨_,H,I.kept k,?_,q⟩;by_cases Z:j > i
 ·rw[é Z,é Z];exact⟨_,rfl⟩
 ·rw[ð Z,ð Z];exact⟨_,rfl⟩
def Nd (hc:X.calm=true):bP X (.builtin "min") (λxs H Q=>∃i j,xs=[.int i,.int j]/\Q (.int (if j<i then j else i)) H):=by
 intro Y s σ H xs W Q I r h;obtain⟨i,j,rfl,q⟩:=h;obtain⟨u,V,rfl,⟨t,rfl⟩,⟨U,rfl⟩⟩:=vals2 r;refine min_two_ints (I.ok.hd hc) λT S k=>⟨_,H,I.kept k,?_,q⟩;by_cases Z:j<i
 ·rw[é Z,é Z];exact⟨_,rfl⟩
 ·rw[ð Z,ð Z];exact⟨_,rfl⟩
end
structure XU (h:ō) (x dx C:à) (mA:Str->Option Ê):Prop where
 obj:h.get? x=some (PySem.W.instObj C dx)
 ns:h.Ns1 dx mA
 ne:dx≠x
section
variable {prog:ô} {w:Ĉ} {A:Ă} {E:Ê->Æ->Prop} {s:Æ} {K:Ļ} {x dx C f:à} {mA:Str->Option Ê} {name:Str} {v:Ê}
end
section
variable {P:ô} {w:Ĉ} {H H':Hp} {h h':ō} {a C dx:à} {fs VB:List (Str×V)}
end
structure VJ (K:Ļ) (C:à):Prop where
 pg:PySem.W.plainGet K C Str.empty=true
 hd:PySem.W.hasDictIn K C=true
 po:PySem.W.plainOver K C=true
 sa:ZD K (.ref C) "__setattr__"=some (some (.builtin "object.__setattr__"))
structure X3 (K:Ļ) (C:à) (f:Str) (v:V) (u:Ê):Prop where
 at_:ZD K (.ref C) f=some (some u)
 rel:RelV v u
 get:PySem.W.specialIn K u "__get__"=some none
 cp:PySem.W.copiedNames.contains f=false
structure Meth (K:Ļ) (C:à) (m:Str) (f:à):Prop where
 at_:ZD K (.ref C) m=some (some (.ref f))
 fn:PySem.W.isFn K (.ref f)=true
 kp:Ů K (.ref f)=true
section
variable {X:Cx} {π:List (à×Obj)} {σ:St} {H:Hp} {s:Æ} {a C dx:à} {fs:List (Str×V)} {f:Str} {v:V} {A:Ă} {E:Ê->Æ->Prop}
end
section
variable {X:Cx} {o e value:ņ} {f:Str} {pos pos' BB:Pos} {ta tv:TE}
end
section
variable {X:Cx} {π:List (à×Obj)} {σ:St} {H:Hp} {s:Æ} {A:Ă} {E:Ê->Æ->Prop} {Q:Ê->Æ->Prop} {c:Ê} {b:Bool}
inductive jN (K:Ļ) (H:Hp):V->Ê->Prop where
 |au:jN K H .au (.type "NoneType")
 |bl (x:Bool):jN K H (.bl x) (.type "bool")
 |int (i:Int):jN K H (.int i) (.type "int")
 |str (x:Str):jN K H (.str x) (.type "str")
 |uk (x:UInt64):jN K H (.uk x) (.type "float")
 |lst {a:à} {xs:List V} (e:H a=some (.lst xs)):jN K H (.ref a) (.type "list")
 |bE {a:à} {o:Obj} {xs:List V} (e:H a=some (.bE o (.lst xs))):jN K H (.ref a) (.type "list")
 |tup {a:à} {xs:List V} (e:H a=some (.tup xs)):jN K H (.ref a) (.type "tuple")
 |dK {a:à} {ai:List (Key×V)} (e:H a=some (.dK ai)):jN K H (.ref a) (.type "dict")
 |dT {a:à} {ai:List (List Key×V)} (e:H a=some (.dT ai)):jN K H (.ref a) (.type "dict")
 |ins {a C dx:à} {fs:List (Str×V)} (e:H a=some (.ins C dx fs)) (cl:VJ K C) (ha:ZD K (.ref C) "__class__"=some (some (.builtin "object.__class__")))
   (hn:PySem.W.specialIn K (.builtin "object.__class__") "__get__"=some (some (.builtin "getset_descriptor.__get__"))) (Kl:PySem.W.takesIn K (.builtin "object.__class__")=some true)
   (hm:PySem.W.mroIn K C (.type "object")=some true):jN K H (.ref a) (.ref C)
end
structure bY (k:Nat) (A:Ă):Prop where
 hd:A.handled=none
 dp:A.depth+3*k+5<recursionLimit
 un:A.units+16*k+200<Zh
 gd:A.guards=some []
def bY.mono (r:bY k A) (h:j<=k):bY j A:=⟨r.hd,by have:=r.dp;omega,by have:=r.un;omega,r.gd⟩
theorem bY.deeper (r:bY (k+1) A) (env:Env):bY k (A.deeper env) :=
 ⟨r.hd,by have:=r.dp;show A.depth+1+3*k+5 < _;omega,by have:=r.un;show A.units+3+16*k+200 < _;omega,r.gd⟩
theorem bY.depth (r:bY k A):A.depth<recursionLimit:=by have:=r.dp;omega
def US:TA:=λ_ H Q=>Q [] H
def Tn (ta:TE) (tr:TA):TA:=fun σ H Q=>ta σ H λx Z=>tr σ Z λY X=>Q (x::Y) X
section
variable {X:Cx} {e:ņ} {es:List ņ} {te:TE} {t:TA} {pos:Pos}
def mE:PA X [] US:=λ_ _ _ _ H Q I h=>Calls.spliced_nil ⟨[],H,I,.nil,h⟩
def mx (ha:PE X e te) (hr:PA X es t) (hs:Ý (e::es) X.env=(false,Ž e X.env)::Ý es X.env:=by rfl):PA X (e::es) (Tn te t):=by
 intro pos Z s σ H Q I h;rw[hs];show Ú _ _ (spliced ((false,Ž e X.env)::Yt pos (Ý es X.env))) _ _ s;refine Calls.spliced_cons (aJ (ha Z s σ H _ I h) λu Y ⟨x,W,V,U,T⟩=>?_);exact aJ (hr pos Z Y σ W _ V T) λM L ⟨S,R,P,O,N⟩=>⟨x::S,R,P,.cons U O,N⟩
def UT (t:TA):TE:=fun σ H Q=>t σ H λZ Y=>Z.length<=Û/\∀p,Y p=none->Q (.ref p) (upd Y p (.tup Z))
def UU (t:TA):TE:=fun σ H Q=>t σ H λZ Y=>Z.length<=Û/\∀p,Y p=none->Q (.ref p) (upd Y p (.lst Z))
def RC {x1} (h:PA X es t):PE X (.Tuple es x1 pos) (UT t):=by
 intro V s σ H Q I U;refine wpAny_Tuple_spliced (aJ (h pos V s σ H _ I U) λT Z ⟨S,Y,W,r,z,q⟩=>⟨by rw[<- r.length];exact z,?_⟩);have R:Y Z.heap.objs.size=none:=W.aC.fresh (aal _);refine⟨.ref Z.heap.objs.size,upd Y Z.heap.objs.size (.tup S),W.laid (t':=Z.toks) (λb u e=>Á _ e) (aal _) ?_,rfl,q _ R⟩;exact⟨z,T,r,⟨_,Ì _ rfl,rfl,_,rfl⟩⟩
def HH (h:PA X es t):PE X (.List es pos) (UU t):=by
 intro V s σ H Q I U;refine wpAny_List_spliced (aJ (h pos V s σ H _ I U) λT Z ⟨S,Y,W,r,z,q⟩=>⟨by rw[<- r.length];exact z,?_⟩);have R:Y Z.heap.objs.size=none:=W.aC.fresh (aal _);refine⟨.ref Z.heap.objs.size,upd Y Z.heap.objs.size (.lst S),W.laid (t':=Z.toks) (λb u e=>Á _ e) (aal _) ?_,rfl,q _ R⟩;exact⟨z,T,0,r,Ì _ rfl⟩
end
abbrev Sp:=List V->Hp->VK->XK->Prop
abbrev jr:=List Env->Hp->Æ->XK->Ê->Æ->Prop
structure xx (P:ô) (w:Ĉ) (K:Ļ) (mg:Str->Option Ê) (base:ō) (A:Ă) (outer:List Env) (s:Æ) (H:Hp):Prop where
 frames:A.frames=some outer
 mod:Mod K mg base
 bs:∀b o,base.get? b=some o->s.heap.get? b=some o/\H b=none
 jo:base.objs.size<=s.heap.objs.size
 jM:s.heap.FunFrames base outer
 qP:∀b∈gC outer,H b=none
 aC:bZ P w H s.heap
 bare:AllBare s.gens
def CE (outer:List Env) (P:ô) (w:Ĉ) (H:Hp) (s:Æ) (Q:VK) (u:Ê) (s':Æ):Prop :=
 ∃v Z,s'.os=s.os/\AllBare s'.gens/\Un (gC outer) [] H Z s.heap s'.heap/\bZ P w Z s'.heap/\RelV v u/\Q v Z
def CR (CX:jr) (outer:List Env) (P:ô) (w:Ĉ) (H:Hp) (s:Æ) (Q:VK) (E:XK) (r:Result) (s':Æ):Prop :=
 match r with
 | .ok (.ret u)=>CE outer P w H s Q u s'
 | .ok _=>False
 | .error e=>CX outer H s E e s'
structure fT (P:ô) (w:Ĉ) (K:Ļ) (mg:Str->Option Ê) (base:ō) (CX:jr) (k:Nat) (f:à) (fd:ű) (ps:List Str) (sp:Sp):Prop where
 len:∀vs H Q E,sp vs H Q E->vs.length=ps.length
 run:∀(A:Ă) (outer:List Env) (s:Æ) (H:Hp) (args:Args) (us:List Ê) (vs:List V) (Q:VK) (E:XK),bY k A->xx P w K mg base A outer s H->BindsTo s fd args (ps.zip us)->Vals vs us->sp vs H Q E ->
  YM (î P w) A (.call (.ref f) args) (CR CX outer P w H s Q E) s
def fT.imp {P:ô} {w:Ĉ} {K:Ļ} {mg:Str->Option Ê} {base:ō} {CX:jr} {k:Nat} {f:à} {fd:ű} {ps:List Str} {sp Km:Sp} (F:fT P w K mg base CX k f fd ps sp)
  (h:∀vs H Q E,Km vs H Q E->sp vs H Q E):fT P w K mg base CX k f fd ps Km :=
 ⟨λvs H Q E q=>F.len vs H Q E (h _ _ _ _ q),λA outer s H args Z vs Q E Y X W V hs=>F.run A outer s H args Z vs Q E Y X W V (h _ _ _ _ hs)⟩
section
variable {X:Cx} {π:List (à×Obj)} {σ:St} {H:Hp} {s s':Æ}
def Inv.lP (I:Inv X π σ H s):xx X.prog X.w X.K X.mg X.base X.A X.stack s H :=
 ⟨I.ok.frames,I.ok.mod,I.bs,è I.ok.jo I.sz,I.stack,I.zJ,I.aC,I.bare⟩
def Inv.after (I:Inv X π σ H s) (h:CE X.stack X.prog X.w H s Q u s'):EP X π σ Q u s':=by
 obtain⟨v,Z,os,bare,un,Y,r,q⟩:=h;obtain⟨W,g,d,t,V⟩:=s';obtain rfl:V=s.os:=os;exact⟨v,Z,I.call (h':=W) (g':=g) (d':=d) (t':=t) (ch:=[]) un Y bare (λb z=>absurd z (by simp)),r,q⟩
end
def To (sp:Sp) (ak:List V) (E:XK) (t:TA):TE:=fun σ H Q=>t σ H λZ Y=>sp (Z++ak) Y Q E
def Binds (K:Ļ) (fd:ű) (ps:List Str) (ds:List Ê):Prop :=
 ∀(s:Æ) (Z:List Ê),K.In s.heap->(Z++ds).length=ps.length->BindsTo s fd ⟨Z,[]⟩ (ps.zip (Z++ds))
def Binds.all {K:Ļ} {fd:ű} {ps:List Str} (h:∀us:List Ê,us.length=ps.length->bindArgs fd ⟨us,[]⟩=pure (ps.zip us)):Binds K fd ps []:=λs us _ Z=>by
 rw[ĸ] at Z |-;exact .of_eq (h us Z)
def Passes (CX:jr) (X:Cx) (E:XK):Prop:=∀(Y:List (à×Obj)) (σ:St) (H:Hp) (s:Æ) (e:Ê) (Z:Æ),Inv X Y σ H s->CX X.stack H s E e Z->X.xe e Z
section
variable {X:Cx} {CX:jr} {k:Nat} {f C:à} {fd:ű} {ps:List Str} {sp:Sp} {ak:List V} {ds:List Ê} {E:XK} {x m:Str} {p pos apos:Pos} {e o:ņ} {es:List ņ} {ta:TE} {t:TA}
def RD {π:List (à×Obj)} {σ:St} {H:Hp} {s:Æ} {Q:VK} {us:List Ê} {vs:List V} (F:fT X.prog X.w X.K X.mg X.base CX k f fd ps sp) (hr:bY k X.A) (hb:Binds X.K fd ps ds) (hd:Vals ak ds) (hx:Passes CX X E)
  (I:Inv X π σ H s) (r:Vals vs us) (h:sp (vs++ak) H Q E):Ú (î X.prog X.w) X.A (call (.ref f) us) (EP X π σ Q) X.xe s:=by
 have Y:Vals (vs++ak) (us++ds):=r.append hd;have W:(us++ds).length=ps.length:=by rw[<- Y.length];exact F.len _ _ _ _ h
 refine wpAny_call (Ŕ (F.run X.A X.stack s H ⟨us,[]⟩ (us++ds) (vs++ak) Q E hr I.lP (hb s us I.qQ W) Y h) λr U Z=>?_)
 cases r with
 |error e=>exact hx π σ H s e U I Z
 |ok T =>
  cases T with
  |ret u=>exact I.after Z
  |next=>exact YD Z
  |brk=>exact YD Z
  |cont=>exact YD Z
def PM (F:fT X.prog X.w X.K X.mg X.base CX k f fd ps sp) (hr:bY k X.A) (hg:Gl X x) (hm:X.mg x=some (.ref f)) (hk:Ů X.K (.ref f)=true) (hb:Binds X.K fd ps ds) (hd:Vals ak ds) (hx:Passes CX X E)
  (ha:PA X (e::es) t) (iV:(x==("__debug__":Str))=false:=by decide) (he:Ý (e::es) X.env=(false,Ž e X.env)::Ý es X.env:=by rfl) (bO:(Yt pos (Ý es X.env)).any (·.1)=false:=by rfl) :
  PE X (.Call (.Name x p) (e::es) [] pos) (To sp ak E t):=by
 intro Y s σ H Q I h;refine wpAny_Call_Name_kw (GH I hg hm ?_ iV);refine PySem.W.callWith_K (h₀:=X.base) I.ok.mod.uu hk (aJ (ha pos Y s σ H _ I h) λV U ⟨T,S,Z,r,q⟩=>⟨Z.qQ,?_⟩) he bO;exact RD F hr hb hd hx Z r q
structure Mk (K:Ļ) (C f:à):Prop where
 makes:PySem.W.makesIn K C=true
 init:ZD K (.ref C) "__init__"=some (some (.ref f))
 fn:PySem.W.isFn K (.ref f)=true
 kp:Ů K (.ref C)=true
end
section
variable {X:Cx} {CX:jr} {k:Nat} {f C:à} {fd:ű} {ps ks:List Str} {sp:Sp} {E:XK} {x m:Str} {p pos apos UW:Pos} {e o:ņ} {es:List ņ} {X4:List Keyword} {te ta:TE} {t tk:TA} {nm:Option Str}
structure XT (K:Ļ) (fd:ű) (ps ks:List Str) (g:List Ê->List Ê->List Ê) (gV:List V->List V->List V):Prop where
 to:∀(s:Æ) (us ws:List Ê),K.In s.heap->(g us ws).length=ps.length->BindsTo s fd ⟨us,ks.zip ws⟩ (ps.zip (g us ws))
 rel:∀{vs:List V} {us:List Ê} {zs:List V} {ws:List Ê},Vals vs us->Vals zs ws->Vals (gV vs zs) (g us ws)
variable {g:List Ê->List Ê->List Ê} {gV:List V->List V->List V}
end
structure rW (N P:List Str) (sc:ZF):Prop where
 kind:sc.kind=.function
 co:sc.isCoroutine=false
 gen:sc.isGenerator=false
 nd:N.Nodup
 pre:N.take P.length=P
 par:∀x∈P,sc.names.lookup x=some .local\/sc.names.lookup x=some .cell
 RE:∀y∈sc.names,y.2≠.free
theorem Fb {kindOf:Str->Option YE} {x:Str}:∀{binds:List (Str×Ê)} {m:Str->Option Ê},(∀v,(x,v)∉binds)->bindL kindOf binds m x=m x
 | [],_,_=>rfl
 |(n,v)::r,m,h=>by
  unfold bindL;rw[Fb λw hw=>h w (Ð _ hw)];split
  ·have:x≠n:=by rintro rfl;exact h v Î
   simp[this]
  ·rfl
theorem Fc {kindOf:Str->Option YE} {x:Str}:∀{binds:List (Str×Ê)} {m:Str->Option Ê},(∀v,(x,v)∉binds)->bindC kindOf binds m x=m x
 | [],_,_=>rfl
 |(n,v)::r,m,h=>by
  unfold bindC;rw[Fc λw hw=>h w (Ð _ hw)];split
  ·rfl
  ·have:x≠n:=by rintro rfl;exact h v Î
   simp[this]
theorem Fd {kindOf:Str->Option YE} {x:Str} {v:Ê}:∀{P:List Str} {vs:List Ê} {i:Nat} {m:Str->Option Ê},P.Nodup->P[i]?=some x->vs[i]?=some v->kindOf x=some .local ->
  bindL kindOf (P.zip vs) m x=some v
 | [],_,_,_,_,h,_,_=>by simp at h
 |_::_,[],_,_,_,_,h,_=>by simp at h
 |p::P,w::vs,0,m,X,Z,Y,W=>by
  simp at Z Y;subst Z;subst Y;show bindL kindOf ((p,w)::P.zip vs) m p=_;unfold bindL;rw[Fb λv V=>(ŵ.mp X).1 (List.of_mem_zip V).1,é W];simp
 |p::P,w::vs,i+1,m,X,Z,Y,W=>by
  show bindL kindOf ((p,w)::P.zip vs) m x=_;unfold bindL;exact Fd (i:=i) (ŵ.mp X).2 (by simpa using Z) (by simpa using Y) W
theorem Fe {kindOf:Str->Option YE} {x:Str} {v:Ê}:∀{P:List Str} {vs:List Ê} {i:Nat} {m:Str->Option Ê},P.Nodup->P[i]?=some x->vs[i]?=some v->kindOf x≠some .local ->
  bindC kindOf (P.zip vs) m x=some v
 | [],_,_,_,_,h,_,_=>by simp at h
 |_::_,[],_,_,_,_,h,_=>by simp at h
 |p::P,w::vs,0,m,X,Z,Y,W=>by
  simp at Z Y;subst Z;subst Y;show bindC kindOf ((p,w)::P.zip vs) m p=_;unfold bindC;rw[Fc λv V=>(ŵ.mp X).1 (List.of_mem_zip V).1,ð W];simp
 |p::P,w::vs,i+1,m,X,Z,Y,W=>by
  show bindC kindOf ((p,w)::P.zip vs) m x=_;unfold bindC;exact Fe (i:=i) (ŵ.mp X).2 (by simpa using Z) (by simpa using Y) W
def start (N:List Str) (vs:List V):St:=vs.map some++Ï (N.length-vs.length) none
def mS (CX:jr) (P:ô) (w:Ĉ) (K:Ļ) (mg:Str->Option Ê) (base:ō) (N:List Str) (qual:Str) (scope:ZF) (f:à) (cd:Ê) (A:Ă) (outer:List Env) (s:Æ) (H:Hp) (E:XK):Cx where
 prog:=P
 w:=w
 K:=K
 mg:=mg
 base:=base
 A:=A.deeper (envOfC qual scope s.heap.objs.size f cd)
 N:=N
 cH:=s
 tK:=H
 env:=envOfC qual scope s.heap.objs.size f cd
 outer:=outer
 stack:=envOfC qual scope s.heap.objs.size f cd::outer
 ex:=[]
 calm:=true
 fn:=λ_=>true
 pn:=[]
 xe:=λe Y=>Ú (î P w) (A.deeper (envOfC qual scope s.heap.objs.size f cd)) (leaving (envOfC qual scope s.heap.objs.size f cd) e) (λ_ Z=>CX outer H s E e Z) (λX Z=>CX outer H s E X Z) Y
def FU {sc:ZF} {n:Nat} {x:Str} (h:sc.names.lookup x=some .cell):∃c,(YO n sc.names []).lookup x=some c:=by
 have q:=Zt sc.names n [] (.inl h);exact Option.isSome_iff_exists.mp q
def Nf {CX:jr} {P:ô} {w:Ĉ} {K:Ļ} {mg:Str->Option Ê} {base:ō} {N ps:List Str} {qual:Str} {scope:ZF} {f:à} {cd:Ê} {A:Ă} {outer:List Env} {s s1:Æ} {H:Hp} {E:XK} {us:List Ê} {vs:List V}
  (S:rW N ps scope) (hd:A.handled=none) (e0:xx P w K mg base A outer s H) (hl:vs.length=ps.length) (r:Vals vs us)
  (x:InCallC s s.heap.objs.size (bindL (envOfC qual scope s.heap.objs.size f cd).kindOf (ps.zip us) λ_=>none) (YO (s.heap.objs.size+1) scope.names []) (bindC (envOfC qual scope s.heap.objs.size f cd).kindOf (ps.zip us) λ_=>none) s1) :
  Inv (mS CX P w K mg base N qual scope f cd A outer s H E) [] (start N vs) H s1:=by
 have M:ps.length<=N.length:=by have:=ļ List.length S.pre;rw[Ğ] at this;omega
 obtain⟨X,L,rfl,U⟩:=x.done;have W:∀b:à,b∉(mS CX P w K mg base N qual scope f cd A outer s H E).ex:=λb z=>absurd (show b∈([]:List à) from z) (by simp);refine⟨⟨e0.mod,S.kind,rfl,rfl,aal _,λy z c X Z=>?_,λy hy=>?_,λy c _ h=>?_,λ_=>hd,Around.frames_deeper e0.frames,.inr ⟨rfl,rfl⟩,λb z=>absurd z (W b),e0.bs,e0.jo,λb _ _=>W b,λb z=>absurd z (W b),e0.jM,e0.qP⟩,
  rfl,e0.bare,Un.kept U,⟨_,x.toInCall.ns,λi y v X Z J=>?_⟩,λy c h=>⟨_,x.cell y c h⟩,e0.aC.fresh (aal _),λy c h=>?_,λp Y=>absurd (show p∈([]:List (à×Obj)) from Y) (by simp),e0.aC.kept U,?_⟩
 ·exact name_of_addr x.apart (η X) (η Z)
 ·have hy:scope.names.lookup y=some .cell\/scope.names.lookup y=some .free:=hy
  rcases hy with hy|hy
  ·exact FU hy
  ·exact absurd rfl (S.RE _ (η hy))
 ·exact Nat.le_of_lt (x.above y c (η h))
 ·have hi:i<vs.length:=by
   unfold start at Z;by_cases hi:i<vs.length
   ·exact hi
   ·rw[æ (by simpa using hi)] at Z
    rw[ī] at Z
    split at Z<;>cases Z
  have Q:vs[i]?=some v:=by
   unfold start at Z;rw[Õ (by simpa using hi),Ü] at Z
   cases e:vs[i]? with
   |none=>rw[e] at Z;cases Z
   |some a=>rw[e] at Z;cases Z;rfl
  obtain⟨u,T,O⟩:=r.get Q;have Y:ps[i]?=some y:=by
   rw[<- S.pre,Y6 (by omega)];exact X
  have R:ps.Nodup:=by rw[<- S.pre];exact S.nd.sublist (List.take_sublist _ _)
  refine⟨u,O,?_⟩
  rcases S.par y (Ę Y) with k|k
  ·exact .inl ⟨k,Fd R Y T k⟩
  ·obtain⟨c,e⟩:=FU (n:=s.heap.objs.size+1) k
   refine .inr ⟨.inl k,c,e,?_⟩;have q:=x.cell y c e;rw[Fe R Y T (by show scope.names.lookup y≠_;rw[k];decide)] at q;exact q
 ·exact e0.aC.fresh (Nat.le_of_lt (x.above y c (η h)))
 ·unfold start
  show _=N.length;rw[í,Ä,Yu];omega
def Tq {CX:jr} {P:ô} {w:Ĉ} {K:Ļ} {mg:Str->Option Ê} {base:ō} {k:Nat} {f:à} {name qual:Str} {params:Arguments} {body:List Stmt} {scope:ZF} {dV kV doc pm bQ ct oc:Ê} {an od:Option à}
  {m8:Array (Option Ê)} {N ps:List Str} {sp:Sp} (lk:K.lookup f=some ⟨oc,od,.func (ſ name qual params body scope dV kV doc pm an bQ ct),m8⟩) (jU:ZE K bQ qual=true) (S:rW N ps scope)
  (len:∀vs H Q E,sp vs H Q E->vs.length=ps.length)
  (AW:∀(A:Ă) (outer:List Env) (s:Æ) (H:Hp) (vs:List V) (Q:VK) (E:XK),bY k (A.deeper (envOfC qual scope s.heap.objs.size f bQ))->sp vs H Q E ->
   ∃t,de (mS CX P w K mg base N qual scope f bQ A outer s H E) body t/\t { nx:=λ_ H'=>Q .au H',rt:=Q } (start N vs) H) :
  fT P w K mg base CX (k+1) f (ſ name qual params body scope dV kV doc pm an bQ ct) ps sp:=by
 refine⟨len,λA outer s H args L vs Q E X Z G r R=>?_⟩;have F:=len _ _ _ _ R;have O:K.In s.heap:=Z.mod.uu.keeps λb o e=>(Z.bs b o e).1;have lim:s.heap.NoLimit:=Z.mod.nolimit.keeps λb o e=>(Z.bs b o e).1;have D:∀y∈ps.zip L,scope.names.lookup y.1=some .local\/(scope.names.lookup y.1=some .cell/\((YO (s.heap.objs.size+1) scope.names []).lookup y.1).isSome=true):=λ⟨n,v⟩ C=>by
  rcases S.par n (List.of_mem_zip C).1 with q|q
  ·exact .inl q
  ·exact .inr ⟨q,Zt _ _ _ (.inl q)⟩
 refine codeAny_call_function X.depth (O _ _ lk) rfl S.co S.gen rfl (PySem.W.codeRec_of O jU) (G _ _ _ _ ?_);refine wpAny_newFunctionEnv_cells S.kind D λenv B M x=>?_;subst B;refine⟨lim.keeps x.toInCall.keep,codeAny_func ?_⟩;obtain⟨t,z,p⟩:=AW A outer s H vs Q E (X.deeper _) R;have I:Inv (mS CX P w K mg base N qual scope f bQ A outer s H E) [] (start N vs) H M:=Nf S X.hd Z F r x;refine ň (z [] M (start N vs) H _ I p) (λm U hs=>?_) λe U hs=>hs;have fin:∀{Y:St} {H':Hp} {v:V} {u:Ê},Inv (mS CX P w K mg base N qual scope f bQ A outer s H E) [] Y H' U->RelV v u->Q v H'->CE outer P w H s Q u U :=
  λ{Y H' v u} J T q=>⟨v,H',J.os,J.bare,J.base,J.aC,T,q⟩
 cases m with
 |ret u =>
  obtain⟨v,Y,H',J,T,q⟩:=hs;exact fin J T q
 |next =>
  obtain⟨Y,H',J,q⟩:=hs;exact fin (v:=V.au) (u:=Value.none) J rfl q
 |brk =>
  obtain⟨_,_,_,q⟩:=hs;exact YD q
 |cont =>
  obtain⟨_,_,_,q⟩:=hs;exact YD q
section
variable {X:Cx} {x:Str} {p pos:Pos} {e:ņ} {es:List ņ} {t:TA} {id T:String} {r:List V->Hp->VK->Prop}
def Cs (r:List V->Hp->VK->Prop) (t:TA):TE:=fun σ H Q=>t σ H λZ Y=>r Z Y Q
def zf (hc:bP X (.builtin id) r) (hg:Gl X x) (hm:X.mg x=none) (hv:ā x=some (.builtin id)) (ha:PA X (e::es) t) (hn:x≠"__name__":=by decide) (iV:(x==("__debug__":Str))=false:=by decide)
  (he:Ý (e::es) X.env=(false,Ž e X.env)::Ý es X.env:=by rfl) (bO:(Yt pos (Ý es X.env)).any (·.1)=false:=by rfl):PE X (.Call (.Name x p) (e::es) [] pos) (Cs r t):=by
 intro Z s σ H Q I h;refine wpAny_Call_Name_kw (nV I hg hm hv ?_ hn iV);exact PyProof.Rows.callWith_builtin1 (aJ (ha pos Z s σ H _ I h) λY W ⟨V,U,T,S,R⟩=>hc Z W σ U V Y Q T S R) he bO
def pQ (hc:bP X (.type T) r) (hg:Gl X x) (hm:X.mg x=none) (hv:ā x=some (.type T)) (ha:PA X (e::es) t) (hn:x≠"__name__":=by decide) (iV:(x==("__debug__":Str))=false:=by decide)
  (he:Ý (e::es) X.env=(false,Ž e X.env)::Ý es X.env:=by rfl) (bO:(Yt pos (Ý es X.env)).any (·.1)=false:=by rfl):PE X (.Call (.Name x p) (e::es) [] pos) (Cs r t):=by
 intro Z s σ H Q I h;refine wpAny_Call_Name_kw (nV I hg hm hv ?_ hn iV);exact Ł (aJ (ha pos Z s σ H _ I h) λY W ⟨V,U,S,R,P⟩=>hc Z W σ U V Y Q S R P) he bO
end
end L2
namespace HT
open PySem PyProof.Rows
noncomputable def lexLt:List Int->List Int->Bool
 | [],[]=>false
 | [],_::_=>true
 |_::_,[]=>false
 |x::Z,y::Y=>if x=y then lexLt Z Y else decide (x<y)
def i7 (x y:Int) (xs ys:List Int):lexLt (x::xs) (y::ys)=if x=y then lexLt xs ys else decide (x<y):=rfl
def FV (A:Ă) (s:Æ) (a:Int) (t:Tok) (c:Int) (u:Tok) (prog:ô) (w:Ĉ) (E:Ê->Æ->Prop) (Q:Ê->Æ->Prop) (h:Q (.bool (decide (a<c))) s) :
  Ú (î prog w) A (richCompare .Lt (.int a t) (.int c u)) Q E s :=
 (PyProof.Rows.lt_int h:Ú (î prog w) A (ĭ .Lt (.int a t) (.int c u)) Q E s)
section
open PySem.SeqAt
open PySem.AutoSeq1 (wpAny_loadPart')
open PySem.MeetsSeq PySem.MeetsSeq2 PySem.MeetsSeq3
end
section
variable {prog:ô} {w:Ĉ} {A:Ă} {E:Ê->Æ->Prop} {s:Æ}
def PN (ht:IsTup s.heap t vs.toArray) (hb:IsTup s.heap b ws.toArray) (hv:vs≠[])
 (h1:ws=[]->Q (.ref t) s) (h2:ws≠[]->Q (.ref s.heap.objs.size) { s with heap:=s.heap.push { cls:=.type "tuple",data:=.seq (vs++ws).toArray } })
 (hsz:vs.length+ws.length<=Û):Ú (î prog w) A (Ō .Add (.ref t) (.ref b)) Q E s:=by
 obtain⟨⟨cls,X,data,W⟩,Z,V,n,U⟩:=id ht;obtain⟨⟨O,T,data2,S⟩,Y,R,P,hd2⟩:=id hb;simp only at V U R hd2;subst V U R hd2;have e:vs.toArray++ws.toArray=(vs++ws).toArray:=by simp
 by_cases hw:ws=[]
 ·exact concat_meets ⟨_,Z,rfl⟩ ⟨_,Y,rfl⟩ noFill_tuple_add seq_tuple_add Zu Zi (Y7 _ _)
   (tuple_addW1 t b vs.toArray ws.toArray n P X T W S (by simpa using hv) (by simp[hw])) ⟨Z,Y,h1 hw⟩
 ·refine concat_meets ⟨_,Z,rfl⟩ ⟨_,Y,rfl⟩ noFill_tuple_add seq_tuple_add Zu Zi (Y7 _ _)
   (tuple_addW2 t b vs.toArray ws.toArray n P X T W S (by simpa using hv) (by simpa using hw) (by rw[Ô,Ô];exact hsz)) ⟨Z,Y,?_⟩
  rw[e];exact h2 hw
noncomputable def aN (n d:Nat):Option Int->Nat
 |none=>d
 |some v=>if v<0 then (v+(n:Int)).toNat else min v.toNat n
def PQ (n d k:Nat):aN n d (some (k:Int))=min k n:=by
 show (if (k:Int)<0 then ((k:Int)+(n:Int)).toNat else min (k:Int).toNat n)=min k n
 rw[ð (by omega),č]
def RF (n d:Nat) (hd:d<=n) (o:Option Int):aN n d o<=n:=by
 cases o with
 |none=>exact hd
 |some v =>
  show (if v<0 then (v+(n:Int)).toNat else min v.toNat n)<=n
  by_cases Z:v<0
  ·rw[é Z];omega
  ·rw[ð Z];exact Nat.min_le_right _ _
def GK (v:Int) (n d:Nat):(if v<0 then max (v+(n:Int)) 0 else min v (n:Int))=((aN n d (some v):Nat):Int):=by
 show (if v<0 then max (v+(n:Int)) 0 else min v (n:Int))=(((if v<0 then (v+(n:Int)).toNat else min v.toNat n):Nat):Int)
 by_cases Z:v<0
 ·simp only[é Z];omega
 ·simp only[ð Z];omega
def Mw (lo hi:Option Int) (n:Nat):YQ lo hi 1 (n:Int)=(((aN n 0 lo:Nat):Int),((aN n n hi:Nat):Int)):=by
 have Z:¬ ((1:Int)<0):=by omega
 unfold YQ;simp only[Z,ã];refine Prod.ext ?_ ?_
 ·cases lo with
  |none=>rfl
  |some v=>exact GK v n 0
 ·cases hi with
  |none=>rfl
  |some v=>exact GK v n n
def Mx (i j:Nat):ů (i:Int) (j:Int) 1=j-i:=by
 unfold ů;have Z:(1:Int) > 0:=by omega
 simp only[Z,ø,Int.ediv_one]
 split<;>omega
def EU (p:IsPart v o) (h:Q o s):Ú (î prog w) A (Builtin.Slice.slicePartIndex v) Q E s:=by
 cases p with
 |none=>exact slicePart_none h
 |int i t=>exact slicePart_int h
def En {lo hi:Option Int} {n:Nat} {Q:Int×Int×Nat->Æ->Prop} (hs:s.heap.IsSliceOf sl vl vu .none) (pl:IsPart vl lo) (pu:IsPart vu hi)
 (h:Q (((aN n 0 lo:Nat):Int),1,aN n n hi-aN n 0 lo) s):Ú (î prog w) A (Z6 (.ref sl) (pure (n:Int))) Q E s:=by
 obtain⟨os,Z,X,Y⟩:=id hs;unfold Z6 Builtin.Slice.sliceFields;refine À (À (Ĺ Z Y (x:=vl) rfl (À (Ĺ Z Y (x:=vu) rfl (À (Ĺ Z Y (x:=.none) rfl (Â ?_)))))));refine À (slicePart_none ?_)
 show Ú _ _ (if ((1:Int)==0)=true then _ else _) _ _ s
 rw[ð (by decide)];refine À (EU pl (À (EU pu (À (Â ?_)))))
 show Ú _ _ (match YQ lo hi 1 (n:Int) with | (lo,hi)=>pure (lo,(1:Int),ů lo hi 1)) _ _ s
 rw[Mw lo hi n];show Ú _ _ (pure (((aN n 0 lo:Nat):Int),(1:Int),ů ((aN n 0 lo:Nat):Int) ((aN n n hi:Nat):Int) 1)) _ _ s;rw[Mx];exact Â h
def Oe (xs:Array Ê) (i k:Nat):((Ó k).filterMap λ(m:Nat)=>xs[((i:Int)+(m:Int)*1).toNat]?).toArray=((xs.toList.drop i).take k).toArray:=by
 have e:(λ(m:Nat)=>xs[((i:Int)+(m:Int)*1).toNat]?)=λm=>xs[i+m]?:=by
  funext m;have:((i:Int)+(m:Int)*1).toNat=i+m:=by omega
  rw[this]
 rw[e];have:=pick_run xs i k;rw[List.filterMap_map] at this;have e2:((λx=>xs[x]?) ∘ λx=>i+x)=λm=>xs[i+m]?:=rfl;rw[e2] at this;rw[this]
def Lj {lo hi:Option Int} {Q:Ê->Æ->Prop} (ht:IsTup s.heap t items) (hs:s.heap.IsSliceOf sl vl vu .none) (pl:IsPart vl lo) (pu:IsPart vu hi)
 (hw:¬ (aN items.size 0 lo=0/\aN items.size items.size hi=items.size))
 (h:Q (.ref s.heap.objs.size) { s with heap:=s.heap.push { cls:=.type "tuple",data:=.seq ((items.toList.drop (aN items.size 0 lo)).take (aN items.size items.size hi-aN items.size 0 lo)).toArray } })
 (hsz:items.size<=Û):Ú (î prog w) A (getItem (.ref t) (.ref sl)) Q E s:=by
 have Z:sizeOk (.seq ((items.toList.drop (aN items.size 0 lo)).take (aN items.size items.size hi-aN items.size 0 lo)).toArray):=by
  show ((items.toList.drop (aN items.size 0 lo)).take (aN items.size items.size hi-aN items.size 0 lo)).toArray.size<=Û;rw[Ô,Ğ,YY,ä];omega
 have U:aN items.size items.size hi<=items.size:=RF _ _ (aal _) hi;obtain⟨os,Y,X,T⟩:=id hs;have W:s.TypeIs (.ref sl) "slice":=⟨os,Y,X⟩;unfold getItem
 try with_reducible refine ĝ ?_
 first|refine À (Â ?_)|skip
 refine À (wpAny_sequenceKey ht.typeIs (by decide) ?_);refine À (ą (name:=ē "__getitem__") ht.typeIs ĩ
  (ý ĩ ht.typeIs entry_tuple_getitem ?_ (args_tuple_getitem _ _)))
 show Ú _ _ (Ş (.ref t) >>= _) _ _ s;refine À (tupleItemsOf_ ht ?_);refine À (Y8 W ?_);rw[é (by decide)];refine À (En hs pl pu ?_);have V:¬ ((((aN items.size 0 lo:Nat):Int)==0&&(1:Int)==1&&(aN items.size items.size hi-aN items.size 0 lo)==items.size)=true):=by
  intro q;rw[È,È] at q;have S:((aN items.size 0 lo:Nat):Int)=0:=eq_of_beq q.1.1;have R:aN items.size items.size hi-aN items.size 0 lo=items.size:=eq_of_beq q.2;exact hw ⟨by omega,by omega⟩
 show Ú _ _ (if (((aN items.size 0 lo:Nat):Int)==0&&(1:Int)==1&&(aN items.size items.size hi-aN items.size 0 lo)==items.size)=true then _ else _) _ _ s
 rw[ð V,Oe]
 first
  |exact À (m:=Ŏ _) (ö (Â ⟨_,rfl,Â h⟩) Z)
  |exact À (m:=Ŏ _) (ö (À (Â (Â ⟨_,rfl,Â h⟩))) Z)
  |exact À (À (m:=Ŏ _) (ö (Â (Â ⟨_,rfl,Â h⟩)) Z))
  |exact À (À (m:=Ŏ _) (ö (Â ⟨_,rfl,Â h⟩) Z))
end
end HT
namespace L2
open PySem PySem.Spec PyProof.Rows
abbrev TO:=St->Hp->(Option Int->Hp->Prop)->Prop
def PO (X:Cx) (e:Option ņ) (t:TO):Prop :=
 ∀(Z:List (à×Obj)) (s:Æ) (σ:St) (H:Hp) (Q:Option Int->Hp->Prop),Inv X Z σ H s->t σ H Q ->
  Ú (î X.prog X.w) X.A (evalPart e X.env) (λu W=>∃o Y,Inv X Z σ Y W/\IsPart u o/\Q o Y) X.xe s
def PR:TO:=λ_ H Q=>Q none H
def Ts (t:TE):TO:=fun σ H Q=>t σ H λx Z=>∃i,x=.int i/\Q (some i) Z
def intsAre_of:∀{us:List Ê},Vals (ns.map V.int) us->Zx us ns:=by
 induction ns with
 |nil=>intro us r;rw[ĵ] at r;cases r;exact .nil
 |cons n ns ih =>
  intro us r;rw[Þ] at r
  cases r with
  |cons Z Y =>
   obtain⟨t,e⟩:=Z;subst e;exact .cons n t (ih Y)
section
variable {X:Cx} {e:ņ} {te:TE} {lo hi:Option ņ} {tl th:TO} {pos p2:Pos}
def PU:PO X none PR:=by
 intro Z s σ H Q I h;rw[evalPart_none];exact Â ⟨none,H,I,.none,h⟩
def PV (h:PE X e te):PO X (some e) (Ts te):=by
 intro Z s σ H Q I hw;rw[evalPart_some];refine aJ (h Z s σ H _ I hw) λu T ⟨x,Y,W,V,U⟩=>?_;obtain⟨i,rfl,q⟩:=U;obtain⟨t,rfl⟩:=V;exact⟨some i,Y,W,.int i t,q⟩
def uL (X:Cx) (r:V->Option Int->Option Int->Hp->VK->Prop):Prop :=
 ∀(Z:List (à×Obj)) (s:Æ) (σ:St) (H:Hp) (x:V) (v Y W:Ê) (lo hi:Option Int) (U:à) (Q:VK),Inv X Z σ H s->RelV x v->s.heap.IsSliceOf U Y W .none->IsPart Y lo->IsPart W hi->r x lo hi H Q ->
  ∃T id,typeLookup (.type T) "__getitem__"=pure (some (.builtin id))/\s.TypeIs v T/\Ú (î X.prog X.w) X.A (getItem v (.ref U)) (EP X Z σ Q) X.xe s
def VL (r:V->Option Int->Option Int->Hp->VK->Prop) (te:TE) (tl th:TO):TE:=fun σ H Q=>te σ H λx Z=>tl σ Z λl Y=>th σ Y λu X=>r x l u X Q
def Of (hr:uL X r) (he:PE X e te) (hl:PO X lo tl) (hu:PO X hi th):PE X (.Subscript e (.Slice lo hi none p2) pos) (VL r te tl th):=by
 intro Y s σ H Q I h;refine Subscript_ (aJ (he Y s σ H _ I h) λv S ⟨x,R,P,O,N⟩=>?_);refine wpAny_Slice (aJ (hl Y S σ R _ P N) λW M ⟨l,L,K,J,G⟩=>aJ (hu Y M σ L _ K G) λV Z ⟨u,U,F,pu,E⟩=>?_);rw[evalPart_none];refine Â ?_
 have D:Inv X Y σ U { Z with heap:=Z.heap.push { cls:=.type "slice",data:=.fields #[W,V,.none] } }:=F.kept (t':=Z.toks) λb y q=>Á _ q
 obtain⟨T,id,C,B,z⟩:=hr Y { Z with heap:=Z.heap.push { cls:=.type "slice",data:=.fields #[W,V,.none] } } σ U x v W V l u Z.heap.objs.size Q D O (Heap.IsSliceOf.new ..) J pu E
 show Ú (î X.prog X.w) X.A (subscriptTail e (.Slice lo hi none p2) v (.ref Z.heap.objs.size)) (EP X Y σ Q) X.xe { Z with heap:=Z.heap.push { cls:=.type "slice",data:=.fields #[W,V,.none] } }
 exact tail_any (ops:=[.ref Z.heap.objs.size,v]) B C z (by with_unfolding_all rfl)
noncomputable def jO (xs:List V) (lo hi:Option Int):List V:=(xs.drop (HT.aN xs.length 0 lo)).take (HT.aN xs.length xs.length hi-HT.aN xs.length 0 lo)
def EE (xs:List V) (lo hi:Option Int):(jO xs lo hi).length<=xs.length:=by
 unfold jO;rw[Ğ,YY];omega
def UX (K:Ļ):V->Option Int->Option Int->Hp->VK->Prop:=λx lo hi H Q=>∃a Z,x=.ref a/\aX K H a Z /\
 ¬ (HT.aN Z.length 0 lo=0/\HT.aN Z.length Z.length hi=Z.length)/\∀p,H p=none->Q (.ref p) (upd H p (.tup (jO Z lo hi)))
def wB:uL X (UX X.K):=by
 intro R s σ H x v P O lo hi N Q I U hs T pu h;obtain⟨a,Y,rfl,S,hw,q⟩:=h;cases U;obtain⟨its,r,W,V⟩:=I.tuple S;have Z:its.toArray.size=Y.length:=by rw[Ô];exact r.length.symm
 refine⟨"tuple",_,ĩ.lookup,W.typeIs,?_⟩;refine HT.Lj W hs T pu (by rw[Z];exact hw) ?_ (by rw[Z];exact V);rw[Z];refine⟨.ref s.heap.objs.size,_,I.laid (t':=s.toks) (o:=.tup (jO Y lo hi)) (λb M q=>Á _ q) (aal _) ?_,rfl,q _ (I.aC.fresh (aal _))⟩;exact⟨è (EE Y lo hi) V,_,(r.drop (HT.aN Y.length 0 lo)).take (HT.aN Y.length Y.length hi-HT.aN Y.length 0 lo),IsTup.new _ _⟩
def Tt (K:Ļ):R2:=λx y H Q=>∃a b Y Z,x=.ref a/\y=.ref b/\aX K H a Y/\aX K H b Z/\Y≠[]/\Y.length+Z.length<=Û /\
 (Z=[]->Q (.ref a) H)/\(Z≠[]->∀p,H p=none->Q (.ref p) (upd H p (.tup (Y++Z))))
def Vals.zL (r:Vals xs us):us=[]↔xs=[]:=by
 cases r with
 |nil=>simp
 |cons _ _=>simp
def PX:bh X (Ō .Add) (Tt X.K):=by
 intro J s σ H x y v u Q I V U h;obtain⟨a,b,T,S,rfl,rfl,R,P,O,W,N,M⟩:=h;cases V;cases U;obtain⟨its,Y,L,_⟩:=I.tuple R;obtain⟨G,Z,p2,_⟩:=I.tuple P;refine HT.PN L p2 (λz=>O (Y.zL.mp z)) (λz=>⟨.ref a,H,I,rfl,N (Z.zL.mp z)⟩) (λz=>?_) (by rw[<- Y.length,<- Z.length];exact W);refine⟨.ref s.heap.objs.size,_,I.laid (t':=s.toks) (o:=.tup (T++S)) (λb F q=>Á _ q) (aal _) ?_,rfl,M (λw=>z (Z.zL.mpr w)) _ (I.aC.fresh (aal _))⟩;exact⟨by rw[í];exact W,_,Y.append Z,IsTup.new _ _⟩
end
noncomputable def fL (n:Nat) (i:Int):Option Nat:=if 0<=i then (if i<n then some i.toNat else none) else if -(n:Int)<=i then some (i+n).toNat else none
def dS {α:Type} (xs:List α) (i:Int):Option α:=(fL xs.length i).bind λj=>xs[j]?
def GN (h:fL n i=some j):seqIndex? i n=some j/\j<n/\-(n:Int)<=i/\i<n:=by
 unfold fL at h;by_cases Y:0<=i
 ·rw[é Y] at h
  by_cases Z:i<n
  ·rw[é Z] at h
   have e:i.toNat=j:=aam h;exact⟨by rw[seqIndex_of Y Z,e],by omega,by omega,Z⟩
  ·rw[ð Z] at h;cases h
 ·rw[ð Y] at h
  by_cases Z:-(n:Int)<=i
  ·rw[é Z] at h
   have e:(i+n).toNat=j:=aam h;exact⟨by rw[seqIndex_neg (by omega) Z,e],by omega,Z,by omega⟩
  ·rw[ð Z] at h;cases h
def zM {α:Type} {xs:List α} {i:Int} {v:α} (h:dS xs i=some v):∃j,seqIndex? i xs.length=some j/\xs[j]?=some v/\j<xs.length/\-(xs.length:Int)<=i/\i<xs.length:=by
 unfold dS at h
 cases e:fL xs.length i with
 |none=>rw[e] at h;cases h
 |some j =>
  rw[e] at h;obtain⟨Z,Y,X,W⟩:=GN e;exact⟨j,Z,h,Y,X,W⟩
def GO (b:ņ):Prop:=∀o i,subscripted b false o i=operate [o,i] (getItem o i)
def uM (X:Cx) (r:R2):Prop :=
 ∀(value slice:ņ) (Z:List (à×Obj)) (s:Æ) (σ:St) (H:Hp) (x y:V) (v u:Ê) (Q:VK),Inv X Z σ H s->RelV x v->RelV y u->r x y H Q ->
  subscripted slice false v u=operate [v,u] (getItem v u)->Ú (î X.prog X.w) X.A (subscriptTail value slice v u) (EP X Z σ Q) X.xe s
def VM (X:Cx) (id:String) (r:V->List V->Hp->VK->Prop):Prop :=
 ∀(Z:List (à×Obj)) (s:Æ) (σ:St) (H:Hp) (x:V) (Y:List V) (v:Ê) (W:List Ê) (Q:VK),Inv X Z σ H s->RelV x v->Vals Y W->r x Y H Q ->
  Ú (î X.prog X.w) X.A (call (.builtin id) (v::W)) (EP X Z σ Q) X.xe s
section
variable {X:Cx} {a b:ņ} {ta tb:TE} {pos:Pos}
def Tu (hr:uM X r) (ha:PE X a ta) (hb:PE X b tb) (hs:GO b):PE X (.Subscript a b pos) (uH r ta tb):=by
 intro Z s σ H Q I h;exact Subscript_ (By ha hb I h λv u Y x y W V U T q=>hr a b Z Y σ W x y v u Q V U T q (hs _ _))
def UY (K:Ļ):R2:=λx y H Q=>∃p Z i v,x=.ref p/\y=.int i/\bo K H p Z/\dS Z i=some v/\Q v H
def UZ (K:Ļ):R2:=λx y H Q=>∃p Z i v,x=.ref p/\y=.int i/\aX K H p Z/\dS Z i=some v/\Q v H
def U0:R2:=λx y H Q=>∃z i c,x=.str z/\y=.int i/\z.length<=Û/\dS z.cps.toList i=some c/\Q (.str ⟨#[c]⟩) H
def GP:uM X (UY X.K):=by
 intro value slice V s σ H x y v u Q I S R h hs;obtain⟨p,E,i,z,rfl,rfl,P,O,q⟩:=h;cases S;obtain⟨t,rfl⟩:=R;obtain⟨its,r,Y,D⟩:=I.list P;obtain⟨j,Z,N,C,M,L⟩:=zM O;obtain⟨w,U,J⟩:=r.get N;have G:=r.length;have B:=nW;have fin:EP X V σ Q w s:=⟨z,H,I,J,q⟩;by_cases T:0<=i
 ·have W:i.toNat=j:=by
   rw[seqIndex_of T L] at Z;exact aam Z
  exact item_listR Y.isList T (by omega) (by rw[W];simpa using U) fin hs
 ·have W:(i+(its.toArray.size:Int)).toNat=j:=by
   rw[seqIndex_neg (by omega) M] at Z;rw[Ô,<- G];exact aam Z
  exact subscriptTail_builtinR (x:=w) Y.isList.typeIs slot_list_getitem.lookup
   (wpAny_getItem_list_neg (Q:=λr F=>r=w/\EP X V σ Q r F) Y.isList (by omega) (by rw[Ô]<;>omega) (by omega) (by rw[W];simpa using U) ⟨rfl,fin⟩) hs
def RG:uM X (UZ X.K):=by
 intro value slice Z s σ H x y v u Q I W V h hs;obtain⟨p,L,i,z,rfl,rfl,U,T,q⟩:=h;cases W;obtain⟨t,rfl⟩:=V;obtain⟨its,r,Y,J⟩:=I.tuple U;obtain⟨j,S,R,G,F,E⟩:=zM T;obtain⟨w,P,O⟩:=r.get R;have N:=r.length;have D:=nW;have fin:EP X Z σ Q w s:=⟨z,H,I,O,q⟩;exact subscriptTail_builtinR (x:=w) Y.typeIs slot_tuple_getitem.lookup
  (getItem_tuple (j:=j) (Q:=λr M=>r=w/\EP X Z σ Q r M) Y (by omega) (by omega) (by rw[Ô,<- N];exact S) (by simpa using P) ⟨rfl,fin⟩) hs
def RH:uM X U0:=by
 intro value slice P s σ H x y v u Q I Y W h hs;obtain⟨z,i,c,rfl,rfl,O,V,q⟩:=h;obtain⟨t,rfl⟩:=Y;obtain⟨N,rfl⟩:=W;obtain⟨j,Z,U,M,T,S⟩:=zM V;have R:z.cps.toList.length=z.length:=by simp[Str.length]
 rw[R] at Z T S;have L:=nW;exact tail_any (typeIs_str s z t) slot_str_getitem.lookup (getItem_str (c:=c) (by
  have e1:decide (i < -(2 ^ 63:Int))=false:=ñ (by omega);have e2:decide (i ≥ 2 ^ 63)=false:=ñ (by omega);rw[e1,e2,Bool.or_false]) (by rw[Z];simpa using U) ⟨.str ⟨#[c]⟩,H,I.tok _,⟨_,rfl⟩,q⟩) hs
def My (its:List Ê) (n j:Nat) (u:Ê):ŗ (·.setIfInBounds j u) { cls:=.type "list",data:=.seq its.toArray n }={ cls:=.type "list",data:=.seq (its.set j u).toArray n }:=by
 simp[ŗ]
theorem Inv.lst {π:List (à×Obj)} {σ:St} {H:Hp} {s:Æ} {p:à} {xs:List V} (I:Inv X π σ H s) (h:H p=some (.lst xs)) :
  ∃(its:List Ê) (n:Nat),Vals xs its/\s.heap.get? p=some { cls:=.type "list",data:=.seq its.toArray n }/\xs.length<=Û:=by
 obtain⟨z,its,n,r,e⟩:=I.aC p _ h;exact⟨its,n,r,e,z⟩
def Inv.RJ {π:List (à×Obj)} {σ:St} {H:Hp} {s:Æ} {p:à} {xs ys:List V} {its its':List Ê} {n n':Nat} {f:Obj->Obj} (I:Inv X π σ H s) (h:H p=some (.lst xs))
  (ho:s.heap.get? p=some { cls:=.type "list",data:=.seq its.toArray n }) (hf:f { cls:=.type "list",data:=.seq its.toArray n }={ cls:=.type "list",data:=.seq its'.toArray n' }) (r:Vals ys its') (hz:ys.length<=Û) (t:Nat) :
  Inv X π σ (upd H p (.lst ys)) { s with heap:=s.heap.update p f,toks:=t }:=by
 have e:(s.heap.update p f).get? p=some { cls:=.type "list",data:=.seq its'.toArray n' }:=by
  rw[Ě f ho (by rw[hf]<;>rfl),hf]
 refine I.write (x:=p) (e:=p) (by rw[h];trivial) (.inl rfl) (λb u Z q=>(Yr _ _ (ų Z)).trans q) ⟨_,e⟩ ?_;exact⟨hz,its',n',r,e⟩
def Tv:V->V->V->Hp->(Hp->Prop)->Prop:=λo i v H Q=>∃p Z k j,o=.ref p/\i=.int k/\H p=some (.lst Z)/\fL Z.length k=some j/\Q (upd H p (.lst (Z.set j v)))
def set_list:Bv X Tv:=by
 intro N s σ H o i v E D u Q I M L K h;obtain⟨p,J,k,j,rfl,rfl,T,G,q⟩:=h;cases M;obtain⟨t,rfl⟩:=L;obtain⟨its,n,r,Y,F⟩:=I.lst T;obtain⟨Z,C,S,R⟩:=GN G;have V:=r.length;have B:=nW
 have P:Inv X N σ (upd H p (.lst (J.set j v))) { s with heap:=s.heap.update p (ŗ (·.setIfInBounds j u)) } :=
  I.RJ T Y (My its n j u) (r.set K j) (by rw[ġ];exact F) s.toks
 by_cases O:0<=k
 ·have U:k.toNat=j:=by
   rw[seqIndex_of O R] at Z;exact aam Z
  exact PySem.W.ki_setAt Y O (by omega) (by rw[Ô,<- V];exact R) (by rw[U];exact⟨_,P,q⟩)
 ·have U:(k+(its.toArray.size:Int)).toNat=j:=by
   rw[seqIndex_neg (by omega) S] at Z;rw[Ô,<- V];exact aam Z
  exact PySem.W.ki_setBack Y (by omega) (by rw[Ô,<- V];exact S) (by omega) (by rw[U];exact⟨_,P,q⟩)
def LJ (lo hi:Option Int) (n:Nat):(Zy lo hi none n).1=((HT.aN n 0 lo:Nat):Int)/\(Zy lo hi none n).2.1=((HT.aN n n hi:Nat):Int)/\(Zy lo hi none n).2.2=1:=by
 refine⟨?_,?_,rfl⟩
 ·cases lo with
  |none=>simp[Zy,HT.aN]
  |some i =>
   simp only[Zy,HT.aN,Option.getD_none,show (1:Int) > 0 by decide,ø];by_cases h:i<0
   ·simp only[h,ø]<;>omega
   ·simp only[h,ã]<;>omega
 ·cases hi with
  |none=>simp[Zy,HT.aN]
  |some i =>
   simp only[Zy,HT.aN,Option.getD_none,show (1:Int) > 0 by decide,ø];by_cases h:i<0
   ·simp only[h,ø]<;>omega
   ·simp only[h,ã]<;>omega
def Ly (its:List Ê) (lo hi:Option Int):slicePick its.toArray lo hi none=((its.drop (HT.aN its.length 0 lo)).take (HT.aN its.length its.length hi-HT.aN its.length 0 lo)).toArray:=by
 obtain⟨Z,Y,X⟩:=LJ lo hi its.toArray.size;unfold slicePick;rw[Z,Y,X]
 simp only[sliceRange_one,pick_run,Ô]<;>rfl
def U1 (K:Ļ):V->Option Int->Option Int->Hp->VK->Prop:=λx lo hi H Q=>∃a Z,x=.ref a/\bo K H a Z/\∀p,H p=none->Q (.ref p) (upd H p (.lst (jO Z lo hi)))
def PY:uL X (U1 X.K):=by
 intro R s σ H x v P O lo hi N Q I V hs U pu h;obtain⟨a,Z,rfl,T,q⟩:=h;cases V;obtain⟨its,r,W,S⟩:=I.list T;have Y:=r.length;refine⟨"list",_,slot_list_getitem.lookup,W.isList.typeIs,?_⟩
 refine wpAny_getItem_list_slice W.isList hs U pu .none (by simp) ?_ (by rw[Ô]<;>omega)
 rw[Ly,<- Y];refine⟨.ref s.heap.objs.size,_,I.laid (t':=s.toks) (o:=.lst (jO Z lo hi)) (λb M q=>Á _ q) (aal _) ?_,rfl,q _ (I.aC.fresh (aal _))⟩;exact⟨è (EE Z lo hi) S,_,0,(r.drop (HT.aN Z.length 0 lo)).take (HT.aN Z.length Z.length hi-HT.aN Z.length 0 lo),Ì _ rfl⟩
def yB:bP X (.builtin "len") (λxs H Q=>∃p ys,xs=[.ref p]/\(bo X.K H p ys\/aX X.K H p ys)/\Q (.int ys.length) H):=by
 intro T s σ H xs S Q I r h;obtain⟨p,ys,rfl,hq,q⟩:=h;obtain⟨u,rfl,V⟩:=vals1 r;cases V;have R:=nW
 rcases hq with hq|hq
 ·obtain⟨its,Y,W,U⟩:=I.list hq
  have Z:=Y.length
  exact Calls.call_len_list W.isList (by simp only[Ô]<;>omega) ⟨.int ys.length,H,I.tok _,⟨s.toks+1,by rw[Ô,Z]⟩,q⟩
 ·obtain⟨its,Y,W,U⟩:=I.tuple hq
  have Z:=Y.length
  exact len_tuple W (by simp only[Ô]<;>omega) ⟨.int ys.length,H,I.tok _,⟨s.toks+1,by rw[Ô,Z]⟩,q⟩
def LK:bP X (.builtin "len") (λxs H Q=>∃z,xs=[.str z]/\z.length<=Û/\Q (.int z.length) H):=by
 intro Z s σ H xs Y Q I r h;obtain⟨z,rfl,W,q⟩:=h;obtain⟨u,rfl,t,rfl⟩:=vals1 r;have V:=nW;exact len_str (by omega) ⟨.int z.length,H,I.tok _,⟨_,rfl⟩,q⟩
def Er:bP X (.type "list") (λxs H Q=>∃p ys,xs=[.ref p]/\(bo X.K H p ys\/aX X.K H p ys)/\∀l,H l=none->Q (.ref l) (upd H l (.lst ys))):=by
 intro M s σ H xs J Q I r h;obtain⟨p,ys,rfl,hq,q⟩:=h;obtain⟨u,rfl,L⟩:=vals1 r;cases L;have fin:∀(its:List Ê),Vals ys its->ys.length<=Û->∀(Z:ō) (Y:Nat),(∀b N,s.heap.get? b=some N->Z.get? b=some N) ->
   Z.get? s.heap.objs.size=some { cls:=.type "list",dict:=none,data:=.seq its.toArray Y,slots:=#[] }->EP X M σ Q (.ref s.heap.objs.size) { s with heap:=Z }:=λits W V Z Y U e =>
  ⟨.ref s.heap.objs.size,_,I.laid (t':=s.toks) U (aal _) (show cL X.prog X.w _ Z _ (.lst ys) from ⟨V,its,Y,W,e⟩),rfl,q _ (I.aC.fresh (aal _))⟩
 rcases hq with hq|hq
 ·obtain⟨its,W,S,V⟩:=I.list hq
  have T:=W.length;obtain⟨o,R,P,n,O⟩:=S.isList
  exact call_list_seq p (.inl rfl) R P O (λZ Y U e=>fin its W V Z Y U e) (by simp only[Ô]<;>omega)
 ·obtain⟨its,W,S,V⟩:=I.tuple hq
  have T:=W.length;obtain⟨o,R,P,n,O⟩:=S
  exact call_list_seq p (.inr rfl) R P O (λZ Y U e=>fin its W V Z Y U e) (by simp only[Ô]<;>omega)
def Eo:bP X (.type "tuple") (λxs H Q=>∃p ys,xs=[.ref p]/\((bo X.K H p ys/\∀l,H l=none->Q (.ref l) (upd H l (.tup ys)))\/(aX X.K H p ys/\Q (.ref p) H))):=by
 intro U s σ H xs M Q I r h;obtain⟨p,ys,rfl,h⟩:=h;obtain⟨u,rfl,P⟩:=vals1 r;cases P
 rcases h with ⟨Y,q⟩ | ⟨Y,q⟩
 ·obtain⟨its,W,V,T⟩:=I.list Y
  have S:=W.length
  refine call_tuple_list V.isList (λZ O=>?_) (by simp only[Ô]<;>omega)
  have R:Inv X U σ H { s with heap:=Z }:=I.kept (t':=s.toks) O
  have N:Inv X U σ (upd H Z.objs.size (.tup ys)) { s with heap:=Z.push { cls:=.type "tuple",data:=.seq its.toArray } } :=
   R.laid (t':=s.toks) (λb o e=>Á _ e) (aal _) (show cL X.prog X.w _ _ _ (.tup ys) from ⟨T,its,W,IsTup.new _ _⟩)
  exact⟨.ref Z.objs.size,_,N,rfl,q _ (R.aC.fresh (aal _))⟩
 ·obtain⟨its,W,V,T⟩:=I.tuple Y
  exact call_tuple_same V ⟨.ref p,H,I,rfl,q⟩
def Kp (K:Ļ) (T:String) (x:V) (H:Hp):Prop:=match x with
 | .str _=>T="str"
 | .int _=>T="int"
 | .ref p=>(T="list"/\∃Y,bo K H p Y)\/(T="tuple"/\∃o,K.lookup p=some o/\o.cls=.type "tuple"/\o.dict=none) \/
   (T="dict"/\((∃Z,H p=some (.dK Z))\/∃Z,H p=some (.dT Z)))\/(T="set"/\∃S n,H p=some (.set S n))
 |_=>False
def RK {π:List (à×Obj)} {σ:St} {H:Hp} {s:Æ} {T:String} {x:V} {v:Ê} (I:Inv X π σ H s) (r:RelV x v) (ty:Kp X.K T x H) :
  s.TypeIs v T/\∀a,v=.ref a->∃ob,s.heap.get? a=some ob/\ob.dict=none:=by
 cases x with
 |str z =>
  obtain⟨t,rfl⟩:=r;cases (show T="str" from ty)
  exact⟨typeIs_str s z t,λ_ e=>nomatch e⟩
 |int i =>
  obtain⟨t,rfl⟩:=r;cases (show T="int" from ty)
  exact⟨typeIs_int s i t,λ_ e=>nomatch e⟩
 |ref p =>
  cases r
  rcases ty with ⟨rfl,P,U⟩ | ⟨rfl,o,Z,R,Y⟩ | ⟨rfl,Z⟩ | ⟨rfl,S,n,Z⟩
  ·obtain⟨its,_,W,_⟩:=I.list U
   refine⟨W.isList.typeIs,λa e=>?_⟩;cases e;obtain⟨o,n,e,c,Y,_⟩:=W;exact⟨o,e,Y⟩
  ·refine⟨⟨o,I.qQ p o Z,R⟩,λa e=>?_⟩
   cases e;exact⟨o,I.qQ _ o Z,Y⟩
  ·have z:∃o,s.heap.get? p=some o/\o.ExactDict:=by
    rcases Z with ⟨Q,Z⟩ | ⟨Q,Z⟩
    ·obtain⟨_,_,_,_,o,_,_,e,ex,_⟩:=I.aC p _ Z
     exact⟨o,e,ex⟩
    ·obtain⟨_,_,_,_,o,_,_,e,ex,_⟩:=I.aC p _ Z
     exact⟨o,e,ex⟩
   obtain⟨o,e,ex⟩:=z;refine⟨⟨o,e,ex.1⟩,λa e2=>?_⟩;cases e2;exact⟨o,e,ex.2.1⟩
  ·obtain⟨o,_,_,_,e,ex,_⟩:=I.aC p _ Z
   refine⟨⟨o,e,ex.1⟩,λa e2=>?_⟩;cases e2;exact⟨o,e,ex.2.1⟩
 |_=>exact YD ty
def VN (K:Ļ) (T:String) (r:V->List V->Hp->VK->Prop) (to:TE) (t:TA):TE:=fun σ H Q=>to σ H λx Z=>Kp K T x Z/\t σ Z λY X=>r x Y X Q
variable {o e:ņ} {es:List ņ} {to:TE} {t:TA} {name:Str} {apos cY:Pos} {T id:String} {r:V->List V->Hp->VK->Prop}
def Tw (pa:PlainAttrs T) (slot:Slot T name id) (VO:typeOf (.builtin id)=pure (.type "method_descriptor")) (hm:VM X id r) (ho:PE X o to) (ha:PA X (e::es) t)
  (AX:attributeBase o name X.env (Ž o X.env)=Ž o X.env:=by rfl)
  (BC:((Yt cY (Ý (e::es) X.env)).all (λx=>!x.1)&&(backToKw cY (keywordEach [] X.env)).all (λx=>x.1.isSome)
   && decide ((e::es).length+([]:List Keyword).length+(if ([]:List Keyword).isEmpty then 0 else 1)<30))=true:=by rfl)
  (AY:(apos.endLine==cY.line)=true:=by rfl) (hs:Ý (e::es) X.env=(false,Ž e X.env)::Ý es X.env:=by rfl) (Au:(Yt cY (Ý es X.env)).any (·.1)=false:=by rfl) :
  PE X (.Call (.Attribute o name apos) (e::es) [] cY) (VN X.K T r to t):=by
 intro Z s σ H Q I h;refine wpAny_Call_method_late AX BC AY rfl (aJ (ho Z s σ H _ I h) λv U ⟨x,S,Y,W,ty,R⟩=>?_);obtain⟨P,O⟩:=RK Y W ty;refine⟨T,id,pa,slot,VO,P,O,?_⟩;have V:=ha cY Z U σ S _ Y R;rw[hs] at V |-
 refine Calls.callWith_builtin (by show (false||(Yt cY (Ý es X.env)).any (·.1))=false;rw[Au]<;>rfl) (Calls.evalArgs_plain ?_)
 exact aJ V λN M ⟨L,J,G,F,E⟩=>hm Z M σ J x L v N Q G W F E
end
def VP (X:Cx) (id:String) (r:V->List V->Hp->VK->Prop):Prop :=
 ∀(Z:List (à×Obj)) (s:Æ) (σ:St) (H:Hp) (x:V) (Y:List V) (v:Ê) (W:List Ê) (Q:VK),Inv X Z σ H s->RelV x v->Vals Y W->r x Y H Q ->
  Ú (î X.prog X.w) X.A (call (.builtin id) (v::W)) (EP X Z σ Q) X.xe s
def Vals.one:∀{x:V} {us:List Ê},Vals [x] us->∃u,us=[u]/\RelV x u
 |_,_,.cons r .nil=>⟨_,rfl,r⟩
theorem Vals.rep (h:Vals xs us):∀k:Nat,Vals (Ï k xs).flatten (Ï k us).flatten
 |0=>.nil
 |k+1=>by
  rw[Ŋ,Ŋ,Ŷ,Ŷ];exact Vals.append h (Vals.rep h k)
theorem foldl_rep (its:List Ê):∀(k:Nat) (acc:List Ê),
  List.foldl (λx1 x2=>x1++x2) acc.toArray (Ï k its.toArray)=(acc++(Ï k its).flatten).toArray
 |0,acc=>by simp
 |k+1,acc=>by
  have e:acc.toArray++its.toArray=(acc++its).toArray:=by simp
  have e2:(acc++its)++(Ï k its).flatten=acc++(Ï (k+1) its).flatten:=by
   rw[Ŋ,Ŷ,ĕ]
  rw[<- e2,<- foldl_rep its k (acc++its),<- e,Ŋ,List.foldl_cons]
section
variable {X:Cx} {π:List (à×Obj)} {σ:St} {H:Hp} {s:Æ} {l b:à} {xs ys zs:List V}
def Inv.U2 {its its':List Ê} {n:Nat} {f:Array Ê->Array Ê} {t':Nat} (I:Inv X π σ H s) (hH:H l=some (.lst xs))
  (e:s.heap.get? l=some { cls:=.type "list",data:=.seq its.toArray n }) (hf:f its.toArray=its'.toArray) (hv:Vals ys its') (hz:ys.length<=Û) :
  Inv X π σ (upd H l (.lst ys)) { s with heap:=s.heap.update l (ŗ f),toks:=t' }:=by
 have q:=PySem.IsL.update e f;rw[hf] at q;refine I.write (x:=l) (e:=l) (by rw[hH];exact trivial) (.inl rfl) (λW u Z Y=>(Yr s.heap (ŗ f) (ų Z)).trans Y) ⟨_,q⟩ ?_;exact⟨hz,its',_,hv,q⟩
def Inv.JR (I:Inv X π σ H s) (hv:Vals ys its) (hz:ys.length<=Û) :
  Inv X π σ (upd H s.heap.objs.size (.lst ys)) { s with heap:=s.heap.push { cls:=.type "list",data:=.seq its.toArray },toks:=t' } :=
 I.laid (λ_ _ q=>Á _ q) (aal _) ⟨hz,its,0,hv,Ì _ rfl⟩
theorem Inv.fresh (I:Inv X π σ H s):H s.heap.objs.size=none:=I.aC.fresh (aal _)
def Inv.xy (I:Inv X π σ H s) (hH:H l=some (.lst xs)):xs.length<=Û/\∃(its:List Ê) (n:Nat),Vals xs its/\xs.length=its.length/\s.heap.get? l=some { cls:=.type "list",data:=.seq its.toArray n }:=by
 obtain⟨z,its,n,r,e⟩:=I.aC l _ hH;exact⟨z,its,n,r,r.length,e⟩
def Og (h:n<=Û):Y9 n=false:=by
 unfold Y9;exact ñ (by omega)
end
section
variable {X:Cx}
def PZ:V->List V->Hp->VK->Prop:=λx Y H Q=>∃l Z y,x=.ref l/\Y=[y]/\H l=some (.lst Z)/\Z.length<Û/\Q .au (upd H l (.lst (Z++[y])))
def Ng:VP X "list.append" PZ:=by
 intro U s σ H x T v S Q I Y W h;obtain⟨l,R,y,rfl,rfl,Z,P,q⟩:=h;cases Y;obtain⟨u,rfl,V⟩:=W.one;obtain⟨z,its,n,r,O,e⟩:=I.xy Z;refine call_meets F.slot_list_append ⟨_,e,rfl⟩ F.entry_list_append (F.args_list_append_2 _ _) (PySem.list_append l its.toArray n u (by rw[Ô];omega)) ⟨e,?_⟩;refine⟨.au,_,I.U2 (its':=its++[u]) Z e (by simp) (r.append (.cons V .nil)) ?_,rfl,q⟩;rw[í,Ũ];omega
def U3:R2:=λx y H Q=>∃l b Z zs,x=.ref l/\y=.ref b/\H l=some (.lst Z)/\H b=some (.lst zs)/\Z.length+zs.length<=Û/\∀p,H p=none->Q (.ref p) (upd H p (.lst (Z++zs)))
def RL:bh X (Ō .Add) U3:=by
 intro R s σ H x y v u Q I Y W h;obtain⟨l,b,O,zs,rfl,rfl,V,U,N,q⟩:=h;cases Y;cases W;obtain⟨z,its,n,r,M,e⟩:=I.xy V;obtain⟨L,Z,K,T,J,e2⟩:=I.xy U;refine PySem.P.add_list e e2 ?_ (by rw[Ô,Ô];omega);have S:its.toArray++Z.toArray=(its++Z).toArray:=by simp
 rw[S];exact⟨.ref _,_,I.JR (t':=s.toks) (r.append T) (by rw[í];omega),rfl,q _ I.fresh⟩
def U4:R2:=λx y H Q=>∃l k Z,x=.ref l/\y=.int k/\H l=some (.lst Z)/\-(2 ^ 63)<=k/\k<2 ^ 63/\Z.length*k.toNat<=Û /\
 ∀p,H p=none->Q (.ref p) (upd H p (.lst (Ï k.toNat Z).flatten))
def len_rep {α:Type} (xs:List α) (k:Nat):(Ï k xs).flatten.length=k*xs.length:=by
 induction k with
 |zero=>simp
 |succ k ih=>rw[Ŋ,Ŷ,í,ih,Nat.succ_mul,Nat.add_comm]
def RM:bh X (Ō .Mult) U4:=by
 intro D s σ H x y v u Q I S R h;obtain⟨l,k,C,rfl,rfl,P,O,N,V,q⟩:=h;cases S;obtain⟨t,rfl⟩:=R;obtain⟨z,its,n,r,M,e⟩:=I.xy P;have Z:its.toArray.size*k.toNat<=Û:=by rw[Ô,<- M];exact V
 have L:¬ its.toArray.size*k.toNat > (2 ^ 63-1) / 8:=by
  have:(Û:Nat)<=(2 ^ 63-1) / 8:=by decide
  omega
 have K:¬ (!Builtin.List.listFitsIndex k)=true:=by
  rw[fitsIndex_both O N];exact Ö
 have J:¬ Y9 (its.toArray.size*k.toNat)=true:=by
  rw[Og Z];exact Ö
 have G:List.foldl (λY W=>Y++W) #[] (Ï (if its.toArray.isEmpty=true then 0 else k.toNat) its.toArray)=(Ï k.toNat its).flatten.toArray:=by
  have f0:∀m:Nat,List.foldl (λY W=>Y++W) #[] (Ï m its.toArray)=(Ï m its).flatten.toArray:=λm=>by
   have:=foldl_rep its m [];rw[Į] at this;exact this
  rw[f0]
  cases its with
  |nil=>simp
  |cons a B=>rw[ð (by simp)]
 refine wpAny_binaryOp_repeat_ref (T:="list") (U:="int") (by decide) ⟨_,e,rfl⟩ (λE=>typeIs_int E k t) noFill_list_mul F.fills_int_mul Z0 repeat_list F.slot_int_index.lookup
  (call_meets Z0 (typeIs_int s k t) F.entry_int_rmul (F.args_int_rmul_2 _ _) (int___rmul___int_list k t l its.toArray n)
   ⟨e,rfl,⟨_,e,rfl⟩,call_meets F.slot_list_mul ⟨_,e,rfl⟩ F.entry_list_mul (F.args_list_mul_2 _ _) (AutoListH.list___mul___list_int_3 l its.toArray n k t K L J) ⟨e,?_⟩⟩)
 rw[G];exact⟨.ref _,_,I.JR (t':=s.toks) (r.rep k.toNat) (by rw[len_rep,Nat.mul_comm];exact V),rfl,q _ I.fresh⟩
end
section
variable {prog:ô} {w:Ĉ} {A:Ă} {E:Ê->Æ->Prop} {s:Æ}
set_option maxRecDepth 100000 in
end
section
variable {X:Cx}
end
end L2
namespace Kq
open PySem PySem.W PySem.Calls PyProof.Rows
def Ln:∀(ns:List Int) (vs:List Ê),WellAll P h vs (ns.map WData.int)->Zx vs ns:=by
 intro ns
 induction ns with
 |nil =>
  intro vs w;rw[ĵ] at w;cases w;exact .nil
 |cons n ns ih =>
  intro vs w;rw[Þ] at w
  cases w with
  |cons a b =>
   cases a;exact .cons _ _ (ih _ b)
def Nh {l:OpenLaw} {n:Nat} (hn:l.most=some n) {P:Params} {h:ō} {args:List WData} {vals:List Ê}
  (xB:l.row.toRowW.claim.pre args=true) (Cu:WellAll P h vals args) :
  ∃a vs ns,vals=[ħ a]/\args=[WData.list (ns.map WData.int)]/\h.get? a=some { cls:=.type "list",data:=.seq vs.toArray }/\Zx vs ns/\ns.length<=n:=by
 have V:WShape.hasAll [] args [.list .int]=true:=(pre_splitW xB).1;have W:l.pre.holds [] { args:=args }=true:=(pre_splitW xB).2;obtain⟨d,r,rfl,U,T⟩:=hasAllW_cons V;obtain rfl:=hasAllW_nil T;obtain⟨L,rfl,S⟩:=hasW_list U;obtain⟨ns,rfl⟩:=items_int S;have Z:ns.length<=n:=by
  unfold OpenLaw.pre at W;have Y:(WTm.not (.lt (.lit (.int (n:Int))) (.len (.arg 0)))).holds [] { args:=[.list (ns.map .int)] }=true:=by
   have Y:=(holds_andW W).1;rw[hn] at Y;exact Y
  have X:=condW_of Y (w_not (w_lt w_lit (w_len_list (w_arg rfl))));rw[Ä] at X;refine ς λq=>?_;have R:(n:Int)<((ns.length:Nat):Int):=by omega
  first
   |(rw[ß R] at X;exact absurd X (by decide))
   |(simp at X;omega)
 cases Cu with
 |cons Q O =>
  cases O
  cases Q with
  |list N M=>exact⟨_,_,ns,rfl,rfl,N,Ln ns _ M,Z⟩
def Ni (l:OpenLaw) (args:List WData):l.row.toRowW.claim.post args (.bool true) args=true :=
 postW_of (r:=l.row.toRowW) (X:=(true==true))
  (show WShape.has [] (.bool true) .bool=true by first|rfl|decide|simp[WShape.has,WShape.arms,WShape.armsAll])
  (show (WTm.eq .res (.lit (.bool true))).value [] { args:=args,res:=some (.bool true),after:=args }=some (.bool (true==true)) from w_eq_bool (w_res rfl) w_lit) rfl
def Mb {l:OpenLaw} {n:Nat} {q:ô} {loose:List Str} {XP:(Str->Option Ê)->ō->Prop} {YP:Ĉ->ō->Prop} {d:DefRec}
  (hn:l.most=some n) (uO:d.params.defaults=[])
  (call:∀(w:Ĉ) (cH ba:Æ) (mg mb:Str->Option Ê) (fa:à) (o:Obj) (pm cd doc:Ê) (a:à) (vs:List Ê) (ns:List Int),
   Ground q loose [] XP w cH mg mb ba.heap->YP w ba.heap ->
   ba.heap.get? fa=some o->o.data=.func (docDef d.name d.params d.body d.scope pm cd doc)->ba.heap.CodeRec cd d.name->mg d.name=some (.ref fa) ->
   ba.heap.get? a=some { cls:=.type "list",data:=.seq vs.toArray }->Zx vs ns->ns.length<=n->ba.gens=#[] ->
   YM (î l.prog w) callerA (.call (.ref fa) ⟨[.ref a],[]⟩) (λr s'=>r=.ok (.ret (.bool true))/\OldK ba.heap s'.heap/\s'.os=ba.os/\AllBare s'.gens) ba) :
  WalkO q loose XP YP l.row.toRowW d [] (λf vs=>PySem.call f vs):=by
 intro w cH ba mg mb G Y fa o pm cd doc W kV V U T X S R args vals as Q I H P F;obtain rfl:W=.none:=Dflts.none X uO;obtain rfl:kV=.none:=Dflts.noKw X;obtain⟨a,vs,ns,rfl,rfl,O,hints,Z⟩:=Nh hn Q P;refine enter_call (Ŕ (call w cH ba mg mb fa o pm cd doc a vs ns G Y V (fd_plain U) T S O hints Z R) λr s' N=>?_);obtain⟨rfl,M,L,K⟩:=N
 exact⟨.inl ⟨.bool true,.bool true,[],rfl,λ_=>rfl,.bool true,Ni l _,λ_=>⟨List.Pairwise.nil,λ_ J=>(nomatch J)⟩⟩,M,L,K⟩
section
variable {prog:ô} {w:Ĉ} {A:Ă} {E:Ê->Æ->Prop} {s:Æ} {K:Ļ}
noncomputable def ledger (h:ō) (L d:à):List (à×Obj):=(Ó h.objs.size).filterMap λa=>if a=L\/a=d then none else (h.get? a).map λo=>(a,o)
end
end Kq
namespace L2
open PySem PySem.Spec PyProof.Rows
theorem Ff:∀{vs:List Ê} {ns:List Int},Zx vs ns->Vals (ns.map V.int) vs
 |_,_,.nil=>.nil
 |_,_,.cons n t h=>.cons ⟨t,rfl⟩ (Ff h)
def BE (H:Hp):Prop:=∀b,H b=none\/∃o Z,H b=some (.bE o (.lst Z))
def Oh {P:ô} {w:Ĉ} {K:Ļ} {mg mb:Str->Option Ê} {CX:jr} {k:Nat} {fa a:à} {fd:ű} {x:Str} {sp:Sp} {ba:Æ} {vs:List Ê} {ns:List Int}
  (KX:K.In ba.heap) (qT:ba.heap.Ns ó mg) (hb:ba.heap.Ns builtinsNs mb) (VQ:∀x:Str,x≠"__name__"->mb x=ā x) (U7:ba.heap.NoLimit) (hg:ba.gens=#[])
  (ha:ba.heap.get? a=some { cls:=.type "list",data:=.seq vs.toArray }) (hi:Zx vs ns) (hl:ns.length<=Û) (hr:bY k callerA)
  (F:∀base:ō,K.In base->base.Ns ó mg->fT P w K mg base CX k fa fd [x] sp) (Tz:∀(s:Æ) (u:Ê),BindsTo s fd ⟨[u],[]⟩ [(x,u)])
  (m9:∀H:Hp,BE H->bo K H a (ns.map V.int)->sp [.ref a] H (λv _=>v=.bl true) λ_ _ _=>False)
  (Cv:∀H e s',CX [] H ba (λ_ _ _=>False) e s'->False) :
  YM (î P w) callerA (.call (.ref fa) ⟨[.ref a],[]⟩) (λr s'=>r=.ok (.ret (.bool true))/\OldK ba.heap s'.heap/\s'.os=ba.os/\AllBare s'.gens) ba:=by
 have S:=Ff hi;have L:=hi.length;have core:∀H:Hp,BE H->bo K H a (ns.map V.int)->bZ P w H ba.heap->(∀b,H b≠none->b=a)->(H a≠none->K.lookup a=none) ->
   YM (î P w) callerA (.call (.ref fa) ⟨[.ref a],[]⟩) (λr s'=>r=.ok (.ret (.bool true))/\OldK ba.heap s'.heap/\s'.os=ba.os/\AllBare s'.gens) ba:=by
  intro H R J Q O I;have N:∀{b:à} {o:Obj},ba.heap.get? b=some o->H b=none->(lO ba.heap H).get? b=some o:=λe n=>Oa e n;have G:∀{b:à} {o:Obj} {Z:Array aac} {Y:Nat},ba.heap.get? b=some o->o.data=.dict Z Y->H b=none:=λ{b o Z Y} e d=>by
   cases q:H b with
   |none=>rfl
   |some u =>
    have U:b=a:=O b (by rw[q];simp);subst U;rw[ha] at e;cases e;have E:Data.seq vs.toArray _=Data.dict Z Y:=d;cases E
  have W:∀{b:à} {m:Str->Option Ê},ba.heap.Ns b m->(lO ba.heap H).Ns b m:=λ{b m} ⟨o,Z,Y,e,d,r⟩=>⟨o,Z,Y,N e (G e d),d,r⟩;have M:K.In (lO ba.heap H):=λb o e=>N (KX b o e) (by
   cases q:H b with
   |none=>rfl
   |some u =>
    have U:b=a:=O b (by rw[q];simp);subst U;rw[I (by rw[q];simp)] at e;cases e)
  have D:Mod K mg (lO ba.heap H):=⟨M,W qT,⟨mb,W hb,VQ⟩,let ⟨C,B,A⟩:=U7;⟨C,W B,A⟩⟩
  have y:xx P w K mg (lO ba.heap H) callerA [] ba H:=⟨rfl,D,λb o e=>Pu e,Nat.le_of_eq (M7 _ _),trivial,λb hb=>absurd (show b∈([]:List à) from hb) (by simp),Q,.of_eq hg⟩;refine Ŕ ((F _ M (W qT)).run callerA [] ba H ⟨[.ref a],[]⟩ [.ref a] [.ref a] _ _ hr y (Tz ba (.ref a)) (.cons rfl .nil) (m9 H R J)) λr s' h=>?_
  cases r with
  |error e=>exact(Cv H e s' h).elim
  |ok t =>
   cases t with
   |next=>exact YD h
   |brk=>exact YD h
   |cont=>exact YD h
   |ret u =>
    obtain⟨v,f,os,bare,un,p,l,q⟩:=h;have j:v=.bl true:=q;subst j;obtain rfl:u=Value.bool true:=l;refine⟨rfl,OldK.of_keep λb o e=>?_,os,bare⟩
    cases q:H b with
    |none=>exact un.keep b o e q (by intro z;exact absurd (show b∈([]:List à) from z) (by simp)) (by simp)
    |some u =>
     rcases R b with z | ⟨i,c,z⟩
     ·rw[q] at z;cases z
     ·have g:=un.iJ b i _ z
      obtain⟨e1,_⟩:=Q b _ z;obtain⟨e2,_⟩:=p b _ g;rw[e] at e1;cases e1;exact e2
 cases T:K.lookup a with
 |some o =>
  have e:=KX a o T;rw[ha] at e;cases e;refine core (λ_=>none) (λ_=>.inl rfl) (.inr ⟨_,vs.toArray,_,T,rfl,rfl,rfl,by rw[Ô,L];exact hl,by simpa using S⟩) (λb u z=>by have X:(none:Option HO)=some u:=z;cases X) (λb z=>absurd rfl z) λz=>absurd rfl z
 |none =>
  refine core (λb=>if b=a then some (.bE { cls:=.type "list",data:=.seq vs.toArray } (.lst (ns.map V.int))) else none) (λb=>?_) (.inl (.inr ⟨{ cls:=.type "list",data:=.seq vs.toArray },é rfl⟩)) (λb u z=>?_) (λb z=>?_) λ_=>T
  ·by_cases hb:b=a
   ·exact .inr ⟨_,_,é hb⟩
   ·exact .inl (ð hb)
  ·by_cases hb:b=a
   ·have X:=(é hb).symm.trans z
    cases X;subst hb;exact⟨ha,by rw[Ä];exact hl,vs,_,S,ha⟩
   ·have X:=(ð hb).symm.trans z
    cases X
  ·by_cases hb:b=a
   ·exact hb
   ·exact absurd (ð hb) z
noncomputable abbrev X6 {K:Ļ} {h:ō} (_:K.In h):Ļ:=K
def P0 {l:PySem.W.OpenLaw} {n k:Nat} {q:ô} {loose:List Str} {XP:(Str->Option Ê)->ō->Prop} {YP:Ĉ->ō->Prop} {d:DefRec} {K:Params->Ļ} {CX:Ĉ->jr} {sp:Ĉ->Sp} {x:Str}
  (hn:l.most=some n) (VR:n<=Û) (uO:d.params.defaults=[]) (hr:bY k callerA)
  (hY:∀(w:Ĉ) (h:ō),YP w h->(K w.params).In h)
  (F:∀(w:Ĉ) (mg:Str->Option Ê) (fa:à) (h:ō),(K w.params).In h->h.Ns ó mg->mg d.name=some (.ref fa) ->
   ∃fd:ű,(∀(s:Æ) (u:Ê),BindsTo s fd ⟨[u],[]⟩ [(x,u)]) /\
    ∀base:ō,(K w.params).In base->base.Ns ó mg->fT l.prog w (K w.params) mg base (CX w) k fa fd [x] (sp w))
  (m9:∀(w:Ĉ) (H:Hp) (a:à) (ns:List Int),ns.length<=n->BE H->bo (K w.params) H a (ns.map V.int)->sp w [.ref a] H (λv _=>v=.bl true) λ_ _ _=>False)
  (Cv:∀(w:Ĉ) (H:Hp) (s:Æ) (e:Ê) (s':Æ),CX w [] H s (λ_ _ _=>False) e s'->False) :
  PySem.W.WalkO q loose XP YP l.row.toRowW d [] (λf vs=>PySem.call f vs):=by
 refine Kq.Mb hn uO λw L U mg J fa o pm cd doc a vs ns G Y I E D S R hints Z Q=>?_;have X:=hY w _ Y;obtain⟨fd,P,O⟩:=F w mg fa _ X G.T.g S;exact Oh X G.T.g G.T.b G.T.builtins G.T.nolimit Q R hints (è Z VR) hr O P (λH N M=>m9 w H a ns Z N M) λH e s'=>Cv w H U e s'
noncomputable def nP (s:Stmt):Arguments:=match s with
 | .FunctionDef _ a _ _ _ _ _ _ _ _=>a
 |_=>{ posonlyargs:=[],args:=[],vararg:=none,kwonlyargs:=[],kw_defaults:=[],kwarg:=none,defaults:=[] }
noncomputable def kq (s:Stmt):List Stmt:=match s with
 | .FunctionDef _ _ b _ _ _ _ _ _ _=>b
 |_=>[]
noncomputable def gp (s:Stmt):ZF:=match s with
 | .FunctionDef _ _ _ _ _ _ sc _ _ _=>sc
 |_=>{ kind:=.function,names:=[],isGenerator:=false,isCoroutine:=false }
abbrev iz:jr:=λ_ _ _ _ _ _=>False
abbrev E0:XK:=λ_ _ _=>False
def TC:Passes iz X E0:=λ_ _ _ _ _ _ _ h=>h.elim
structure oO (K:Ļ) (x qual:Str) (st:Stmt) (f:à) (fd:ű):Prop where
 ex:∃(oc:Ê) (od:Option à) (kV doc pm:Ê) (an:Option à) (bQ ct:Ê) (m8:Array (Option Ê)),
  fd=ſ x qual (nP st) (kq st) (gp st) .none kV doc pm an bQ ct/\K.lookup f=some ⟨oc,od,.func fd,m8⟩/\ZE K bQ qual=true
 kp:Ů K (.ref f)=true
section
variable {P:ô} {w:Ĉ} {K:Ļ} {mg:Str->Option Ê} {base:ō}
def oO.ok {x qual:Str} {st:Stmt} {f:à} {fd:ű} {N ps:List Str} {k:Nat} {sp:Sp} (F:oO K x qual st f fd) (S:rW N ps (gp st)) (len:∀vs H Q E,sp vs H Q E->vs.length=ps.length)
  (AW:∀(bQ:Ê) (A:Ă) (outer:List Env) (s:Æ) (H:Hp) (vs:List V) (Q:VK) (E:XK),bY k (A.deeper (envOfC qual (gp st) s.heap.objs.size f bQ))->sp vs H Q E ->
   ∃t,de (mS iz P w K mg base N qual (gp st) f bQ A outer s H E).qR (kq st) t/\t { nx:=λ_ H'=>Q .au H',rt:=Q } (start N vs) H):fT P w K mg base iz (k+1) f fd ps sp:=by
 obtain⟨W,U,kV,doc,pm,an,bQ,T,R,rfl,lk,Z⟩:=F.ex;refine Tq lk Z S len λA outer s H vs Q E Y X=>?_;obtain⟨t,h,q⟩:=AW bQ A outer s H vs Q E Y X;exact⟨t,h.qR,q⟩
def oO.binds {x qual:Str} {st:Stmt} {f:à} {fd:ű} {ps:List Str} (F:oO K x qual st f fd)
  (h:∀(kV doc pm:Ê) (an:Option à) (bQ ct:Ê) (us:List Ê),us.length=ps.length->bindArgs (ſ x qual (nP st) (kq st) (gp st) .none kV doc pm an bQ ct) ⟨us,[]⟩=pure (ps.zip us)):Binds K fd ps []:=by
 obtain⟨Z,Y,kV,doc,pm,an,bQ,ct,X,rfl,lk,W⟩:=F.ex;exact .all (h kV doc pm an bQ ct)
def HI {x qual:Str} {st:Stmt} {f:à} {oc:Ê} {od an:Option à} {m8:Array (Option Ê)} {kV doc pm bQ ct:Ê} (l:K.lookup f=some ⟨oc,od,.func (ſ x qual (nP st) (kq st) (gp st) .none kV doc pm an bQ ct),m8⟩)
  (c:ZE K bQ qual=true) (k:Ů K (.ref f)=true):oO K x qual st f (ſ x qual (nP st) (kq st) (gp st) .none kV doc pm an bQ ct):=⟨⟨oc,od,kV,doc,pm,an,bQ,ct,m8,rfl,l,c⟩,k⟩
end
section
variable {X:Cx}
end
def jP (H H':Hp):Prop:=∀b o,H b=some o->H' b=some o
def jP.refl (H:Hp):jP H H:=λ_ _ h=>h
def Mz (J:Nat->Æ->Prop)
 (turn:∀n s,J n s->Ú (î P w) A (ž fZ) (λr s1=>match r with
   |none=>R (.ok .next) s1
   |some v=>Ú (î P w) A (Ř tg fZ v) (λ_ s2=>Ú (î P w) A (ZO tg ce v) (λ_ s3 =>
     Ú (î P w) A (forIn tests true λc r=>if r=true then do let ok <- isTrue c ce (Ž c ce);pure (ř ok) else pure (ř r)) (λok s4 =>
      if ok=true then Ú (î P w) A (Ž el ce) (λy s5=>Ú (î P w) A (call (.builtin "list.append") [av,y]) (λ_ s6=>∃m,m<n/\J m s6) (λ_ _=>False) s5) (λ_ _=>False) s4
      else ∃m,m<n/\J m s4) (λ_ _=>False) s3) (λ_ _=>False) s2) (λ_ _=>False) s1) (λ_ _=>False) s)
 (n:Nat) (h:J n s):YM (î P w) A (.compLoop (.ListComp el [⟨tg,src,tests,0⟩] sc ps) 0 fZ av ce) R s:=by
 refine codeAny_loop rfl J (λn s X=>?_) n h
 show Ú _ A ((compTurn (.ListComp el [⟨tg,src,tests,0⟩] sc ps) 0 fZ av ce).onRaise (λx=>do noteFrame x ce;theTreesLotGoes x)) _ _ s
 refine wpAny_noted ?_;rw[compTurn_list];refine À (δ (À (ň (turn n s X) (λr s1 Z=>?_) λ_ _ z=>z.elim)))
 cases r with
 |none=>exact Â Z
 |some v =>
  refine À (ň Z (λ_ s2 W=>?_) λ_ _ z=>z.elim);refine À (ň W (λ_ s3 V=>À (ň V (λok s4 Y=>?_) λ_ _ z=>z.elim)) λ_ _ z=>z.elim)
  cases ok with
  |false=>exact Â ⟨rfl,Y⟩
  |true =>
   exact À (À (ň Y (λy s5 U=>À (ň U (λ_ s6 T=>Â (Â ⟨rfl,T⟩)) λ_ _ z=>z.elim)) λ_ _ z=>z.elim))
theorem zg (env:Env):∀(l:List (Str×YE)) (acc:List (Str×à)),(∀n,(n,NameKind.free)∈l->∃c,env.cells.lookup n=some c) ->
  ∃cl,(forIn l acc (λ(p:Str×YE) (cs:List (Str×à))=>(do
   if (p.2==NameKind.free)=true then do let c <- cellOf env p.1;pure (ř ((p.1,c)::cs)) else pure (ř cs):Sem (ForInStep (List (Str×à))))))=pure cl /\
   ∀n c,cl.lookup n=some c↔(((n,NameKind.free)∈l/\env.cells.lookup n=some c)\/((n,NameKind.free)∉l/\acc.lookup n=some c))
 | [],acc,_=>⟨acc,rfl,λn c=>by simp⟩
 |(x,k)::r,acc,h=>by
  rw[List.forIn_cons]
  cases Y:(k==NameKind.free) with
  |false =>
   have U:k≠.free:=by intro e;rw[e] at Y;cases Y
   obtain⟨cl,e,q⟩:=zg env r acc λn X=>h n (Ð _ X);refine⟨cl,?_,λn c=>?_⟩
   ·simp only[Ã,ã]
    exact e
   ·rw[q n c]
    have:(n,NameKind.free)∈(x,k)::r↔(n,NameKind.free)∈r:=by
     constructor
     ·intro Z
      rcases Ò.mp Z with z|z
      ·injection z with _ T
       exact absurd T.symm U
      ·exact z
     ·exact Ð _
    rw[this]
  |true =>
   have S:k=.free:=by cases k<;>first|rfl|cases Y
   subst S;obtain⟨R,W⟩:=h x Î;obtain⟨cl,e,q⟩:=zg env r ((x,R)::acc) λn X=>h n (Ð _ X);refine⟨cl,?_,λn c=>?_⟩
   ·simp only[ø,cellOf,W]
    exact e
   ·rw[q n c]
    by_cases V:n=x
    ·subst V
     constructor
     ·rintro (⟨_,z⟩ | ⟨_,z⟩)
      ·exact .inl ⟨Î,z⟩
      ·rw[Ň,Ĝ] at z
       exact .inl ⟨Î,W.trans z⟩
     ·rintro (⟨_,z⟩ | ⟨z,_⟩)
      ·by_cases Z:(n,NameKind.free)∈r
       ·exact .inl ⟨Z,z⟩
       ·refine .inr ⟨Z,?_⟩
        rw[Ň,Ĝ];exact W.symm.trans z
      ·exact absurd Î z
    ·have:(n,NameKind.free)∈(x,NameKind.free)::r↔(n,NameKind.free)∈r:=by
      constructor
      ·intro Z
       rcases Ò.mp Z with z|z
       ·injection z with Q _
        exact absurd Q V
       ·exact z
      ·exact Ð _
     rw[this,Ň,beq_false_of_ne V]
def HJ (h:∀n,(n,NameKind.free)∈sc.names->∃c,env.cells.lookup n=some c) :
  ∃cl,closureFor sc env=pure cl/\∀n c,cl.lookup n=some c↔((n,NameKind.free)∈sc.names/\env.cells.lookup n=some c):=by
 obtain⟨cl,e,q⟩:=zg env sc.names [] h;refine⟨cl,?_,λn c=>?_⟩
 ·unfold closureFor
  exact(ļ (λz:Sem (List (Str×à))=>z >>= λr=>pure r) e)
 ·rw[q n c]
  simp
theorem FW (f:Str->YE->YE) (x:Str):∀l:List (Str×YE),(l.map λp=>(p.1,f p.1 p.2)).lookup x=(l.lookup x).map (f x)
 | []=>rfl
 |(n,k)::r=>by
  rw[Þ,Ň,Ň]
  cases h:x==n with
  |true =>
   have e:x=n:=by simpa using h
   subst e;rfl
  |false=>exact FW f x r
def vz (sc:ZF) (env:Env) (x:Str):(relabel sc env).names.lookup x=(sc.names.lookup x).map λk=>if (k==NameKind.free&&env.scope.kind==.function&&env.kindOf x==some .cell)=true then NameKind.cell else k:=by
 rw[<- FW (λx k=>if (k==NameKind.free&&env.scope.kind==.function&&env.kindOf x==some .cell)=true then NameKind.cell else k)]
 show List.lookup x (sc.names.map _)=_;congr 1;apply θ;rintro ⟨n,k⟩ _;dsimp only
 split<;>rfl
abbrev df (X:Cx) (N:List Str) (sc:ZF) (cl:List (Str×à)) (C:à) (s:Æ) (H:Hp) (ex:List à) (pn:List (à×Obj)):Cx where
 prog:=X.prog
 w:=X.w
 K:=X.K
 mg:=X.mg
 base:=X.base
 A:=X.A
 N:=N
 cH:=s
 tK:=H
 env:=compEnvC sc cl C X.env
 outer:=X.stack
 stack:=X.stack
 ex:=ex
 fn:=λ_=>false
 calm:=X.calm
 pn:=pn
 xe:=λ_ _=>False
structure sC (X:Cx) (sc:ZF) (N:List Str) (nt:Nat) (cap:List Nat):Prop where
 kind:sc.kind=.function
 HK:∀x∈sc.names,x.2≠.cell
 names:∀x∈sc.names,x.2=.local->sc.names.lookup x.1=some .local
 frees:∀x∈sc.names,x.2=.free->sc.names.lookup x.1=some .free/\(X.env.scope.names.lookup x.1=some .cell\/X.env.scope.names.lookup x.1=some .free)
 len:N.length=nt+cap.length
 BF:∀(k:Nat) j,cap[k]?=some j->∃x,X.N[j]?=some x/\N[nt+k]?=some x/\(x,NameKind.free)∈sc.names
def kB (nt:Nat) (cap:List Nat) (σ:St):St:=Ï nt none++cap.map λj=>(σ[j]?).getD none
def PF (X:Cx) (tests:List ņ) (t:TT):Prop :=
 ∀(Z:List (à×Obj)) (s:Æ) (σ:St) (H:Hp) (Q:Bool->Hp->Prop),Inv X Z σ H s->t σ H Q ->
  Ú (î X.prog X.w) X.A (forIn tests true λc r=>if r=true then do let ok <- isTrue c X.env (Ž c X.env);pure (ř ok) else pure (ř r)) (TP X Z σ Q) X.xe s
def Va:TT:=λ_ H Q=>Q true H
def RN:PF X [] Va:=λ_ _ _ H _ I h=>wpAny_tests_nil ⟨H,I,h⟩
def RO (h:PT X c t):PF X [c] t:=λZ s σ H Q I hw=>wpAny_tests_one (h Z s σ H Q I hw)
def lV (g:TG) (nt:Nat):Prop:=∀(x:V) (o Z:St) (H:Hp) (R:St->Hp->Prop),o.length=nt->g x (o++Z) H R->g x (o++Z) H fun Y W=>(∃X:St,X.length=nt/\Y=X++Z)/\R Y W
def lH (cap:List Nat) (σ:St):St:=cap.map λj=>(σ[j]?).getD none
def Kt (mk:à->List V->HO) (jZ:List V->Prop) (J:It) (nt:Nat) (caps:St) (g:TG) (tf:TT) (te:TE) (H:Hp) (Q:VK):Prop:=∃W:Nat->Nat->List V->Hp->Prop,(∃m,W 0 m [] H) /\
 ∀i m Z Y,W i m Z Y->(J.stop i Y/\jZ Z/\∀D,Y D=none->Q (.ref D) (upd Y D (mk D Z))) \/
  (J.go i Y/\jZ Z/\∃N:List V->Hp->Prop,(∀X U,N X U->∃T,T < m/\W (i+1) T X U) /\
   ∀o x S,o.length=nt->J.uC i Y x S->g x (o++caps) S fun R O=>tf R O λb P=>if b=true then te R P λv M=>N (Z++[v]) M else N Z P)
def CW (J:It) (nt:Nat) (caps:St) (g:TG) (tf:TT) (te:TE) (H:Hp) (Q:VK):Prop:=Kt (λ_ Z=>.lst Z) (λZ=>Z.length<=Û) J nt caps g tf te H Q
def og (wi:TI) (nt:Nat) (cap:List Nat) (g:TG) (tf:TT) (te:TE):TE:=fun σ H Q=>wi σ H λJ Z=>CW J nt (lH cap σ) g tf te Z Q
section
variable {fs ex:List à} {H H':Hp} {h h1 h2:ō} {P:ô} {w:Ĉ}
def Un.adopt {D:à} {o:HO} (u:Un fs ex H H' h h1) (hp:h.objs.size<=D) (hn:H' D=none):Un fs ex H (upd H' D o) h h1 where
 keep:=u.keep
 slot:=u.slot
 free:=λb Y q n X=>by rw[bj (ç (Ë (Ñ q) hp))];exact u.free b Y q n X
 there:=u.there
 jj:=λb Z q=>by rw[bj (dF (u.jj b Z q) hn)];exact u.jj b Z q
 iJ:=λb Y Z q=>by rw[bj (dF (u.iJ b Y Z q) hn)];exact u.iJ b Y Z q
 jL:=λb W q=>by
  obtain⟨more,e⟩:=u.jL b W q;exact⟨more,by rw[bj (dF e hn)];exact e⟩
def Un.but {C:à} (u:Un fs ex H H' h h1) (hp:h.objs.size<=C) (sb:Ĵ C h1 h2):Un fs ex H H' h h2:=by
 have ne:∀b Z,h.get? b=some Z->b≠C:=λb Z q=>ç (Ë (Ñ q) hp);refine⟨λb Z q n X Y=>(sb.2 b (ne b Z q)).trans (u.keep b Z q n X Y),λb Z q n X Y=>?_,u.free,λb Z q Y=>?_,u.jj,u.iJ,u.jL⟩
 ·obtain⟨W,e⟩:=u.slot b Z q n X Y
  exact⟨W,(sb.2 b (ne b Z q)).trans e⟩
 ·obtain⟨V,e⟩:=u.there b Z q Y
  exact⟨V,(sb.2 b (ne b Z q)).trans e⟩
def bZ.but (x:bZ P w H h1) (hn:H C=none) (sb:Ĵ C h1 h2):bZ P w H h2:=λa o e =>
 (x a o e).dB (λb u Z q=>(sb.2 b (by
  rintro rfl
  rcases Z with z|z
  ·subst z;rw[hn] at e;cases e
  ·rw[hn] at z;cases z)).trans q) (λ_ q=>q) λ_ _ q=>q
def bZ.adopt (x:bZ P w H h) (hn:H D=none) (new:cL P w (upd H D o) h D o):bZ P w (upd H D o) h:=λb u e=>by
 by_cases Z:b=D
 ·subst Z;rw[cU] at e;cases e;exact new
 ·rw[bj Z] at e
  exact(x b u e).dB (λc v _ q=>q) (λc q=>by rw[bj (dF q hn)];exact q) λc Y q=>by rw[bj (dF q hn)];exact q
end
section
variable {X:Cx} {sc:ZF} {N:List Str} {nt:Nat} {cap:List Nat} {cl:List (Str×à)} {s:Æ} {h1:ō} {H:Hp} {σ:St} {π:List (à×Obj)} {fp:List à} {C:à} {t':Nat}
def Inv.block (I:Inv X π σ H s) (S:sC X sc N nt cap) (cQ:∀n c,cl.lookup n=some c↔((n,NameKind.free)∈sc.names/\X.env.cells.lookup n=some c)) (hf:∀b∈fp,fk X π H b) (iX:∀b∈fp,b<s.heap.objs.size)
  (hk:∀b o,s.heap.get? b=some o->h1.get? b=some o) (hC:s.heap.objs.size<=C) (qT:∃m,h1.Ns C m):Inv (df X N sc cl C s H fp (X.pn++π)) [] (kB nt cap σ) H { s with heap:=h1,toks:=t' }:=by
 have Q:∀b∈gC X.stack,b∈X.env.locals::X.fs:=I.lC;have g:C∉gC X.stack:=λz=>by
  rcases Ò.mp (I.lC C z) with e|e
  ·exact absurd (Ë I.lt hC) (by rw[e];exact ù _)
  ·exact I.tL hC e
 have M:∀x,(relabel sc X.env).names.lookup x=some .cell\/(relabel sc X.env).names.lookup x=some .free->(x,NameKind.free)∈sc.names:=λx Z=>by
  rw[vz] at Z
  cases e:sc.names.lookup x with
  |none=>rw[e] at Z;rcases Z with z|z<;>cases z
  |some k =>
   have Y:(x,k)∈sc.names:=by
    obtain⟨f,a,e1,_⟩:=List.lookup_eq_some_iff.mp e;rw[e1];simp
   rw[e] at Z
   cases k with
   |free=>exact Y
   |cell=>exact absurd rfl (S.HK _ Y)
   |_=>exfalso;revert Z;simp
 have L:∀x,(x,NameKind.free)∈sc.names->∃c,X.env.cells.lookup x=some c:=λx Z=>I.ok.has x (S.frees _ Z rfl).2;have ok:Cx.Ok (df X N sc cl C s H fp (X.pn++π)):=by
  refine⟨I.ok.mod,?_,I.ok.glob,I.ok.blt,hC,?_,?_,?_,I.ok.hd,I.ok.frames,.inl rfl,?_,I.bs,è I.ok.jo I.sz,?_,?_,I.stack,I.zJ⟩
  ·exact S.kind
  ·intro x y c Z K
   exact I.ok.inj x y c ((cQ x c).mp Z).2 ((cQ y c).mp K).2
  ·intro x Z
   have Y:=M x Z;obtain⟨c,e⟩:=L x Y;exact⟨c,(cQ x c).mpr ⟨Y,e⟩⟩
  ·intro x c Z
   cases Z
  ·intro b W
   refine⟨ç (Ë (iX b W) hC),λx c e=>?_⟩;exact(hf b W).2.2.2.2.1 x c ((cQ x c).mp e).2
  ·intro b o e W
   rcases(hf b W).2.2.2.1 with z|z
   ·exact I.ok.mR b o e z
   ·exact absurd (Ë (Ñ e) (è I.ok.jo z)) (ù _)
  ·intro b W z
   rcases Ò.mp (Q b z) with e|e
   ·exact(hf b W).2.1 e
   ·exact(hf b W).2.2.1 e
 obtain⟨m,Y⟩:=qT;obtain⟨mX,VS,J⟩:=I.loc;refine⟨ok,rfl,I.bare,Un.kept hk,⟨m,Y,λi x v e1 e2 e3=>?_⟩,λx c e=>?_,I.aC.fresh hC,λx c e=>I.je x c ((cQ x c).mp e).2,λp G=>?_,I.aC.kept hk,?_⟩
 ·
  have hi:nt<=i:=by
   apply ς;intro P;have:(kB nt cap σ)[i]?=some none:=by
    unfold kB;rw[Õ (by simpa using P),ī,é P]
   rw[this] at e2;cases e2
  have V:(cap.map λj=>(σ[j]?).getD none)[i-nt]?=some (some v):=by
   have e:=e2;unfold kB at e;rw[æ (by simpa using hi)] at e;simpa using e
  rw[Ü] at V
  cases U:cap[i-nt]? with
  |none=>rw[U] at V;cases V
  |some j =>
   rw[U] at V;have ev:(σ[j]?).getD none=some v:=aam V;have F:σ[j]?=some (some v):=by
    cases q:σ[j]? with
    |none=>rw[q] at ev;cases ev
    |some z=>rw[q] at ev;exact ļ some ev
   obtain⟨y,f1,f2,O⟩:=S.BF _ _ U;rw[Nat.add_sub_cancel' hi] at f2;have E:y=x:=aam (f2.symm.trans e1);subst E;obtain⟨g1,g2⟩:=S.frees _ O rfl;have D:uw X.env.scope y:=.inr g2;obtain⟨u,r,l⟩:=J j y v f1 F D;refine⟨u,r,.inr ⟨?_,?_⟩⟩
   ·show (relabel sc X.env).names.lookup y=some .cell\/(relabel sc X.env).names.lookup y=some .free
    rw[vz,g1];simp only[ŷ];split
    ·exact .inl rfl
    ·exact .inr rfl
   ·rcases l with ⟨k,_⟩ | ⟨_,c,B,A⟩
    ·exfalso
     have w:X.env.scope.names.lookup y=some .local:=k;dsimp only at g2;rw[w] at g2
     rcases g2 with z|z<;>cases z
    ·obtain⟨T,R,hd⟩:=A
     exact⟨c,(cQ y c).mpr ⟨O,B⟩,T,hk _ _ R,hd⟩
 ·obtain⟨v,T,R,hd⟩:=I.cell x c ((cQ x c).mp e).2
  exact⟨v,T,hk _ _ R,hd⟩
 ·have t:p∈X.pn++π:=by simpa using G
  obtain⟨e,n,ne,h,d⟩:=I.pin p t;refine⟨hk _ _ e,n,ç (Ë (Ñ e) hC),λz=>?_,d⟩
  rcases Ò.mp (Q p.1 z) with q|q
  ·exact ne q
  ·exact h q
 ·unfold kB
  rw[í,Yu,Ä];exact S.len.symm
end
section
variable {X:Cx}
end
inductive Kn where
 |au|bl|int|str|tup|lst|bw
 deriving DecidableEq
def qU (K:Ļ) (H:Hp):V->Kn->Prop
 | .au,.au=>True
 | .bl _,.bl=>True
 | .int _,.int=>True
 | .str _,.str=>True
 | .ref a,.tup=>∃Z,aX K H a Z
 | .ref a,.lst=>∃Z,bo K H a Z
 | .ref a,.bw=>∃Y,H a=some (.dK Y)
 |_,_=>False
noncomputable def qD:Kn->String->Bool
 | .int,"int"=>true
 | .bl,"int"=>true
 | .bl,"bool"=>true
 | .str,"str"=>true
 | .tup,"tuple"=>true
 | .lst,"list"=>true
 |_,_=>false
section
variable {X:Cx}
def Inv.sD {π:List (à×Obj)} {σ:St} {H:Hp} {s:Æ} {a:à} {xs:List V} (I:Inv X π σ H s) (h:aX X.K H a xs):∃o,s.heap.get? a=some o/\o.cls=.type "tuple":=by
 obtain⟨its,r,⟨o,e,c,_⟩,_⟩:=I.tuple h;exact⟨o,e,c⟩
def Inv.sE {π:List (à×Obj)} {σ:St} {H:Hp} {s:Æ} {a:à} {xs:List V} (I:Inv X π σ H s) (h:bo X.K H a xs):∃o,s.heap.get? a=some o/\o.cls=.type "list":=by
 obtain⟨its,r,⟨o,n,e,c,_⟩,_⟩:=I.list h;exact⟨o,e,c⟩
def Inv.sF {π:List (à×Obj)} {σ:St} {H:Hp} {s:Æ} {a:à} {ai:List (Key×V)} (I:Inv X π σ H s) (h:H a=some (.dK ai)):∃o,s.heap.get? a=some o/\o.cls=.type "dict":=by
 obtain⟨_,_,W,_,p⟩:=(show cL X.prog X.w H s.heap a (.dK ai) from I.aC a _ h);obtain⟨o,U,T,Z,Y,_⟩:=p;exact⟨o,Z,Y.1⟩
def LM:bP X (.builtin "isinstance") (λxs H Q=>∃x k,xs=[x,.ty "int"]/\qU X.K H x k/\Q (.bl (qD k "int")) H):=by
 intro T s σ H xs S Q I r h;obtain⟨x,k,rfl,Z,q⟩:=h;obtain⟨u,c,rfl,Y,rc⟩:=vals2 r;cases rc
 cases k with
 |au =>
  cases x with
  |au =>
   cases Y;exact IsiPair.NoneType_int ⟨.bl false,H,I.tok _,rfl,q⟩
  |_=>exact Z.elim
 |bl =>
  cases x with
  |bl b =>
   cases Y;exact IsiPair.bool_int ⟨.bl true,H,I,rfl,q⟩
  |_=>exact Z.elim
 |int =>
  cases x with
  |int i =>
   obtain⟨t,rfl⟩:=Y;exact IsiPair.int_int ⟨.bl true,H,I,rfl,q⟩
  |_=>exact Z.elim
 |str =>
  cases x with
  |str y =>
   obtain⟨t,rfl⟩:=Y;exact IsiPair.str_int ⟨.bl false,H,I.tok _,rfl,q⟩
  |_=>exact Z.elim
 |tup =>
  cases x with
  |ref a =>
   cases Y;obtain⟨z,W⟩:=Z;obtain⟨o,V,U⟩:=I.sD W;exact IsiPair.tuple_int V U ⟨.bl false,H,I.tok _,rfl,q⟩
  |_=>exact Z.elim
 |lst =>
  cases x with
  |ref a =>
   cases Y;obtain⟨z,W⟩:=Z;obtain⟨o,V,U⟩:=I.sE W;exact IsiPair.list_int V U ⟨.bl false,H,I.tok _,rfl,q⟩
  |_=>exact Z.elim
 |bw =>
  cases x with
  |ref a =>
   cases Y;obtain⟨z,W⟩:=Z;obtain⟨o,V,U⟩:=I.sF W;exact IsiPair.dict_int V U ⟨.bl false,H,I.tok _,rfl,q⟩
  |_=>exact Z.elim
def Lz:bP X (.builtin "isinstance") (λxs H Q=>∃x k,xs=[x,.ty "bool"]/\qU X.K H x k/\Q (.bl (qD k "bool")) H):=by
 intro T s σ H xs S Q I r h;obtain⟨x,k,rfl,Z,q⟩:=h;obtain⟨u,c,rfl,Y,rc⟩:=vals2 r;cases rc
 cases k with
 |au =>
  cases x with
  |au =>
   cases Y;exact IsiPair.NoneType_bool ⟨.bl false,H,I.tok _,rfl,q⟩
  |_=>exact Z.elim
 |bl =>
  cases x with
  |bl b =>
   cases Y;exact IsiPair.bool_bool ⟨.bl true,H,I,rfl,q⟩
  |_=>exact Z.elim
 |int =>
  cases x with
  |int i =>
   obtain⟨t,rfl⟩:=Y;exact IsiPair.int_bool ⟨.bl false,H,I.tok _,rfl,q⟩
  |_=>exact Z.elim
 |str =>
  cases x with
  |str y =>
   obtain⟨t,rfl⟩:=Y;exact IsiPair.str_bool ⟨.bl false,H,I.tok _,rfl,q⟩
  |_=>exact Z.elim
 |tup =>
  cases x with
  |ref a =>
   cases Y;obtain⟨z,W⟩:=Z;obtain⟨o,V,U⟩:=I.sD W;exact IsiPair.tuple_bool V U ⟨.bl false,H,I.tok _,rfl,q⟩
  |_=>exact Z.elim
 |lst =>
  cases x with
  |ref a =>
   cases Y;obtain⟨z,W⟩:=Z;obtain⟨o,V,U⟩:=I.sE W;exact IsiPair.list_bool V U ⟨.bl false,H,I.tok _,rfl,q⟩
  |_=>exact Z.elim
 |bw =>
  cases x with
  |ref a =>
   cases Y;obtain⟨z,W⟩:=Z;obtain⟨o,V,U⟩:=I.sF W;exact IsiPair.dict_bool V U ⟨.bl false,H,I.tok _,rfl,q⟩
  |_=>exact Z.elim
def LN:bP X (.builtin "isinstance") (λxs H Q=>∃x k,xs=[x,.ty "str"]/\qU X.K H x k/\Q (.bl (qD k "str")) H):=by
 intro T s σ H xs S Q I r h;obtain⟨x,k,rfl,Z,q⟩:=h;obtain⟨u,c,rfl,Y,rc⟩:=vals2 r;cases rc
 cases k with
 |au =>
  cases x with
  |au =>
   cases Y;exact IsiPair.NoneType_str ⟨.bl false,H,I.tok _,rfl,q⟩
  |_=>exact Z.elim
 |bl =>
  cases x with
  |bl b =>
   cases Y;exact IsiPair.bool_str ⟨.bl false,H,I.tok _,rfl,q⟩
  |_=>exact Z.elim
 |int =>
  cases x with
  |int i =>
   obtain⟨t,rfl⟩:=Y;exact IsiPair.int_str ⟨.bl false,H,I.tok _,rfl,q⟩
  |_=>exact Z.elim
 |str =>
  cases x with
  |str y =>
   obtain⟨t,rfl⟩:=Y;exact IsiPair.str_str ⟨.bl true,H,I,rfl,q⟩
  |_=>exact Z.elim
 |tup =>
  cases x with
  |ref a =>
   cases Y;obtain⟨z,W⟩:=Z;obtain⟨o,V,U⟩:=I.sD W;exact IsiPair.tuple_str V U ⟨.bl false,H,I.tok _,rfl,q⟩
  |_=>exact Z.elim
 |lst =>
  cases x with
  |ref a =>
   cases Y;obtain⟨z,W⟩:=Z;obtain⟨o,V,U⟩:=I.sE W;exact IsiPair.list_str V U ⟨.bl false,H,I.tok _,rfl,q⟩
  |_=>exact Z.elim
 |bw =>
  cases x with
  |ref a =>
   cases Y;obtain⟨z,W⟩:=Z;obtain⟨o,V,U⟩:=I.sF W;exact IsiPair.dict_str V U ⟨.bl false,H,I.tok _,rfl,q⟩
  |_=>exact Z.elim
def Lq:bP X (.builtin "isinstance") (λxs H Q=>∃x k,xs=[x,.ty "tuple"]/\qU X.K H x k/\Q (.bl (qD k "tuple")) H):=by
 intro T s σ H xs S Q I r h;obtain⟨x,k,rfl,Z,q⟩:=h;obtain⟨u,c,rfl,Y,rc⟩:=vals2 r;cases rc
 cases k with
 |au =>
  cases x with
  |au =>
   cases Y;exact IsiPair.NoneType_tuple ⟨.bl false,H,I.tok _,rfl,q⟩
  |_=>exact Z.elim
 |bl =>
  cases x with
  |bl b =>
   cases Y;exact IsiPair.bool_tuple ⟨.bl false,H,I.tok _,rfl,q⟩
  |_=>exact Z.elim
 |int =>
  cases x with
  |int i =>
   obtain⟨t,rfl⟩:=Y;exact IsiPair.int_tuple ⟨.bl false,H,I.tok _,rfl,q⟩
  |_=>exact Z.elim
 |str =>
  cases x with
  |str y =>
   obtain⟨t,rfl⟩:=Y;exact IsiPair.str_tuple ⟨.bl false,H,I.tok _,rfl,q⟩
  |_=>exact Z.elim
 |tup =>
  cases x with
  |ref a =>
   cases Y;obtain⟨z,W⟩:=Z;obtain⟨o,V,U⟩:=I.sD W;exact IsiPair.tuple_tuple V U ⟨.bl true,H,I,rfl,q⟩
  |_=>exact Z.elim
 |lst =>
  cases x with
  |ref a =>
   cases Y;obtain⟨z,W⟩:=Z;obtain⟨o,V,U⟩:=I.sE W;exact IsiPair.list_tuple V U ⟨.bl false,H,I.tok _,rfl,q⟩
  |_=>exact Z.elim
 |bw =>
  cases x with
  |ref a =>
   cases Y;obtain⟨z,W⟩:=Z;obtain⟨o,V,U⟩:=I.sF W;exact IsiPair.dict_tuple V U ⟨.bl false,H,I.tok _,rfl,q⟩
  |_=>exact Z.elim
def LA:bP X (.builtin "isinstance") (λxs H Q=>∃x k,xs=[x,.ty "list"]/\qU X.K H x k/\Q (.bl (qD k "list")) H):=by
 intro T s σ H xs S Q I r h;obtain⟨x,k,rfl,Z,q⟩:=h;obtain⟨u,c,rfl,Y,rc⟩:=vals2 r;cases rc
 cases k with
 |au =>
  cases x with
  |au =>
   cases Y;exact IsiPair.NoneType_list ⟨.bl false,H,I.tok _,rfl,q⟩
  |_=>exact Z.elim
 |bl =>
  cases x with
  |bl b =>
   cases Y;exact IsiPair.bool_list ⟨.bl false,H,I.tok _,rfl,q⟩
  |_=>exact Z.elim
 |int =>
  cases x with
  |int i =>
   obtain⟨t,rfl⟩:=Y;exact IsiPair.int_list ⟨.bl false,H,I.tok _,rfl,q⟩
  |_=>exact Z.elim
 |str =>
  cases x with
  |str y =>
   obtain⟨t,rfl⟩:=Y;exact IsiPair.str_list ⟨.bl false,H,I.tok _,rfl,q⟩
  |_=>exact Z.elim
 |tup =>
  cases x with
  |ref a =>
   cases Y;obtain⟨z,W⟩:=Z;obtain⟨o,V,U⟩:=I.sD W;exact IsiPair.tuple_list V U ⟨.bl false,H,I.tok _,rfl,q⟩
  |_=>exact Z.elim
 |lst =>
  cases x with
  |ref a =>
   cases Y;obtain⟨z,W⟩:=Z;obtain⟨o,V,U⟩:=I.sE W;exact IsiPair.list_list V U ⟨.bl true,H,I,rfl,q⟩
  |_=>exact Z.elim
 |bw =>
  cases x with
  |ref a =>
   cases Y;obtain⟨z,W⟩:=Z;obtain⟨o,V,U⟩:=I.sF W;exact IsiPair.dict_list V U ⟨.bl false,H,I.tok _,rfl,q⟩
  |_=>exact Z.elim
end
section
variable {X:Cx} {es:List ņ} {t:TA} {pos:Pos}
def FX {bs:List Bool} (r:Vals (bs.map V.bl) its):TruthOf X.prog X.w A (λi v=>its.toArray[i]?=some v) (λi=>bs.getD i false):=by
 intro i v s Q E T S;have Z:its[i]?=some v:=by simpa using T
 have hi:i<its.length:=(Ç.mp Z).1;have Y:i<bs.length:=by
  have e:=r.length;rw[Ä] at e;omega
 have R:(bs.map V.bl)[i]?=some (.bl (bs[i])):=by rw[Ü,É Y];rfl
 obtain⟨u,W,P⟩:=Vals.get r R;rw[Z] at W;cases W;cases P;have e:bs.getD i false=bs[i]:=by simp[Ś,É Y]
 have U:Q (bs.getD i false) s:=S;rw[e] at U;exact Ŗ U
def range_all (bs:List Bool):(Ó bs.length).all (λi=>bs.getD i false)=bs.all id:=by
 rw[Ĩ,ë,ë];constructor
 ·intro h b Z
  obtain⟨i,hi,e⟩:=ś Z;have:=h i (ò.mpr hi);simpa [Ś,É hi,e] using this
 ·intro h i hi
  have hi:=ò.mp hi;have:=h _ (YZ hi);simpa [Ś,É hi] using this
def range_any (bs:List Bool):(Ó bs.length).any (λi=>bs.getD i false)=bs.any id:=by
 rw[Ĩ,Ő,Ő];constructor
 ·rintro ⟨i,hi,h⟩
  have hi:=ò.mp hi;exact⟨bs[i],YZ hi,by simpa [Ś,É hi] using h⟩
 ·rintro ⟨b,Z,h⟩
  obtain⟨i,hi,e⟩:=ś Z;exact⟨i,ò.mpr hi,by simpa [Ś,É hi,e] using h⟩
def Oi (hc:X.calm=true):bP X (.builtin "all") (λxs H Q=>∃(p:à) (bs:List Bool),xs=[.ref p]/\bo X.K H p (bs.map V.bl)/\Q (.bl (bs.all id)) H):=by
 intro O s σ H xs N Q I r h;obtain⟨p,bs,rfl,W,q⟩:=h;obtain⟨u,rfl,U⟩:=vals1 r;cases U;obtain⟨its,Y,Z,M⟩:=I.list W;have T:its.toArray.size=bs.length:=by
  have e:=Y.length;rw[Ä] at e;simpa using e.symm
 have S:X.A.in1.handled=none:=I.ok.hd hc;refine call_all_walk (Ŵ Z.isList ?_);have old:p≠s.heap.objs.size:=ç (by obtain⟨o,n,e,_⟩:=Z;exact Ñ e);refine⟨s.heap.objs.size,[s.heap.objs.size,p],[s.heap.objs.size],its.toArray.size,_,_,λi=>bs.getD i false,rfl,Walks.list S s.heap.objs.size p old its.toArray,⟨⟨_,Ì _ rfl,rfl,rfl⟩,Z.isList.at λo e=>Á _ e⟩,FX Y,λL R P=>?_⟩;rw[T,range_all];exact⟨.bl _,H,I.kept (t':=R) λb o e=>P b o (by simpa using ç (Ñ e)) (Á _ e),rfl,q⟩
def Oj (hc:X.calm=true):bP X (.builtin "any") (λxs H Q=>∃(p:à) (bs:List Bool),xs=[.ref p]/\bo X.K H p (bs.map V.bl)/\Q (.bl (bs.any id)) H):=by
 intro O s σ H xs N Q I r h;obtain⟨p,bs,rfl,W,q⟩:=h;obtain⟨u,rfl,U⟩:=vals1 r;cases U;obtain⟨its,Y,Z,M⟩:=I.list W;have T:its.toArray.size=bs.length:=by
  have e:=Y.length;rw[Ä] at e;simpa using e.symm
 have S:X.A.in1.handled=none:=I.ok.hd hc;refine call_any_walk (Ŵ Z.isList ?_);have old:p≠s.heap.objs.size:=ç (by obtain⟨o,n,e,_⟩:=Z;exact Ñ e);refine⟨s.heap.objs.size,[s.heap.objs.size,p],[s.heap.objs.size],its.toArray.size,_,_,λi=>bs.getD i false,rfl,Walks.list S s.heap.objs.size p old its.toArray,⟨⟨_,Ì _ rfl,rfl,rfl⟩,Z.isList.at λo e=>Á _ e⟩,FX Y,λL R P=>?_⟩;rw[T,range_any];exact⟨.bl _,H,I.kept (t':=R) λb o e=>P b o (by simpa using ç (Ñ e)) (Á _ e),rfl,q⟩
end
def tN:Key->Zv
 | .inl i=>.int i
 | .inr x=>.str x
mutual
def DV (K:Ļ) (Z:à->Prop) (H:Hp):Zv->V->Prop
 | .none,v=>v=.au
 | .bool b,v=>v=.bl b
 | .int i,v=>v=.int i
 | .str x,v=>v=.str x
 | .tuple X,v=>∃a Y,v=.ref a/\aX K H a Y/\aj K Z H X Y
 | .list X,v=>∃a Y,v=.ref a/\¬ Z a/\H a=some (.lst Y)/\aj K Z H X Y
 | .dict U,v=>∃a W,v=.ref a/\¬ Z a/\H a=some (.dK W)/\∃l:List (Key×Int),W=l.map (λp=>(p.1,V.int p.2))/\U=l.map λp=>(tN p.1,PyData.int p.2)
def aj (K:Ļ) (Z:à->Prop) (H:Hp):List Zv->List V->Prop
 | [],Y=>Y=[]
 |d::X,Y=>∃v r,Y=v::r/\DV K Z H d v/\aj K Z H X r
end
structure JS (K:Ļ) (Z:à->Prop) (H H':Hp):Prop where
 tup:∀b xs,aX K H b xs->aX K H' b xs
 lst:∀b xs,¬ Z b->H b=some (.lst xs)->H' b=some (.lst xs)
 bw:∀b es,¬ Z b->H b=some (.dK es)->H' b=some (.dK es)
mutual
theorem DV.dB {K:Ļ} {Z:à->Prop} {H H':Hp} (S:JS K Z H H'):∀{d:Zv} {v:V},DV K Z H d v->DV K Z H' d v
 | .none,_,h=>h
 | .bool _,_,h=>h
 | .int _,_,h=>h
 | .str _,_,h=>h
 | .tuple T,v,h=>by
  simp only[DV] at h |-;obtain⟨a,Y,e,X,r⟩:=h;exact⟨a,Y,e,S.tup a Y X,aj.dB S r⟩
 | .list T,v,h=>by
  simp only[DV] at h |-;obtain⟨a,Y,e,W,X,r⟩:=h;exact⟨a,Y,e,W,S.lst a Y W X,aj.dB S r⟩
 | .dict R,v,h=>by
  simp only[DV] at h |-;obtain⟨a,U,e,W,X,r⟩:=h;exact⟨a,U,e,W,S.bw a U W X,r⟩
theorem aj.dB {K:Ļ} {Z:à->Prop} {H H':Hp} (S:JS K Z H H'):∀{ds:List Zv} {vs:List V},aj K Z H ds vs->aj K Z H' ds vs
 | [],_,h=>h
 |d::ds,vs,h=>by
  simp only[aj] at h |-;obtain⟨v,r,e,Y,X⟩:=h;exact⟨v,r,e,DV.dB S Y,aj.dB S X⟩
end
mutual
theorem DV.more {K:Ļ} {Z:à->Prop} {H:Hp} {p:à} (hp:H p=none):∀{d:Zv} {v:V},DV K Z H d v->DV K (λa=>Z a\/a=p) H d v
 | .none,_,h=>h
 | .bool _,_,h=>h
 | .int _,_,h=>h
 | .str _,_,h=>h
 | .tuple U,v,h=>by
  simp only[DV] at h |-;obtain⟨a,X,e,Y,r⟩:=h;exact⟨a,X,e,Y,aj.more hp r⟩
 | .list U,v,h=>by
  simp only[DV] at h |-;obtain⟨a,X,e,W,Y,r⟩:=h;exact⟨a,X,e,(λz=>z.elim W λe=>by subst e;rw[hp] at Y;cases Y),Y,aj.more hp r⟩
 | .dict S,v,h=>by
  simp only[DV] at h |-;obtain⟨a,T,e,W,Y,r⟩:=h;exact⟨a,T,e,(λz=>z.elim W λe=>by subst e;rw[hp] at Y;cases Y),Y,r⟩
theorem aj.more {K:Ļ} {Z:à->Prop} {H:Hp} {p:à} (hp:H p=none):∀{ds:List Zv} {vs:List V},aj K Z H ds vs->aj K (λa=>Z a\/a=p) H ds vs
 | [],_,h=>h
 |d::ds,vs,h=>by
  simp only[aj] at h |-;obtain⟨v,r,e,Y,X⟩:=h;exact⟨v,r,e,DV.more hp Y,aj.more hp X⟩
end
mutual
theorem DV.less {K:Ļ} {Z Z':à->Prop} {H:Hp} (eZ:∀a,Z' a->Z a):∀{d:Zv} {v:V},DV K Z H d v->DV K Z' H d v
 | .none,_,h=>h
 | .bool _,_,h=>h
 | .int _,_,h=>h
 | .str _,_,h=>h
 | .tuple U,v,h=>by
  simp only[DV] at h |-;obtain⟨a,X,e,Y,r⟩:=h;exact⟨a,X,e,Y,aj.less eZ r⟩
 | .list U,v,h=>by
  simp only[DV] at h |-;obtain⟨a,X,e,W,Y,r⟩:=h;exact⟨a,X,e,λz=>W (eZ _ z),Y,aj.less eZ r⟩
 | .dict S,v,h=>by
  simp only[DV] at h |-;obtain⟨a,T,e,W,Y,r⟩:=h;exact⟨a,T,e,λz=>W (eZ _ z),Y,r⟩
theorem aj.less {K:Ļ} {Z Z':à->Prop} {H:Hp} (eZ:∀a,Z' a->Z a):∀{ds:List Zv} {vs:List V},aj K Z H ds vs->aj K Z' H ds vs
 | [],_,h=>h
 |d::ds,vs,h=>by
  simp only[aj] at h |-;obtain⟨v,r,e,Y,X⟩:=h;exact⟨v,r,e,DV.less eZ Y,aj.less eZ X⟩
end
section
variable {X:Cx} {π:List (à×Obj)} {σ:St} {H:Hp} {s:Æ} {Z:à->Prop}
theorem yJ:∀{l:List (Key×Int)} {vs:List (Key×Ê)} {es:List aac},KV (l.map λp=>(p.1,V.int p.2)) vs->Pairs (v9 P w) es vs ->
  ReadsAll h (es.map (·.key)) ((l.map λp=>(tN p.1,PyData.int p.2)).map (·.1)) []/\ReadsAll h (es.map (·.val)) ((l.map λp=>(tN p.1,PyData.int p.2)).map (·.2)) []
 | [],_,_,.nil,.nil=>⟨.nil,.nil⟩
 |(k,i)::l,_,_,.cons (b:=q) r t,.cons (e:=e) U T S=>by
  obtain⟨a1,a2⟩:=yJ (h:=h) t S;obtain⟨Z,X,Y⟩:=r;have Z:k=q.1:=Z;have Y:q.2=ZY i X:=Y;refine⟨?_,?_⟩
  ·have W:AU q.1 e.key=true:=U
   rw[<- Z] at W;have:Reads h e.key (tN k) []:=by
    rcases ki W with ⟨j,u,e1,e2⟩ | ⟨x,u,e1,e2⟩
    ·rw[e1,e2];exact .int j u
    ·rw[e1,e2];exact .str x u
   exact ReadsAll.cons (as:=[]) (bs:=[]) this a1
  ·have:Reads h e.val (.int i) []:=by rw[T,Y];exact .int i X
   exact ReadsAll.cons (as:=[]) (bs:=[]) this a2
mutual
theorem DV.reads (I:Inv X π σ H s):∀{d:Zv} {v:V} {u:Ê},DV X.K Z H d v->RelV v u->∃as,Reads s.heap u d as
 | .none,v,u,h,r=>by
  have e:v=.au:=h;subst e;cases r;exact⟨[],.none⟩
 | .bool b,v,u,h,r=>by
  have e:v=.bl b:=h;subst e;cases r;exact⟨[],.bool b⟩
 | .int i,v,u,h,r=>by
  have e:v=.int i:=h;subst e;obtain⟨t,rfl⟩:=r;exact⟨[],.int i t⟩
 | .str x,v,u,h,r=>by
  have e:v=.str x:=h;subst e;obtain⟨t,rfl⟩:=r;exact⟨[],.str x t⟩
 | .tuple R,v,u,h,r=>by
  simp only[DV] at h;obtain⟨a,Q,e,Y,W⟩:=h;subst e;cases r;obtain⟨its,U,⟨o,e,c,n,T⟩,_⟩:=I.tuple Y;obtain⟨as,S⟩:=aj.reads I W U;exact⟨as,.tuple e c T (by simpa using S)⟩
 | .list R,v,u,h,r=>by
  simp only[DV] at h;obtain⟨a,Q,e,_,Y,W⟩:=h;subst e;cases r;obtain⟨its,U,⟨o,n,e,c,_,T⟩,_⟩:=I.list (bo.of Y);obtain⟨as,S⟩:=aj.reads I W U;exact⟨a::as,.list e c T (by simpa using S)⟩
 | .dict J,v,u,h,r=>by
  simp only[DV] at h;obtain⟨a,G,e,_,Y,l,e1,e2⟩:=h;subst e e1 e2;cases r;obtain⟨_,_,F,P,o,O,E,g1,g2,g3,_,N,_⟩:=(show cL X.prog X.w H s.heap a (.dK _) from I.aC a _ Y);obtain⟨M,L⟩:=yJ (h:=s.heap) P N;exact⟨a::[]++[],.dict g1 g2.1 g3 M L⟩
theorem aj.reads (I:Inv X π σ H s):∀{ds:List Zv} {vs:List V} {us:List Ê},aj X.K Z H ds vs->Vals vs us->∃as,ReadsAll s.heap us ds as
 | [],vs,us,h,r=>by
  have e:vs=[]:=h;subst e;cases r;exact⟨[],.nil⟩
 |d::ds,vs,us,h,r=>by
  obtain⟨v,S,e,Y,W⟩:=h;subst e
  cases r with
  |cons U T =>
   obtain⟨as,a1⟩:=DV.reads I Y U;obtain⟨bs,a2⟩:=aj.reads I W T;exact⟨as++bs,.cons a1 a2⟩
end
def JT (K:Ļ) (neg:Bool):R2:=λx y H Q=>∃(d e:Zv) (Z:à->Prop),DV K Z H d x/\DV K Z H e y/\d.canLay0=true/\e.canLay0=true/\min d.depth e.depth<=100/\Q (.bl (if neg then !PyData.eqv d e else İ d e)) H
def RP (hr:bY k X.A):bh X (ĭ .Eq) (JT X.K false):=by
 intro O s σ H x y v u Q I Y W h;obtain⟨d,e,Z,V,U,T,S,N,q⟩:=h;obtain⟨as,R⟩:=V.reads I Y;obtain⟨bs,P⟩:=U.reads I W;exact SeqAt.eqOverData _ _ _ _ _ _ _ _ _ _ _ _ R P T S (by have:=hr.un;omega) ⟨.bl _,H,I,rfl,q⟩
def RQ (hr:bY k X.A):bh X (ĭ .NotEq) (JT X.K true):=by
 intro O s σ H x y v u Q I Y W h;obtain⟨d,e,Z,V,U,T,S,N,q⟩:=h;obtain⟨as,R⟩:=V.reads I Y;obtain⟨bs,P⟩:=U.reads I W;exact SeqAt.neOverData _ _ _ _ _ _ _ _ _ _ _ _ R P T S (by have:=hr.un;omega) ⟨.bl _,H,I,rfl,q⟩
end
end L2
namespace HT
open PySem PySem.Spec PyProof.Rows
section
variable {prog:ô} {w:Ĉ} {A:Ă} {E:Ê->Æ->Prop} {s:Æ}
def Fg (ht:IsTup s.heap t items) (h:Q true s):Ú (î prog w) A (YL (.ref t)) Q E s:=by
 unfold YL;exact À (Y8 ht.typeIs (Â h))
def Lr {lo hi:Option Int} {Q:Ê->Æ->Prop} (ht:IsTup s.heap t items) (hs:s.heap.IsSliceOf sl vl vu .none) (pl:IsPart vl lo) (pu:IsPart vu hi)
 (hw:aN items.size 0 lo=0/\aN items.size items.size hi=items.size) (h:Q (.ref t) s):Ú (î prog w) A (getItem (.ref t) (.ref sl)) Q E s:=by
 obtain⟨os,Z,Y,U⟩:=id hs;have X:s.TypeIs (.ref sl) "slice":=⟨os,Z,Y⟩;unfold getItem
 try with_reducible refine ĝ ?_
 first|refine À (Â ?_)|skip
 refine À (wpAny_sequenceKey ht.typeIs (by decide) ?_);refine À (ą (name:=ē "__getitem__") ht.typeIs ĩ
  (ý ĩ ht.typeIs entry_tuple_getitem ?_ (args_tuple_getitem _ _)))
 show Ú _ _ (Ş (.ref t) >>= _) _ _ s;refine À (tupleItemsOf_ ht ?_);refine À (Y8 X ?_);rw[é (by decide)];refine À (En hs pl pu ?_);obtain⟨W,V⟩:=hw
 show Ú _ _ (if (((aN items.size 0 lo:Nat):Int)==0&&(1:Int)==1&&(aN items.size items.size hi-aN items.size 0 lo)==items.size)=true then _ else _) _ _ s
 rw[W,V,é (by simp)]
 first
  |exact À (Fg ht (by simp only[ø];exact À (Ţ (Â ⟨_,rfl,Â h⟩))))
  |exact À (Fg ht (by simp only[ø];exact À (Ţ (À (Â (Â ⟨_,rfl,Â h⟩))))))
end
end HT
namespace L2
open PySem PySem.Spec PyProof.Rows
def jP.VT {K:Ļ} {H H':Hp} {a:à} {xs:List V} (e:jP H H') (h:aX K H a xs):aX K H' a xs:=by
 rcases h with (h | ⟨o,h⟩)|h
 ·exact .inl (.inl (e _ _ h))
 ·exact .inl (.inr ⟨o,e _ _ h⟩)
 ·exact .inr h
theorem jP.upd (hn:H p=none):jP H (upd H p o):=λb u e=>by rw[bj (dF e hn)];exact e
def mT (K:Ļ) (H:Hp) (ys:List V) (Q:VK):Prop:=∀a Z,jP H Z->aX K Z a ys->Q (.ref a) Z
def mT.here {K:Ļ} {H:Hp} {ys:List V} {Q:VK} {a:à} (h:mT K H ys Q) (hs:aX K H a ys):Q (.ref a) H:=h a H (jP.refl H) hs
def mT.new {K:Ļ} {H:Hp} {ys:List V} {Q:VK} {p:à} (h:mT K H ys Q) (hn:H p=none):Q (.ref p) (L2.upd H p (.tup ys)):=h p _ (jP.upd hn) (aX.of cU)
section
variable {X:Cx} {e:ņ} {te:TE} {pos p2 p3 p4:Pos}
def Ol {lo hi:Option Int} (h:HT.aN xs.length 0 lo=0/\HT.aN xs.length xs.length hi=xs.length):jO xs lo hi=xs:=by
 unfold jO;rw[h.1,h.2];simp
def Vb (K:Ļ):V->Option Int->Option Int->Hp->VK->Prop:=λx lo hi H Q=>∃a Z,x=.ref a/\aX K H a Z/\mT K H (jO Z lo hi) Q
def P1:uL X (Vb X.K):=by
 intro S s σ H x v R P lo hi O Q I V hs U pu h;obtain⟨a,Z,rfl,W,q⟩:=h;by_cases hw:HT.aN Z.length 0 lo=0/\HT.aN Z.length Z.length hi=Z.length
 ·cases V
  obtain⟨its,r,T,M⟩:=I.tuple W;have Y:its.toArray.size=Z.length:=by rw[Ô];exact r.length.symm
  rw[Ol hw] at q;exact⟨"tuple",_,ĩ.lookup,T.typeIs,HT.Lr T hs U pu (by rw[Y];exact hw) ⟨.ref a,H,I,rfl,q.here W⟩⟩
 ·exact wB S s σ H _ v R P lo hi O Q I V hs U pu ⟨a,Z,rfl,W,hw,λp N=>q.new N⟩
def TF (K:Ļ):R2:=λx y H Q=>∃a b Z Y,x=.ref a/\y=.ref b/\aX K H a Z/\aX K H b Y/\Z.length+Y.length<=Û/\mT K H (Z++Y) Q
def P2:bh X (Ō .Add) (TF X.K):=by
 intro M s σ H x y v u Q I W V h;obtain⟨a,b,U,L,rfl,rfl,Z,Y,J,q⟩:=h;by_cases T:U=[]
 ·subst T
  cases W;cases V;obtain⟨its,G,F,_⟩:=I.tuple Z;obtain⟨E,t,p2,_⟩:=I.tuple Y;cases G;obtain⟨⟨cls,D,data,C⟩,S,R,n,P⟩:=id F;obtain⟨⟨r,B,data2,A⟩,O,N,z,hd2⟩:=id p2;simp only at R P N hd2;subst R P N hd2;exact concat_meets ⟨_,S,rfl⟩ ⟨_,O,rfl⟩ noFill_tuple_add seq_tuple_add Zu Zi (Y7 _ _)
   (tuple_addW0 a b _ E.toArray n z D B C A (by simp)) ⟨S,O,⟨.ref b,H,I,rfl,q.here Y⟩⟩
 ·refine PX M s σ H _ _ v u Q I W V ⟨a,b,U,L,rfl,rfl,Z,Y,T,J,λe=>?_,λ_ p w=>q.new w⟩
  subst e;rw[ĸ] at q;exact q.here Z
end
end L2
namespace HZ
open PySem PySem.Spec PyProof.Rows
structure j4 (P:ô) (w:Ĉ) (A:Ă) (i l:à) (tn:Nat->ō->Prop) (val:Nat->Option Ê):Prop where
 keep:∀k h h',tn k h->(∀o,h.get? i=some o->h'.get? i=some o)->(∀o,h.get? l=some o->h'.get? l=some o)->tn k h'
 item:∀k (s:Æ) (Q:Ê->Æ->Prop) (E:Ê->Æ->Prop) x,tn k s.heap->val k=some x->(∀h',tn (k+1) h'->Ĵ i s.heap h'->Q x { s with heap:=h' })->Ú (î P w) A (Đ (.ref i)) Q E s
 stop:∀k (s:Æ) (Q:Ê->Æ->Prop) (E:Ê->Æ->Prop),tn k s.heap->val k=none->(∀h' e,Zz i s.heap h'->(∃o,h'.get? e=some o/\o.cls=.type "StopIteration")->E (.ref e) { s with heap:=h' })->Ú (î P w) A (Đ (.ref i)) Q E s
 obj:∀k h,tn k h->∃o,h.get? i=some o/\∀v,o.data≠.cell v
section
variable {P:ô} {w:Ĉ} {A:Ă} {E:Ê->Æ->Prop} {s:Æ}
def MA (g:s.heap.IsTupleIter it t k) (gt:s.heap.IsTuple t its) (gx:its[k]?=some x)
 (q:∀h',h'.IsTupleIter it t (k+1)->Ĵ it s.heap h'->Q x { s with heap:=h' }):Ú (î P w) A (Đ (.ref it)) Q E s:=by
 obtain⟨o,go,Y,Z⟩:=id g;obtain⟨ol,X,_,nl,W⟩:=gt;unfold Đ;refine À (ą (name:=ē "__next__") g.typeIs ş
  (ý ş g.typeIs F.entry_tuple_iterator_next ?_ (F.args_tuple_iterator_next_1 _)))
 show Ú _ _ (field (.ref it) 0 >>= _) _ _ _;refine À (Ĺ go Z (x:=.ref t) rfl ?_)
 show Ú _ _ (if (ħ t==Value.none)=true then _ else _) _ _ _
 rw[ð (λz:(ħ t==Value.none)=true=>Ö z)];show Ú _ _ (field (.ref it) 1 >>= _) _ _ _;refine À (Ĺ go Z (x:=.int k 0) rfl ?_);show Ú _ _ (seqItems? (.ref t) >>= _) _ _ _;refine À (ı X W ?_);simp only[č,gx];refine À (ŕ go Z (by simp) (Â ⟨x,rfl,Â (q _ ?_ (Ď ..))⟩));exact⟨_,Ě _ go (ľ (ċ Z _)),(YF ..).trans Y,by rw[ċ Z];simp[ŋ]⟩
def Ls (gh:A.handled=none) (g:s.heap.IsTupleIter it t k) (gt:s.heap.IsTuple t its) (gx:its[k]?=none)
 (q:∀h' e,Zz it s.heap h'->(∃o,h'.get? e=some o/\o.cls=.type "StopIteration")->E (.ref e) { s with heap:=h' }):Ú (î P w) A (Đ (.ref it)) Q E s:=by
 obtain⟨o,go,W,Z⟩:=id g;obtain⟨ol,Y,_,nl,X⟩:=gt;unfold Đ;refine À (ą (name:=ē "__next__") g.typeIs ş
  (ý ş g.typeIs F.entry_tuple_iterator_next ?_ (F.args_tuple_iterator_next_1 _)))
 show Ú _ _ (field (.ref it) 0 >>= _) _ _ _;refine À (Ĺ go Z (x:=.ref t) rfl ?_)
 show Ú _ _ (if (ħ t==Value.none)=true then _ else _) _ _ _
 rw[ð (λz:(ħ t==Value.none)=true=>Ö z)];show Ú _ _ (field (.ref it) 1 >>= _) _ _ _;refine À (Ĺ go Z (x:=.int k 0) rfl ?_);show Ú _ _ (seqItems? (.ref t) >>= _) _ _ _;refine À (ı Y X ?_);simp only[č,gx];refine À (Ţ (À (ŕ go Z (by simp) ?_)));show Ú _ _ (newExc (.type "StopIteration") [] >>= _) _ _ (_:Æ);refine À ?_;simp only[newExc,newTuple];refine À (ö ?_ (by size_fits))
 refine À (m:=YR _ _) (ι (a:=Value.none) (by first|rfl | (unfold YR;rfl)) ?_)
 refine ö ?_ (by size_fits);simp only[raiseNew];refine À (wpAny_handled ?_)
 first|rw[gh]|rw[show A.in1.handled=none from gh]
 refine À (Â (wpAny_throw ?_));exact q _ _ (((Ď ..).extBut.push _).push _) ⟨_,Ì _ rfl,rfl⟩
def P4 (gh:A.handled=none) (i l:à) (its:Array Ê):j4 P w A i l (λk h=>h.IsTupleIter i l k/\h.IsTuple l its) (λk=>its[k]?) where
 keep:=λk h Y Z U T=>⟨Z.1.at U,by obtain⟨o,e,r⟩:=Z.2;exact⟨o,T o e,r⟩⟩
 item:=λk s Q E x Z e q=>MA Z.1 Z.2 e λY g X=>by
  by_cases W:l=i
  ·exfalso
   subst W;obtain⟨o,e1,S,_⟩:=Z.1;obtain⟨R,e2,V,_⟩:=Z.2;rw[e1] at e2;cases e2;rw[S] at V;simp at V
  ·obtain⟨o,e2,r⟩:=Z.2
   exact q Y ⟨g,o,(X.2 l W).trans e2,r⟩ X
 stop:=λk s Q E Z e q=>Ls gh Z.1 Z.2 e q
 obj:=λk h Z=>by
  obtain⟨o,e,_,d⟩:=Z.1;exact⟨o,e,λv z=>by rw[d] at z;cases z⟩
def P5 (gh:A.handled=none) (i l:à) (its:Array Ê):j4 P w A i l (λk h=>h.IsListIter i l k/\h.IsList l its) (λk=>its[k]?) where
 keep:=λk h Y Z U T=>⟨Z.1.at U,Z.2.at T⟩
 item:=λk s Q E x Z e q=>wpAny_nextOf_list_item Z.1 Z.2 e λY g X=>by
  by_cases W:l=i
  ·exfalso
   subst W;obtain⟨o,e1,S,_⟩:=Z.1;obtain⟨R,e2,V,_⟩:=Z.2;rw[e1] at e2;cases e2;rw[S] at V;simp at V
  ·exact q Y ⟨g,Z.2.at λo e2=>(X.2 l W).trans e2⟩ X
 stop:=λk s Q E Z e q=>wpAny_nextOf_list_end gh Z.1 Z.2 e q
 obj:=λk h Z=>by
  obtain⟨o,e,_,d⟩:=Z.1;exact⟨o,e,λv z=>by rw[d] at z;cases z⟩
structure Apart (z ti to j1 j2 m1 m2:à):Prop where
 a1:ti≠z
 a2:to≠z
 a3:j1≠z
 a4:j2≠z
 a5:ti≠to
 a6:ti≠j1
 a7:ti≠j2
 a8:to≠j1
 a9:to≠j2
 b0:j1≠j2
 b1:m1≠z
 b2:m1≠to
 b3:m1≠j1
 b4:m1≠j2
 b5:m2≠z
 b6:m2≠to
 b7:m2≠j1
 b8:m2≠j2
def Om {t1 t2:Nat->ō->Prop} {v1 v2:Nat->Option Ê} {k:Nat} {Q:Ê->Æ->Prop} (D:Apart z ti to j1 j2 m1 m2) (S1:j4 P w A j1 m1 t1 v1) (S2:j4 P w A j2 m2 t2 v2)
 (gz:IsZip s.heap z ti to .none) (gi:YS s.heap ti (.ref j1) (.ref j2)) (go:YS s.heap to a b) (h1:t1 k s.heap) (h2:t2 k s.heap) (hx:v1 k=some x) (hy:v2 k=some y)
 (q:∀h',IsZip h' z ti to (ŋ s.heap.objs.size)->YS h' to x y->t1 (k+1) h'->t2 (k+1) h'->YS h' s.heap.objs.size x y->h'.objs.size=s.heap.objs.size+1 ->
 (∀c o,c≠z->c≠to->c≠j1->c≠j2->s.heap.get? c=some o->h'.get? c=some o)->Q (.ref s.heap.objs.size) { s with heap:=h' }) :
  Ú (î P w) A (Œ.«zip.__next__» ⟨[.ref z],[]⟩) (λfin s'=>∃v,fin=.done (.ret v)/\Q v s') E s:=by
 show Ú _ _ (field (.ref z) 2 >>= _) _ _ (_:Æ);refine À (Ĺ gz rfl (x:=.bool false) rfl ?_);show Ú _ _ (field (.ref z) 3 >>= _) _ _ (_:Æ);refine À (Ĺ gz rfl (x:=.ref ti) rfl ?_);refine À (ı gi rfl ?_);show Ú _ _ (Ľ (.ref z) >>= _) _ _ (_:Æ);refine À ?_;unfold Ľ;refine À (Ĺ gz rfl (x:=.none) rfl (Â ?_));simp only[ø];refine À (Ţ ?_);refine À (Ĺ gz rfl (x:=.ref to) rfl ?_);refine À (ũ gz (by simp) λp N Y=>?_)
 replace N:IsZip p z ti to .ellipsis:=N
 refine À ?_;simp only[List.zipIdx_cons,List.zipIdx_nil,List.forIn_cons,List.forIn_nil];refine À (À (wpAny_onRaise ?_));show Ú _ _ (Đ (.ref j1) >>= _) _ _ (_:Æ);refine À (S1.item k _ _ _ x (S1.keep k _ _ h1 (λo e=>Y.extBut _ _ D.a3 e) (λo e=>Y.extBut _ _ D.b1 e)) hx λn m V=>Â ?_);have G:YS n to a b:=V.extBut _ _ D.a8 (Y.extBut _ _ D.a2 go);refine À (ı G rfl ?_);refine À (wpAny_updateSeq_pair G λl M X=>?_)
 replace M:YS l to x b:=M
 refine À (wpAny_letGo (Â ?_));refine À (À (wpAny_onRaise ?_));show Ú _ _ (Đ (.ref j2) >>= _) _ _ (_:Æ);refine À (S2.item k _ _ _ y (S2.keep k _ _ h2 (λo e=>X.extBut _ _ D.a9.symm (V.extBut _ _ D.b0.symm (Y.extBut _ _ D.a4 e))) (λo e=>X.extBut _ _ D.b6 (V.extBut _ _ D.b7 (Y.extBut _ _ D.b5 e)))) hy λj i U=>Â ?_);have F:YS j to x b:=U.extBut _ _ D.a9 M;refine À (ı F rfl ?_);refine À (wpAny_updateSeq_pair F λZ S s5=>?_)
 replace S:YS Z to x y:=S
 refine À (wpAny_letGo (Â (Â ?_)));refine À (ı S rfl ?_);refine À (wpAny_newTuple ?_);have C:Z.objs.size=s.heap.objs.size:=by rw[s5.1,U.1,X.1,V.1,Y.1]
 have B:IsZip Z z ti to .ellipsis:=s5.extBut _ _ D.a2.symm (U.extBut _ _ D.a4.symm (X.extBut _ _ D.a2.symm (V.extBut _ _ D.a3.symm N)));have h:∀c o,c≠z->c≠to->c≠j1->c≠j2->s.heap.get? c=some o->Z.get? c=some o:=λc o W R L K e=>s5.extBut _ _ R (U.extBut _ _ K (X.extBut _ _ R (V.extBut _ _ L (Y.extBut _ _ W e))));have g:t1 (k+1) Z:=S1.keep _ _ _ m (λo e=>s5.extBut _ _ D.a8.symm (U.extBut _ _ D.b0 (X.extBut _ _ D.a8.symm e))) (λo e=>s5.extBut _ _ D.b2 (U.extBut _ _ D.b4 (X.extBut _ _ D.b2 e)));have f:t2 (k+1) Z:=S2.keep _ _ _ i (λo e=>s5.extBut _ _ D.a9.symm e) (λo e=>s5.extBut _ _ D.b6 e);have u:z<Z.objs.size:=Ñ B;show Ú _ _ (YT (.ref z) (.ref Z.objs.size) >>= _) _ _ (_:Æ);refine À ?_;unfold YT;have d:IsZip (Z.push { cls:=.type "tuple",data:=.seq #[x,y] }) z ti to .ellipsis:=Á _ B;refine À (ũ d (by simp) λp7 J I=>?_)
 replace J:IsZip p7 z ti to (ŋ Z.objs.size):=J
 refine ũ J (by simp) λT O H=>?_
 replace O:IsZip T z ti to (ŋ Z.objs.size):=O
 have up:∀c o,c≠z->Z.get? c=some o->T.get? c=some o:=λc o W e=>H.extBut _ _ W (I.extBut _ _ W (Á _ e));have t:YS T Z.objs.size x y:=H.extBut _ _ (ŧ u) (I.extBut _ _ (ŧ u) (Ì _ rfl));have r:T.objs.size=Z.objs.size+1:=by rw[H.1,I.1,Ą]
 rw[C] at O t r;refine Â ⟨_,rfl,?_⟩;show Q (.ref Z.objs.size) _;rw[C];exact q T O (up _ _ D.a2 S) (S1.keep _ _ _ g (λo e=>up _ o D.a3 e) (λo e=>up _ o D.b1 e)) (S2.keep _ _ _ f (λo e=>up _ o D.a4 e) (λo e=>up _ o D.b5 e)) t r λc o W R L K e=>up c o W (h c o W R L K e)
def P6 (D:Apart z ti to j1 j2 m1 m2) (S1:j4 P w A j1 m1 t1 v1) (S2:j4 P w A j2 m2 t2 v2)
 (gz:IsZip s.heap z ti to .none) (gi:YS s.heap ti (.ref j1) (.ref j2)) (go:YS s.heap to a b) (h1:t1 k s.heap) (h2:t2 k s.heap) (BG:v1 k=none\/v2 k=none)
 (q:∀h' e,(∀c o,c≠z->c≠to->c≠j1->c≠j2->s.heap.get? c=some o->h'.get? c=some o)->(∃o,h'.get? e=some o/\o.cls=.type "StopIteration")->E (.ref e) { s with heap:=h' }) :
  Ú (î P w) A (Œ.«zip.__next__» ⟨[.ref z],[]⟩) Q E s:=by
 show Ú _ _ (field (.ref z) 2 >>= _) _ _ (_:Æ);refine À (Ĺ gz rfl (x:=.bool false) rfl ?_);show Ú _ _ (field (.ref z) 3 >>= _) _ _ (_:Æ);refine À (Ĺ gz rfl (x:=.ref ti) rfl ?_);refine À (ı gi rfl ?_);show Ú _ _ (Ľ (.ref z) >>= _) _ _ (_:Æ);refine À ?_;unfold Ľ;refine À (Ĺ gz rfl (x:=.none) rfl (Â ?_));simp only[ø];refine À (Ţ ?_);refine À (Ĺ gz rfl (x:=.ref to) rfl ?_);refine À (ũ gz (by simp) λN V Y=>?_)
 replace V:IsZip N z ti to .ellipsis:=V
 refine À ?_;simp only[List.zipIdx_cons,List.zipIdx_nil,List.forIn_cons,List.forIn_nil];refine À (À (wpAny_onRaise ?_));show Ú _ _ (Đ (.ref j1) >>= _) _ _ (_:Æ);have M:t1 k N:=S1.keep k _ _ h1 (λo e=>Y.extBut _ _ D.a3 e) (λo e=>Y.extBut _ _ D.b1 e)
 cases U:v1 k with
 |none =>
  refine À (S1.stop k _ _ _ M U λT e Z S=>?_);obtain⟨R,g1,g2⟩:=S;have L:IsZip T z ti to .ellipsis:=Z _ _ D.a3.symm V;have ne:e≠z:=λu=>by subst u;rw[L] at g1;cases g1;simp at g2
  refine ũ L (by simp) λK _ X=>q K e (λc o W _ O _ u=>X.extBut _ _ W (Z _ _ O (Y.extBut _ _ W u))) ⟨R,X.extBut _ _ ne g1,g2⟩
 |some x =>
  have G:v2 k=none:=by
   rcases BG with h|h
   ·rw[U] at h;cases h
   ·exact h
  refine À (S1.item k _ _ _ x M U λT v Z=>Â ?_);have J:YS T to a b:=Z.extBut _ _ D.a8 (Y.extBut _ _ D.a2 go);refine À (ı J rfl ?_);refine À (wpAny_updateSeq_pair J λK t X=>?_);refine À (wpAny_letGo (Â ?_));refine À (À (wpAny_onRaise ?_));show Ú _ _ (Đ (.ref j2) >>= _) _ _ (_:Æ);refine À (S2.stop k _ _ _ (S2.keep k _ _ h2 (λo e=>X.extBut _ _ D.a9.symm (Z.extBut _ _ D.b0.symm (Y.extBut _ _ D.a4 e))) (λo e=>X.extBut _ _ D.b6 (Z.extBut _ _ D.b7 (Y.extBut _ _ D.b5 e)))) G λF e I S=>?_);obtain⟨R,g1,g2⟩:=S;have H:IsZip F z ti to .ellipsis:=I _ _ D.a4.symm (X.extBut _ _ D.a2.symm (Z.extBut _ _ D.a3.symm V));have ne:e≠z:=λu=>by subst u;rw[H] at g1;cases g1;simp at g2
  refine ũ H (by simp) λC _ s5=>q C e (λc o W B O y u=>s5.extBut _ _ W (I _ _ y (X.extBut _ _ B (Z.extBut _ _ O (Y.extBut _ _ W u))))) ⟨R,s5.extBut _ _ ne g1,g2⟩
def next_item (D:Apart z ti to j1 j2 m1 m2) (S1:j4 P w A.in1 j1 m1 t1 v1) (S2:j4 P w A.in1 j2 m2 t2 v2)
 (gz:IsZip s.heap z ti to .none) (gi:YS s.heap ti (.ref j1) (.ref j2)) (go:YS s.heap to a b) (h1:t1 k s.heap) (h2:t2 k s.heap) (hx:v1 k=some x) (hy:v2 k=some y)
 (q:∀h',IsZip h' z ti to (ŋ s.heap.objs.size)->YS h' to x y->t1 (k+1) h'->t2 (k+1) h'->YS h' s.heap.objs.size x y->h'.objs.size=s.heap.objs.size+1 ->
 (∀c o,c≠z->c≠to->c≠j1->c≠j2->s.heap.get? c=some o->h'.get? c=some o)->Q (some (.ref s.heap.objs.size)) { s with heap:=h' }):Ú (î P w) A (ž (.ref z)) Q E s:=by
 have Z:s.TypeIs (.ref z) "zip":=⟨_,gz,rfl⟩;unfold ž;exact À (μ (ą (name:=ē "__next__") Z Z1
  (ý Z1 Z F.entry_zip_next (Om D S1 S2 gz gi go h1 h2 hx hy λh' a1 a2 Y X W V U=>Â (q h' a1 a2 Y X W V U)) (F.args_zip_next_1 _))))
def next_end (D:Apart z ti to j1 j2 m1 m2) (S1:j4 P w A.in1 j1 m1 t1 v1) (S2:j4 P w A.in1 j2 m2 t2 v2)
 (gz:IsZip s.heap z ti to .none) (gi:YS s.heap ti (.ref j1) (.ref j2)) (go:YS s.heap to a b) (h1:t1 k s.heap) (h2:t2 k s.heap) (BG:v1 k=none\/v2 k=none)
 (q:∀h',(∀c o,c≠z->c≠to->c≠j1->c≠j2->s.heap.get? c=some o->h'.get? c=some o)->Q none { s with heap:=h' }):Ú (î P w) A (ž (.ref z)) Q E s:=by
 have Z:s.TypeIs (.ref z) "zip":=⟨_,gz,rfl⟩;unfold ž;refine À (μ (ą (name:=ē "__next__") Z Z1
  (ý Z1 Z F.entry_zip_next (P6 D S1 S2 gz gi go h1 h2 BG λh' e Y X=>?_) (F.args_zip_next_1 _))))
 obtain⟨o,W,V⟩:=X;exact À (Y0 (T:="StopIteration") (b:=true) ⟨o,W,V⟩ isSubtype_stop (Â (q _ Y)))
end
end HZ
namespace L2
open PySem PySem.Spec PyProof.Rows
def RR {X:Cx} {π:List (à×Obj)} {σ:St} {H:Hp} {s:Æ} {a b:à} {xs:List V} (I:Inv X π σ H s) (h:aX X.K H a xs) (f:fk X π H b):a≠b:=by
 rintro rfl;obtain⟨f0,_,_,Y,_⟩:=f
 rcases h with (h | ⟨o,h⟩) | ⟨o,its,n,W,_⟩
 ·rw[f0] at h;cases h
 ·rw[f0] at h;cases h
 ·have Z:=I.mod.uu a o W
  rcases Y with z|z
  ·exact I.ok.mR a o Z z
  ·exact absurd (Ë (Ñ Z) (è I.ok.jo z)) (ù _)
def RS {X:Cx} {π:List (à×Obj)} {σ:St} {H:Hp} {s:Æ} {a b:à} {xs:List V} (I:Inv X π σ H s) (h:bo X.K H a xs) (f:fk X π H b):a≠b:=by
 rintro rfl;obtain⟨f0,_,_,Y,_⟩:=f
 rcases h with (h | ⟨o,h⟩) | ⟨o,its,n,W,_⟩
 ·rw[f0] at h;cases h
 ·rw[f0] at h;cases h
 ·have Z:=I.mod.uu a o W
  rcases Y with z|z
  ·exact I.ok.mR a o Z z
  ·exact absurd (Ë (Ñ Z) (è I.ok.jo z)) (ù _)
def Inv.Fh {X:Cx} {π:List (à×Obj)} {σ:St} {H:Hp} {s:Æ} {h':ō} {t':Nat} {ch:List à} (I:Inv X π σ H s) (k:∀b o,b∉ch->s.heap.get? b=some o->h'.get? b=some o) (hf:∀b∈ch,fk X π H b) :
  Inv X π σ H { s with heap:=h',toks:=t' }:=by
 have Y:∀b u,H b=some u->b∉ch:=λb u e z=>by rw[(hf b z).1] at e;cases e
 refine I.step (g':=s.gens) (d':=s.drawn) (ch:=ch) (λb W=>?_) (λb o _ _ Z e _=>k b o Z e) (λb o _ _ Z e _=>⟨o.slots,k b o Z e⟩) (λ_ _ _ _ n=>n) (λb o Z e=>⟨o,k b o Z e⟩) (λ_ _ e=>e) (λ_ _ _ e=>e)
  (λb P e=>⟨#[],by rw[e];simp⟩) (λm V=>?_) (λb u e=>?_) I.bare
 ·obtain⟨_,f1,_,U,f4,T⟩:=hf b W
  exact⟨U,f1,f4,T⟩
 ·obtain⟨o,S,R,Q,r⟩:=V
  exact⟨o,S,R,k _ o (λz=>(hf _ z).2.1 rfl) Q,r⟩
 ·refine(I.aC b u e).dB (λc v Z q=>k c v ?_ q) (λ_ q=>q) λ_ _ q=>q
  rcases Z with z|z
  ·rw[z];exact Y b u e
  ·exact Y c _ z
def Inv.Nj {X:Cx} {π:List (à×Obj)} {σ:St} {H:Hp} {s:Æ} {h':ō} {t':Nat} {ch:List à} {p:à} {u:HO} (I:Inv X π σ H s) (k:∀b o,b∉ch->s.heap.get? b=some o->h'.get? b=some o) (hf:∀b∈ch,fk X π H b)
  (hp:s.heap.objs.size<=p) (new:cL X.prog X.w (upd H p u) h' p u):Inv X π σ (upd H p u) { s with heap:=h',toks:=t' }:=by
 have Y:H p=none:=I.aC.fresh hp;have aC:bZ X.prog X.w (upd H p u) h':=(I.Fh (t':=t') k hf).aC.adopt Y new;refine I.step (g':=s.gens) (d':=s.drawn) (ch:=ch) (λb W=>?_) (λb o _ _ Z e _=>k b o Z e) (λb o _ _ Z e _=>⟨o.slots,k b o Z e⟩) (λb o _ e n=>?_) (λb o Z e=>⟨o,k b o Z e⟩) (λc P e=>by rw[bj (dF e Y)];exact e) (λc o v e=>by rw[bj (dF e Y)];exact e)
  (λc O e=>⟨#[],by rw[bj (dF e Y),e];simp⟩) (λm V=>?_) aC I.bare
 ·obtain⟨_,f1,_,U,f4,T⟩:=hf b W
  exact⟨U,f1,f4,T⟩
 ·rw[bj (ç (Ë (Ñ e) hp))]
  exact n
 ·obtain⟨o,S,R,Q,r⟩:=V
  exact⟨o,S,R,k _ o (λz=>(hf _ z).2.1 rfl) Q,r⟩
@[reducible] def iY:Bool->Ļ->Hp->à->List V->Prop
 |true=>aX
 |false=>bo
@[reducible] def j5:Bool->ō->à->Array Ê->Prop
 |true=>Heap.IsTuple
 |false=>Heap.IsList
@[reducible] def lX:Bool->ō->à->à->Nat->Prop
 |true=>Heap.IsTupleIter
 |false=>Heap.IsListIter
def Inv.qE {X:Cx} {π:List (à×Obj)} {σ:St} {H:Hp} {s:Æ} {a:à} {xs:List V} (I:Inv X π σ H s):∀{k},iY k X.K H a xs->∃its,Vals xs its/\j5 k s.heap a its.toArray
 |true,h=>by obtain⟨i,r,p,_⟩:=I.tuple h;exact⟨i,r,p⟩
 |false,h=>by obtain⟨i,r,p,_⟩:=I.list h;exact⟨i,r,p.isList⟩
def Inv.FY {X:Cx} {π:List (à×Obj)} {σ:St} {H:Hp} {s:Æ} {a:à} {xs ys:List V} (I:Inv X π σ H s):∀{k},iY k X.K H a xs->iY k X.K H a ys->xs=ys
 |true,h,g=>I.E8 h g
 |false,h,g=>I.FR h g
def wC {X:Cx} {π:List (à×Obj)} {σ:St} {H:Hp} {s:Æ} {a b:à} {xs:List V} (I:Inv X π σ H s):∀{k},iY k X.K H a xs->fk X π H b->a≠b
 |true,h,f=>RR I h f
 |false,h,f=>RS I h f
def xC (gh:A.handled=none) (i l:à) (its:Array Ê):∀k,HZ.j4 P w A i l (λn h=>lX k h i l n/\j5 k h l its) (λn=>its[n]?)
 |true=>HZ.P4 gh i l its
 |false=>HZ.P5 gh i l its
def wD (k:∀o,h.get? i=some o->h'.get? i=some o):∀{b},lX b h i l n->lX b h' i l n
 |true,x=>x.at k
 |false,x=>x.at k
def wa:∀{b},lX b h i l n->∃o,h.get? i=some o/\∀v,o.data≠.cell v
 |true,x=>by obtain⟨o,e,_,d⟩:=x;exact⟨o,e,λv q=>by rw[d] at q;cases q⟩
 |false,x=>by obtain⟨o,e,_,d⟩:=x;exact⟨o,e,λv q=>by rw[d] at q;cases q⟩
def xD (k l:Bool) (K:Ļ) (a b:à):It :=
 ⟨λi H=>∃Z Y x y,iY k K H a Z/\iY l K H b Y/\Z[i]?=some x/\Y[i]?=some y,λi H v X=>∃p x y,H p=none/\v=.ref p/\X=upd H p (.tup [x,y])/\∀Z Y,iY k K H a Z->iY l K H b Y->Z[i]?=some x/\Y[i]?=some y,
  λi H=>∃Z Y,iY k K H a Z/\iY l K H b Y/\(Z.length<=i\/Y.length<=i)⟩
abbrev Vc:=xD true true
structure TH (it:Nat->ō->Prop) (iZ:Nat->ō->Prop) (z ti to j1 j2:à) (i:Nat) (h:ō):Prop where
 z:IsZip h z ti to .none
 ti:YS h ti (.ref j1) (.ref j2)
 to:∃u v,YS h to u v
 h1:it i h
 h2:iZ i h
structure JU (z ti to j1 j2:à):Prop where
 a1:ti≠z
 a2:to≠z
 a3:j1≠z
 a4:j2≠z
 a5:ti≠to
 a6:ti≠j1
 a7:ti≠j2
 a8:to≠j1
 a9:to≠j2
 b0:j1≠j2
def Nk {k1 k2:Bool} {P:ô} {w:Ĉ} {K:Ļ} {elts:List ņ} {kk:Nat} {pos:Pos} (a b z ti to j1 j2:à) (F:JU z ti to j1 j2) :
  Turn P w K (.Tuple elts kk pos) (xD k1 k2 K a b) [z,ti,to,j1,j2] z (TH (λi h=>lX k1 h j1 a i) (λi h=>lX k2 h j2 b i) z ti to j1 j2) where
 mem:=by simp
 obj:=λi h Z c S=>by
  have M:c=z\/c=ti\/c=to\/c=j1\/c=j2:=by simpa using S
  rcases M with rfl|rfl|rfl|rfl|rfl
  ·exact⟨_,Z.z,λv q=>nomatch q⟩
  ·exact⟨_,Z.ti,λv q=>nomatch q⟩
  ·obtain⟨u,v,q⟩:=Z.to;exact⟨_,q,λv q=>nomatch q⟩
  ·exact wa Z.h1
  ·exact wa Z.h2
 keep:=λi h l Z k=>⟨k z (by simp) _ Z.z,k ti (by simp) _ Z.ti,by obtain⟨u,v,q⟩:=Z.to;exact⟨u,v,k to (by simp) _ q⟩,wD (λo e=>k j1 (by simp) o e) Z.h1,wD (λo e=>k j2 (by simp) o e) Z.h2⟩
 item:=by
  intro X L hw J S i j s σ H E I Y Z G;subst L hw J;obtain⟨f,d,x,y,V,U,ex,g⟩:=G;obtain⟨C,B,t⟩:=I.qE V;obtain⟨r,p,n⟩:=I.qE U;obtain⟨u,eu,ru⟩:=B.get ex;obtain⟨v,ev,rv⟩:=p.get g;have ne:∀c∈[z,ti,to,j1,j2],a≠c/\b≠c:=λc W=>⟨wC I V (Y c W),wC I U (Y c W)⟩;have D:HZ.Apart z ti to j1 j2 a b:=⟨F.a1,F.a2,F.a3,F.a4,F.a5,F.a6,F.a7,F.a8,F.a9,F.b0,(ne z (by simp)).1,(ne to (by simp)).1,(ne j1 (by simp)).1,(ne j2 (by simp)).1,(ne z (by simp)).2,(ne to (by simp)).2,(ne j1 (by simp)).2,(ne j2 (by simp)).2⟩;obtain⟨w1,w2,O⟩:=Z.to;have R:X.A.in1.handled=none:=I.ok.hd S;refine HZ.next_item D (xC R j1 a C.toArray k1) (xC R j2 b r.toArray k2) Z.z Z.ti O ⟨Z.h1,t⟩ ⟨Z.h2,n⟩ (by simpa using eu) (by simpa using ev) λl c1 c2 c3 c4 c5 c6 N=>⟨_,rfl,?_⟩;refine wpAny_letOwnedTupleGo_zip c1 λh2 d1 T=>?_;have hn:H s.heap.objs.size=none:=I.aC.fresh (aal _);have VW:z<s.heap.objs.size:=Ñ Z.z;have tO:IsTup h2 s.heap.objs.size #[u,v]:=⟨_,T.extBut _ _ (ŧ VW) c5,rfl,_,rfl⟩
  have I2:Inv X j σ (upd H s.heap.objs.size (.tup [x,y])) { s with heap:=h2,toks:=s.toks }:=I.Nj (ch:=[z,ti,to,j1,j2]) (λc o m e=>by
   have q:c≠z/\c≠ti/\c≠to/\c≠j1/\c≠j2:=by simpa using m
   exact T.extBut c o q.1 (N c o q.1 q.2.2.1 q.2.2.2.1 q.2.2.2.2 e)) Y (aal _) ⟨by show 2<=Û;decide,[u,v],.cons ru (.cons rv .nil),tO⟩
  refine⟨.ref s.heap.objs.size,_,I2,rfl,⟨_,x,y,hn,rfl,rfl,λcm X7 q1 q2=>?_⟩,?_,λc W=>?_⟩
  ·rw[I.FY q1 V,I.FY q2 U];exact⟨ex,g⟩
  ·refine⟨d1,T.extBut _ _ F.a1 (N _ _ F.a1 F.a5 F.a6 F.a7 Z.ti),⟨_,_,T.extBut _ _ F.a2 c2⟩,wD (λo e=>T.extBut _ _ F.a3 e) c3.1,wD (λo e=>T.extBut _ _ F.a4 e) c4.1⟩
  ·rw[bj]
   ·exact(Y c W).1
   ·intro e
    obtain⟨o,eo⟩:∃o,s.heap.get? c=some o:=by
     have M:c=z\/c=ti\/c=to\/c=j1\/c=j2:=by simpa using W
     rcases M with q|q|q|q|q
     ·rw[q];exact⟨_,Z.z⟩
     ·rw[q];exact⟨_,Z.ti⟩
     ·rw[q];exact⟨_,O⟩
     ·rw[q];obtain⟨o,e,_⟩:=wa Z.h1;exact⟨o,e⟩
     ·rw[q];obtain⟨o,e,_⟩:=wa Z.h2;exact⟨o,e⟩
    exact absurd (Ñ eo) (by rw[e];exact ù _)
 done:=by
  intro X L hw J S i j s σ H E I Y Z G;subst L hw J;obtain⟨f,d,V,U,hle⟩:=G;obtain⟨C,B,t⟩:=I.qE V;obtain⟨r,p,n⟩:=I.qE U;have ne:∀c∈[z,ti,to,j1,j2],a≠c/\b≠c:=λc W=>⟨wC I V (Y c W),wC I U (Y c W)⟩;have D:HZ.Apart z ti to j1 j2 a b:=⟨F.a1,F.a2,F.a3,F.a4,F.a5,F.a6,F.a7,F.a8,F.a9,F.b0,(ne z (by simp)).1,(ne to (by simp)).1,(ne j1 (by simp)).1,(ne j2 (by simp)).1,(ne z (by simp)).2,(ne to (by simp)).2,(ne j1 (by simp)).2,(ne j2 (by simp)).2⟩;obtain⟨w1,w2,O⟩:=Z.to;have R:X.A.in1.handled=none:=I.ok.hd S;have l1:=B.length;have l2:=p.length;refine HZ.next_end D (xC R j1 a C.toArray k1) (xC R j2 b r.toArray k2) Z.z Z.ti O ⟨Z.h1,t⟩ ⟨Z.h2,n⟩ ?_ λl N=>⟨rfl,I.Fh (t':=s.toks) (ch:=[z,ti,to,j1,j2]) (λc o m e=>by
   have q:c≠z/\c≠ti/\c≠to/\c≠j1/\c≠j2:=by simpa using m
   exact N c o q.1 q.2.2.1 q.2.2.2.1 q.2.2.2.2 e) Y⟩
  rcases hle with q|q
  ·left;simp;omega
  ·right;simp;omega
 self:=λA i s Q E Z h=>wpAny_pyIter_zip Z.z h
end L2
namespace HZ
open PySem PySem.Spec PyProof.Rows L2
@[reducible] noncomputable def uR:Bool->String
 |true=>"tuple_iterator"
 |false=>"list_iterator"
abbrev y1 (k:Bool) (h:ō) (m1:à):ō:=h.push { cls:=.type (uR k),data:=.fields #[.ref m1,.int 0 0] }
abbrev y2 (k l:Bool) (h:ō) (m1 m2:à):ō:=(y1 k h m1).push { cls:=.type (uR l),data:=.fields #[.ref m2,.int 0 0] }
abbrev y3 (k l:Bool) (h:ō) (m1 m2:à):ō:=(y2 k l h m1 m2).push { cls:=.type "tuple",data:=.seq #[.ref h.objs.size,.ref (y1 k h m1).objs.size] }
abbrev y4 (k l:Bool) (h:ō) (m1 m2:à):ō:=(y3 k l h m1 m2).push { cls:=.type "tuple",data:=.seq #[.none,.none] }
abbrev y5 (k l:Bool) (h:ō) (m1 m2:à):ō:=(y4 k l h m1 m2).push { cls:=.type "zip",data:=.fields #[.none,.bool false,.bool false,.ref (y2 k l h m1 m2).objs.size,.ref (y3 k l h m1 m2).objs.size] }
def IQ:∀{k},j5 k s.heap m xs->Q (.ref s.heap.objs.size) { s with heap:=s.heap.push { cls:=.type (uR k),data:=.fields #[.ref m,.int 0 0] } }->Ú (î P w) A (aag (.ref m)) Q E s
 |true,h,q=>wpAny_pyIter_tuple h q
 |false,h,q=>Ŵ h q
def Oo (o:Obj):∀{k},j5 k h m xs->j5 k (h.push o) m xs
 |true,x=>Heap.IsTuple.push x o
 |false,x=>Heap.IsList.push x o
def P7 (k l:Bool) (m1 m2:à) (xs ys:Array Ê) :
  Meets (Œ.«zip.__new__» ⟨[.type "zip",.ref m1,.ref m2],[]⟩) (λ_ R s=>j5 k s.heap m1 xs/\j5 l s.heap m2 ys/\R (.ok (.ret (.ref (y4 k l s.heap m1 m2).objs.size))) { s with heap:=y5 k l s.heap m1 m2 }) :=
 .of_wp λprog w A R s h=>by
  obtain⟨Z,g,d,Y,os⟩:=s;obtain⟨X,W,h⟩:=h;have U:=sub_zip;have V:j5 k (Shared.heap ⟨Z,g,d,Y,os⟩) m1 xs:=X;have L2:j5 l (Shared.heap ⟨Z.push { cls:=.type (uR k),data:=.fields #[.ref m1,.int 0 0] },g,d,Y,os⟩) m2 ys:=Oo _ W
  wp_walk using IQ V,IQ L2
  exact⟨_,rfl,h⟩
section
variable {P:ô} {w:Ĉ} {A:Ă} {E:Ê->Æ->Prop} {s:Æ}
def GR:∀{k},h.get? i=some { cls:=.type (uR k),data:=.fields #[.ref m,.int 0 0] }->lX k h i m 0
 |true,e=>⟨_,e,rfl,rfl⟩
 |false,e=>⟨_,e,rfl,rfl⟩
def Nl (h1:j5 k s.heap m1 xs) (h2:j5 l s.heap m2 ys)
 (h:∀h',IsZip h' (s.heap.objs.size+4) (s.heap.objs.size+2) (s.heap.objs.size+3) .none->YS h' (s.heap.objs.size+2) (.ref s.heap.objs.size) (.ref (s.heap.objs.size+1)) ->
   YS h' (s.heap.objs.size+3) .none .none->lX k h' s.heap.objs.size m1 0->lX l h' (s.heap.objs.size+1) m2 0->h'.objs.size=s.heap.objs.size+5 ->
 (∀c o,s.heap.get? c=some o->h'.get? c=some o)->Q (.ref (s.heap.objs.size+4)) { s with heap:=h' }):Ú (î P w) A (call (.type "zip") [.ref m1,.ref m2]) Q E s:=by
 refine callType_new F.called_zip (by decide) (F.typeCall_zip_2 _ _) (F.newCall_zip_2 _ _) (λobj=>F.args_object_init_3 obj _ _) F.entry_zip_new (P7 k l m1 m2 xs ys) ⟨h1,h2,?_⟩;have e1:(y1 k s.heap m1).objs.size=s.heap.objs.size+1:=Ą ..;have e2:(y2 k l s.heap m1 m2).objs.size=s.heap.objs.size+2:=by rw[Ą,e1]
 have Z:(y3 k l s.heap m1 m2).objs.size=s.heap.objs.size+3:=by rw[Ą,e2]
 have Y:(y4 k l s.heap m1 m2).objs.size=s.heap.objs.size+4:=by rw[Ą,Z]
 have V:(y5 k l s.heap m1 m2).objs.size=s.heap.objs.size+5:=by rw[Ą,Y]
 have X:(y5 k l s.heap m1 m2).get? (y4 k l s.heap m1 m2).objs.size=some _:=Ì _ rfl;have W:(y5 k l s.heap m1 m2).get? (y3 k l s.heap m1 m2).objs.size=some _:=Á _ (Ì _ rfl);have g3:(y5 k l s.heap m1 m2).get? (y2 k l s.heap m1 m2).objs.size=some _:=Á _ (Á _ (Ì _ rfl));have g2:(y5 k l s.heap m1 m2).get? (y1 k s.heap m1).objs.size=some _:=Á _ (Á _ (Á _ (Ì _ rfl)));have g1:(y5 k l s.heap m1 m2).get? s.heap.objs.size=some _:=Á _ (Á _ (Á _ (Á _ (Ì _ rfl))));show _/\_;rw[e2,Z,Y] at X;rw[e1,e2] at g3;rw[Z] at W;rw[e1] at g2;rw[Y];exact⟨⟨_,X,rfl⟩,h _ X g3 W (GR g1) (GR g2) V λc o q=>Á _ (Á _ (Á _ (Á _ (Á _ q))))⟩
end
end HZ
namespace L2
open PySem PySem.Spec PyProof.Rows
def Oq (n:Nat):JU (n+4) (n+2) (n+3) n (n+1):=by constructor<;>(show (_:Nat)≠_)<;>omega
section
variable {X:Cx} {elts:List ņ} {kk:Nat} {tp:Pos}
def IS (k l:Bool) (K:Ļ) (ta:TA):TI:=fun σ H R=>ta σ H λY Z=>∃a b X W,Y=[.ref a,.ref b]/\iY k K Z a X/\iY l K Z b W/\R (xD k l K a b) Z
noncomputable abbrev TJ:=IS true true
def Nm:ā "zip"=some (.type "zip"):=by decide +kernel
def RT {π:List (à×Obj)} {σ:St} {H:Hp} {s:Æ} (I:Inv X π σ H s):∀b∈[s.heap.objs.size+4,s.heap.objs.size+2,s.heap.objs.size+3,s.heap.objs.size,s.heap.objs.size+1],fk X π H b:=λb Y=>by
 have Z:s.heap.objs.size<=b:=by
  have q:b=s.heap.objs.size+4\/b=s.heap.objs.size+2\/b=s.heap.objs.size+3\/b=s.heap.objs.size\/b=s.heap.objs.size+1:=by simpa using Y
  omega
 exact I.tM Z (I.aC.fresh Z)
def P8 {k l:Bool} {a b:ņ} {ta:TA} {p pos:Pos} (hg:Gl X "zip") (hm:X.mg "zip"=none) (ha:PA X [a,b] ta) (hs:Ý [a,b] X.env=[(false,Ž a X.env),(false,Ž b X.env)]:=by rfl) (eY:Ý [b] X.env=[(false,Ž b X.env)]:=by rfl) :
  PI X (.Tuple elts kk tp) (.Call (.Name "zip" p) [a,b] [] pos) (IS k l X.K ta):=by
 intro V s σ H R I h;refine Call_ (nV I hg hm Nm (Ł (aJ (ha pos V s σ H _ I h) λz Z ⟨y,U,Y,T,S⟩=>?_) (by rw[hs,eY]) (by rw[eY];rfl)));obtain⟨a,b,xs,ys,e,Q,P,q⟩:=S;subst e;obtain⟨u,v,rfl,O,N⟩:=vals2 T;cases O;cases N;obtain⟨M,_,L⟩:=Y.qE Q;obtain⟨J,_,G⟩:=Y.qE P;refine HZ.Nl (xs:=M.toArray) (ys:=J.toArray) L G λF W E D C B x A=>?_
 refine wpAny_pyIter_zip (s:={ Z with heap:=F }) W ?_
 exact⟨_,[Z.heap.objs.size+4,Z.heap.objs.size+2,Z.heap.objs.size+3,Z.heap.objs.size,Z.heap.objs.size+1],_,_,U,rfl,Y.kept (t':=Z.toks) A,Nk a b _ _ _ _ _ (Oq _),⟨W,E,⟨_,_,D⟩,C,B⟩,RT Y,q⟩
def P9 {a b:ņ} {ta:TA} {p pos:Pos} (hg:Gl X "zip") (hm:X.mg "zip"=none) (ha:PA X [a,b] ta) (hs:Ý [a,b] X.env=[(false,Ž a X.env),(false,Ž b X.env)]:=by rfl) (eY:Ý [b] X.env=[(false,Ž b X.env)]:=by rfl) :
  PI X (.Tuple elts kk tp) (.Call (.Name "zip" p) [a,b] [] pos) (TJ X.K ta):=P8 hg hm ha hs eY
end
end L2
namespace PySem
section
variable {P:ô} {w:Ĉ} {A:Ă} {E:Ê->Æ->Prop} {s:Æ}
end
end PySem
namespace L2
open PySem PySem.Spec PyProof.Rows
def map_getD (ns:List Int):(Ó ns.length).map (λi=>ns.getD i 0)=ns:=by
 apply Ÿ;intro i;rw[Ü];by_cases h:i<ns.length
 ·rw[ĥ h,É h]
  simp[Ś,É h]
 ·rw[Ģ (by simpa using h),Ģ (by omega)]
  rfl
section
variable {X:Cx}
end
section
variable {κ:Type} [DecidableEq κ]
end
section
variable {P:ô} {w:Ĉ} {H:Hp} {h:ō} {a:à}
end
section
variable {X:Cx} {π:List (à×Obj)} {σ:St} {H:Hp} {s:Æ} {a:à} {y v:V} {u r:Ê} {o:Option V} {A:Ă} {E:Ê->Æ->Prop}
def Inv.big (I:Inv X π σ H s):YC<s.heap.objs.size:=by
 have h:ó<s.heap.objs.size:=(I.mod.glob.keeps I.bk).lt;exact Nat.lt_trans (by decide) h
def Qa (I:Inv X π σ H s) (mu:uq (H a)) (hs:Ĵ a s.heap h') (he:∃q,h'.get? a=some q) (new:cL X.prog X.w (upd H a ob) h' a ob) :
  Inv X π σ (upd H a ob) { s with heap:=h',toks:=t' } :=
 I.write (x:=a) (e:=a) mu (.inl rfl) (λb q Z z=>(hs.2 b Z).trans z) he new
end
section
variable {X:Cx} {π:List (à×Obj)} {σ:St} {H:Hp} {s:Æ} {a:à} {ai:List (Key×V)} {k:Key} {u:Ê} {A:Ă} {E:Ê->Æ->Prop}
end
section
variable {X:Cx} {o i e value:ņ} {pos pos' BB:Pos} {td ty tv:TE}
end
section
variable {X:Cx} {pos:Pos}
end
structure M1 (X:Cx) (o:ņ) (m:Str) (apos:Pos) (e:ņ) (cY:Pos):Prop where
 base:attributeBase o m X.env (Ž o X.env)=Ž o X.env
 kU:((Yt cY (Ý [e] X.env)).all (λx=>!x.1)&&(backToKw cY (keywordEach [] X.env)).all (λx=>x.1.isSome)
  && decide (([e]:List ņ).length+([]:List Keyword).length+(if ([]:List Keyword).isEmpty then 0 else 1)<30))=true
 line:(apos.endLine==cY.line)=true
 trees:Yt cY (Ý [e] X.env)=[(false,Ž e X.env)]
structure M2 (X:Cx) (o:ņ) (m:Str) (apos:Pos) (e f:ņ) (cY:Pos):Prop where
 base:attributeBase o m X.env (Ž o X.env)=Ž o X.env
 kU:((Yt cY (Ý [e,f] X.env)).all (λx=>!x.1)&&(backToKw cY (keywordEach [] X.env)).all (λx=>x.1.isSome)
  && decide (([e,f]:List ņ).length+([]:List Keyword).length+(if ([]:List Keyword).isEmpty then 0 else 1)<30))=true
 line:(apos.endLine==cY.line)=true
 trees:Yt cY (Ý [e,f] X.env)=[(false,Ž e X.env),(false,Ž f X.env)]
section
variable {X:Cx} {π:List (à×Obj)} {σ:St} {H:Hp} {s:Æ} {a:à} {y d:V} {u r:Ê} {o:Option V} {A:Ă} {E:Ê->Æ->Prop}
end
section
variable {X:Cx} {o e f:ņ} {apos cY:Pos} {td ty tx:TE}
end
section
variable {X:Cx} {π:List (à×Obj)} {σ:St} {H:Hp} {s:Æ} {a:à} {ai:List (Key×V)} {A:Ă} {E:Ê->Æ->Prop}
end
section
variable {X:Cx} {π:List (à×Obj)} {σ:St} {H:Hp} {s:Æ} {a:à} {y:V} {u:Ê} {A:Ă} {E:Ê->Æ->Prop}
end
section
variable {K:Ļ} {caps:St} {H:Hp} {tf:TT} {te:TE} {Q:VK}
end
noncomputable def HL (sc:ZF) (on:List (Str×YE)) (oN N:List Str) (nt:Nat) (cap:List Nat):Bool :=
 decide (sc.kind=.function)&&sc.names.all (λx=>decide (x.2≠.cell))&&sc.names.all (λx=>decide (x.2=.local->sc.names.lookup x.1=some .local)) &&
 sc.names.all (λx=>decide (x.2=.free->sc.names.lookup x.1=some .free/\(on.lookup x.1=some .cell\/on.lookup x.1=some .free)))&&decide (N.length=nt+cap.length) &&
 (Ó cap.length).all (λk=>match cap[k]? with
  |some j=>match oN[j]? with
   |some x=>decide (N[nt+k]?=some x)&&decide ((x,NameKind.free)∈sc.names)
   |none=>false
  |none=>true)
def A0 (h:HL sc X.env.scope.names X.N N nt cap=true):sC X sc N nt cap:=by
 unfold HL at h;simp only[È,ë,Å] at h;obtain⟨⟨⟨⟨⟨Z,Y⟩,W⟩,V⟩,U⟩,T⟩:=h;refine⟨Z,Y,W,λx S e=>V x S e,U,λk j e=>?_⟩;have R:k<cap.length:=(Ç.mp e).1;have:=T k (ò.mpr R);rw[e] at this;dsimp only at this
 cases ex:X.N[j]? with
 |none=>rw[ex] at this;cases this
 |some x =>
  rw[ex] at this;simp only[È,Å] at this;exact⟨x,rfl,this.1,this.2⟩
end L2
namespace TS
open PySem
abbrev fU (l:List Nat):Prop:=l.Pairwise (· < ·)
def Ot (xs:Array Nat) (k d:Nat):xs.getD k d=xs.toList.getD k d:=by
 cases xs with
 |mk l =>
  by_cases h:k<l.length
  ·simp[aad,Ś,h]
  ·simp[aad,Ś,h]
def nQ (h:fU l) (oQ:a<b) (hb:b<l.length):l.getD a 0<l.getD b 0:=by
 have:=List.pairwise_iff_getElem.mp h a b (by omega) hb oQ;simpa [Ś,É hb,É (show a<l.length by omega)] using this
def Ou (l:List Nat) (hk:k<l.length) (d e:Nat):l.getD k d=l.getD k e:=by
 simp[Ś,É hk]
theorem zO (xs:Array Nat) (j:Nat) (hr:fU xs.toList):∀(fuel lo hi:Nat),hi-lo<=fuel->lo<=hi->hi<=xs.toList.length->(∀k,k<lo->xs.toList.getD k 0<j)->(∀k,hi<=k->k<xs.toList.length->j<=xs.toList.getD k 0) ->
  SetTable.below.go xs j fuel lo hi<=xs.toList.length/\(∀k,k<SetTable.below.go xs j fuel lo hi->xs.toList.getD k 0<j)/\(∀k,SetTable.below.go xs j fuel lo hi<=k->k<xs.toList.length->j<=xs.toList.getD k 0)
 |0,lo,hi,S,R,Z,Y,X=>by
  have e:lo=hi:=by omega
  subst e;exact⟨Z,Y,X⟩
 |fuel+1,lo,hi,S,R,Z,Y,X=>by
  unfold SetTable.below.go;by_cases U:lo<hi
  ·rw[é U]
   dsimp only;have T:(lo+hi) / 2<xs.toList.length:=by omega
   rw[Ot,Ou _ T j 0];by_cases W:xs.toList.getD ((lo+hi) / 2) 0<j
   ·rw[é W]
    refine zO xs j hr fuel _ _ (by omega) (by omega) Z (λk Q=>?_) X;by_cases V:k=(lo+hi) / 2
    ·rw[V];exact W
    ·exact Nat.lt_trans (nQ hr (by omega) T) W
   ·rw[ð W]
    refine zO xs j hr fuel _ _ (by omega) (by omega) (by omega) Y (λk Q V=>?_);by_cases P:k=(lo+hi) / 2
    ·rw[P];omega
    ·have:=nQ hr (show (lo+hi) / 2<k by omega) V
     omega
  ·rw[ð U]
   have e:lo=hi:=by omega
   subst e;exact⟨Z,Y,X⟩
def vI (xs:Array Nat) (j:Nat) (hr:fU xs.toList):õ xs j<=xs.toList.length/\(∀k,k<õ xs j->xs.toList.getD k 0<j)/\(∀k,õ xs j<=k->k<xs.toList.length->j<=xs.toList.getD k 0):=by
 unfold õ;exact zO xs j hr xs.size 0 xs.size (by omega) (ď _) (by simp) (λk Z=>by omega) (λk Z Y=>by simp at Y;omega)
def Mc {l:List Nat} {p j:Nat} (h:∀k,k<p->l.getD k 0<j):∀x∈l.take p,x<j:=by
 intro x Y;obtain⟨k,X,e⟩:=ś Y;have Z:k<p/\k<l.length:=by rw[Ğ] at X;omega
 have:=h k Z.1;rw[List.getElem_take] at e;rw[<- e];simpa [Ś,É Z.2] using this
def Md {l:List Nat} {p j:Nat} (h:∀k,p<=k->k<l.length->j<=l.getD k 0):∀x∈l.drop p,j<=x:=by
 intro x Y;obtain⟨k,X,e⟩:=ś Y;have Z:p+k<l.length:=by rw[YY] at X;omega
 have:=h (p+k) (by omega) Z;rw[List.getElem_drop] at e;rw[<- e];simpa [Ś,É Z] using this
def FZ {xs:Array Nat} {j:Nat} (hr:fU xs.toList) (hn:xs[õ xs j]?≠some j):fU (Ź xs (õ xs j) j).toList:=by
 obtain⟨T,V,U⟩:=vI xs j hr;rw[SetTable.toList_insertAt];have a1:=Mc V;have a2:∀x∈xs.toList.drop (õ xs j),j<x:=by
  intro x hx;have Y:=Md U;have X:fU (xs.toList.drop (õ xs j)):=ZG (List.drop_sublist _ _) hr
  cases Z:xs.toList.drop (õ xs j) with
  |nil=>rw[Z] at hx;cases hx
  |cons y r =>
   rw[Z] at X hx Y;have hy:j≠y:=by
    intro e;apply hn;have:(xs.toList.drop (õ xs j))[0]?=some y:=by rw[Z];rfl
    rw[List.getElem?_drop] at this;have e2:xs.toList[õ xs j]?=some y:=by simpa using this
    rw[<- ú,e2,e]
   have W:j<y:=Nat.lt_of_le_of_ne (Y y Î) hy
   rcases Ò.mp hx with e|hx
   ·rw[e];exact W
   ·exact Nat.lt_trans W ((ÿ.mp X).1 x hx)
 first
  |(refine ZP.mpr ⟨ZG (List.take_sublist _ _) hr,ÿ.mpr ⟨a2,ZG (List.drop_sublist _ _) hr⟩,λx hx y hy=>?_⟩
    rcases Ò.mp hy with e|hy
    ·rw[e];exact a1 x hx
    ·exact Nat.lt_trans (a1 x hx) (a2 y hy))
  |trace_state
theorem zP (t:ł) (h:Int):∀(fuel:Nat) (p:SetTable.Probe) (j:Nat) (dm:Option Nat),(∀d,p.dummy=some d->t.slot d=.dummy)->SetTable.probe.go t (λ_=>h+1) h fuel p=some (.empty j dm)->t.slot j=.empty/\∀d,dm=some d->t.slot d=.dummy
 |0,p,j,dm,Y,e=>by simp[SetTable.probe.go] at e
 |fuel+1,p,j,dm,Y,e=>by
  unfold SetTable.probe.go at e
  cases hs:t.slot p.j with
  |empty =>
   rw[hs] at e;simp at e;rw[<- e.1,<- e.2];exact⟨hs,Y⟩
  |dummy =>
   rw[hs] at e;refine zP t h fuel _ j dm (λd Z=>?_) e;unfold SetTable.advance at Z;split at Z
   ·simp at Z;rw[<- Z];exact hs
   ·simp at Z;rw[<- Z];exact hs
  |live i =>
   rw[hs] at e;have X:(h+1==h)=false:=by simp;omega
   simp only[X,Ã,ã] at e;refine zP t h fuel _ j dm (λd Z=>?_) e;unfold SetTable.advance at Z;split at Z
   ·exact Y d Z
   ·exact Y d Z
def yW {t:ł} {j:Nat} (h:t.slot j=.empty\/t.slot j=.dummy):t.place[õ t.place j]?≠some j:=by
 intro e;have:t.slot j=.live (õ t.place j):=by
  unfold ZS;simp[e]
 rw[this] at h
 rcases h with h|h<;>cases h
def Nn {t:ł} {h:Int} {j:Nat} {b:Bool} (e:t.freeSlot h=some (j,b)):t.place[õ t.place j]?≠some j:=by
 unfold SetTable.freeSlot SetTable.probe at e;split at e
 ·rename_i Y Z X
  have k:=zP t h _ _ Y Z (λd W=>by simp[SetTable.probeStart] at W) X;simp at e;rw[<- e.1]
  cases Z with
  |none=>exact yW (.inl k.1)
  |some d=>exact yW (.inr (k.2 d rfl))
 ·cases e
structure gK (led:Bool) (t:ł):Prop where
 led:t.led=led
 rise:t.plain=true->fU t.place.toList
def vG (h:gK led t) (n:Nat):gK led (t.standIn n):=⟨h.led,λz=>by simp[SetTable.standIn] at z⟩
def MB {led:Bool} {t:ł} (h:gK led t) (es:Array (Int×Ê)) (hs:Int) (x:Ê):gK led (layNew t es hs x).2.1:=by
 unfold layNew;split
 ·rename_i slot Y e
  dsimp only;unfold SetTable.orStandIn;have Z:gK led (t.put slot).1:=⟨h.led,λz=>FZ (h.rise z) (Nn e)⟩;split
  ·exact Z
  ·exact vG Z _
 ·exact vG h _
def Ov {mask finger moves:Nat} {led plain:Bool} {hs:Array Int} {o:Array Nat} (e:SetTable.laid mask finger moves led plain hs=some (t,o)):gK led t/\t.plain=plain:=by
 unfold SetTable.laid at e
 cases X:aae mask hs with
 |none=>rw[X] at e;simp at e
 |some owner =>
  rw[X] at e;simp at e;obtain⟨e1,e2⟩:=e;subst e1;refine⟨⟨rfl,λ_=>?_⟩,rfl⟩;show fU (ZH _).toList;simp only[Zj];refine List.pairwise_filterMap.mpr ?_;refine List.Pairwise.imp (R:=(· < ·)) ?_ (List.pairwise_lt_range);intro a b U x Z y Y
  cases W:(owner[a]?.getD none) with
  |none=>rw[W] at Z;simp at Z
  |some q =>
   cases V:(owner[b]?.getD none) with
   |none=>rw[V] at Y;simp at Y
   |some r =>
    rw[W] at Z;rw[V] at Y;simp at Z Y;omega
def Np (h:gK led t) (es:Array (Int×Ê)) (n:Nat):gK led (relayAll t es n).2.1:=by
 unfold relayAll;split
 ·rename_i Z o e
  dsimp only;split
  ·unfold SetTable.relaid at e
   have k:=Ov e;exact⟨k.1.led.trans h.led,k.1.rise⟩
  ·exact vG h _
 ·exact vG h _
def Fi (led:Bool):gK led (.fresh 0 0 led):=⟨rfl,λ_=>List.Pairwise.nil⟩
open PySem.Spec PyProof.Rows
section
variable {P:ô} {w:Ĉ} {A:Ă} {E:Ê->Æ->Prop} {s:Æ} {led:Bool}
def fV (P:ô) (w:Ĉ) (led:Bool) (h:ō) (a:à) (S:Int->Bool) (n:Nat):Prop :=
 ∃o Z Y t,h.get? a=some o/\o.ExactSet/\o.data=.set Z Y t/\ElemsOf (ŝ P w) Z.toList/\(∀k,S k=true↔∃e∈Z.toList,(ŝ P w).is k e.2=true)/\Z.size<Yv/\t.fits Z.size=true/\Z.size=n/\gK led t
def fV.at (x:fV P w led h a S n) (k:∀o,h.get? a=some o->h'.get? a=some o):fV P w led h' a S n:=by
 obtain⟨o,Z,Y,t,X,r⟩:=x;exact⟨o,Z,Y,t,k o X,r⟩
def fV.congr (x:fV P w led h a S n) (e:∀k,S k=S' k) (en:n=n'):fV P w led h a S' n':=by
 obtain rfl:S=S':=funext e;subst en;exact x
def zQ {a:à} {u:Obj} {es es':Array (Int×Ê)} {ep:Nat} {t t':ł} {h:ō} (hu:h.get? a=some u) (hx:u.ExactSet) (hd:u.data=.set es ep t) {S:Int->Bool}
  (c1:ElemsOf (ŝ P w) es'.toList) (c2:∀k,S k=true↔∃e∈es'.toList,(ŝ P w).is k e.2=true) (c3:es'.size<Yv) (c4:t'.fits es'.size=true) (c5:gK led t') :
  (h.update a (Za es' t')).get? a=some { u with data:=.set es' (ep+1) t' }/\fV P w led (h.update a (Za es' t')) a S es'.size:=by
 have g:=(SetOf_store (knd:=ŝ P w) hu hx hd c1 c2 c3 c4).1;exact⟨g,_,es',ep+1,t',g,hx,rfl,c1,c2,c3,c4,rfl,c5⟩
def Qb {a:à} {S:Int->Bool} {n:Nat} {k:Int} {tk:Tok} {Q:Bool->Æ->Prop} (hS:fV P w led s.heap a S n) (IT:n+1<Yv)
  (h:∀h',Ĵ a s.heap h'->fV P w led h' a (λj=>S j||decide (j=k)) (if S k then n else n+1)->Q (!S k) { s with heap:=h' }) :
  Ú (î P w) A (setAddHashed a (.int k tk) ((ŝ P w).hash k)) Q E s:=by
 obtain⟨u,W,d,t,R,H,O,G,F,m,B,y,i⟩:=hS;have ky:(ŝ P w).is k (.int k tk)=true:=intKind_is _ _ _ _;have sc:(ZY k tk).scannable=true:=rfl;have CH:W.size+1<Yv:=by rw[y];exact IT
 unfold setAddHashed setAddHashedIn;refine ĝ ?_;refine À (Ĳ R O B ?_);dsimp only;rw[byScan_of sc m G,é rfl];unfold setAddByScan;refine À (À (Ţ ?_));refine À (wpAny_setScan_of ky R O B G ?_)
 cases g:W.toList.findIdx? (λe=>(ŝ P w).is k e.2) with
 |some j =>
  dsimp only;obtain⟨c,pj,_⟩:=List.findIdx?_eq_some_iff_getElem.mp g;have K:S k=true:=(F k).mpr ⟨W.toList[j],YZ c,pj⟩;have q:=h s.heap (Heap.SameBut.refl a s.heap) ⟨u,W,d,t,R,H,O,G,λj'=>by
   rw[Ŝ,Å,<- F j'];exact⟨λz=>z.elim id λe=>by rw[e];exact K,Zb⟩,m,B,by rw[K];exact y,i⟩
  rw[K] at q;exact Â (Â q)
 |none =>
  dsimp only;have K:S k=false:=by
   rw[<- υ,F k];rintro ⟨e,X,pe⟩;have z:=List.findIdx?_eq_none_iff.mp g e X;rw[pe] at z;cases z
  have way:∀(b:Bool) {x:Æ} {v:Unit->Æ->Prop},v () x->Ú (î P w) A (match b with|true=>rule "set.scan.the-table-gave-way"|false=>pure ()) v E x :=
   λb x v q=>by cases b<;>first|exact Â q|exact Ţ q
  have pm:=layNew_perm t W ((ŝ P w).hash k) (.int k tk);have r:=layNew_fits t W ((ŝ P w).hash k) (.int k tk);have D:=MB i W ((ŝ P w).hash k) (.int k tk);generalize layNew t W ((ŝ P w).hash k) (.int k tk)=L at pm r D |-;obtain⟨Z,t1,XR,XY⟩:=L;dsimp only at pm r D |-;rw[YG] at pm;have p:ElemsOf (ŝ P w) Z.toList:=(G.push ky sc).perm pm;have o:∀j,(S j||decide (j=k))=true↔∃e∈Z.toList,(ŝ P w).is j e.2=true:=mem_push_iff ky F pm;have z1:Z.size=n+1:=by
   have l:=pm.length_eq;rw[í,ä,ä,y] at l;exact l
  have V:Z.size<Yv:=by omega
  refine À (way _ ?_);obtain⟨g1,f⟩:=zQ (S:=λj=>S j||decide (j=k)) R H O p o V r D;have C:=Ď s.heap a (Za Z t1)
  have fin:∀h',Ĵ a s.heap h'->fV P w led h' a (λj=>S j||decide (j=k)) Z.size->Q true { s with heap:=h' }:=λh' sb T=>by
   have q:=h h' sb;rw[K] at q;rw[z1] at T;exact q T
  have Y:=relayAll_perm t1 Z (Ű Z.size);have N:=relayAll_fits t1 Z (Ű Z.size);have M:=Np D Z (Ű Z.size);have hv:hashByValue 8 (ZY k tk)=pure true:=rfl;split
  ·refine À ?_
   rw[hv];refine Â ?_;simp only[ø];refine À (ź R O ?_ (YH V));split
   ·generalize relayAll t1 Z (Ű Z.size)=L2 at Y N M |-
    obtain⟨J,t2,TL⟩:=L2;dsimp only at Y N M |-;have U:J.size=Z.size:=by
     have l:=Y.length_eq;rwa [ä,ä] at l
    have f2:∀j,(S j||decide (j=k))=true↔∃e∈J.toList,(ŝ P w).is j e.2=true:=λj=>(o j).trans ⟨λ⟨e,X,q⟩=>⟨e,Y.mem_iff.mpr X,q⟩,λ⟨e,X,q⟩=>⟨e,Y.mem_iff.mp X,q⟩⟩;refine À (way _ ?_);refine À (ź g1 rfl ?_ (YH (by rw[U];exact V)));obtain⟨g2,I⟩:=zQ (S:=λj=>S j||decide (j=k)) (led:=led) g1 H rfl (p.perm Y) f2 (by rw[U];exact V) N M;rw[U] at I;exact Â (Â (fin _ (C.trans (Ď _ a _)) I))
   ·exact Â (Â (fin _ C f))
  ·refine À (Â ?_)
   simp only[ø];refine À (ź R O ?_ (YH V));split
   ·generalize relayAll t1 Z (Ű Z.size)=L2 at Y N M |-
    obtain⟨J,t2,TL⟩:=L2;dsimp only at Y N M |-;have U:J.size=Z.size:=by
     have l:=Y.length_eq;rwa [ä,ä] at l
    have f2:∀j,(S j||decide (j=k))=true↔∃e∈J.toList,(ŝ P w).is j e.2=true:=λj=>(o j).trans ⟨λ⟨e,X,q⟩=>⟨e,Y.mem_iff.mpr X,q⟩,λ⟨e,X,q⟩=>⟨e,Y.mem_iff.mp X,q⟩⟩;refine À (way _ ?_);refine À (ź g1 rfl ?_ (YH (by rw[U];exact V)));obtain⟨g2,I⟩:=zQ (S:=λj=>S j||decide (j=k)) (led:=led) g1 H rfl (p.perm Y) f2 (by rw[U];exact V) N M;rw[U] at I;exact Â (Â (fin _ (C.trans (Ď _ a _)) I))
   ·exact Â (Â (fin _ C f))
end
def Lu:entryFor table "set.__iter__"=some Œ.«frozenset.__iter__»:=entryFor_alias (id':="frozenset.__iter__") (by kernel_rfl) rfl (by decide +kernel) (by kernel_rfl)
def jz:Slot "set_iterator" "__next__" "set_iterator.__next__" :=
 .of (owner:="set_iterator") (n:="__next__") (by rw[typeLookup_type,ZI];kernel_rfl) (by decide +kernel) (by decide +kernel) (by decide +kernel)
  (by first|exact .inl (by decide +kernel)|exact .inr (by decide +kernel)) (by rw[isSubtype_type];kernel_rfl)
def vv:entryFor table "set_iterator.__next__"=some Œ.«set_iterator.__next__»:=entryFor_of_tree (by kernel_rfl)
def vA (a:Ê):argsOk "set_iterator.__next__" ⟨[a],[]⟩:=by unfold argsOk;kernel_rfl
def Es:Slot "set_iterator" "__iter__" "set_iterator.__iter__" :=
 .of (owner:="set_iterator") (n:="__iter__") (by rw[typeLookup_type,ZI];kernel_rfl) (by decide +kernel) (by decide +kernel) (by decide +kernel)
  (by first|exact .inl (by decide +kernel)|exact .inr (by decide +kernel)) (by rw[isSubtype_type];kernel_rfl)
def iK (h:ō) (I a:à) (first:Ê) (i n ep:Nat):Prop:=∃o,h.get? I=some o/\o.cls=.type "set_iterator"/\o.data=.fields #[first,.int i 0,.ref a,.int n 0,.int ep 0]
section
variable {P:ô} {w:Ĉ} {A:Ă} {E:Ê->Æ->Prop} {s:Æ}
def GS {slot i n ep nx:Nat} {es:Array (Int×Ê)} {Q:Option Ê->Æ->Prop} (hit:iK s.heap I a (.int slot 0) i n ep)
 (hu:s.heap.get? a=some u) (hd:u.data=.set es ep t) (hf:t.fits es.size=true) (hn:es.size=n)
 (hs:∀(A':Ă) (Q':Option (Ê×Nat)->Æ->Prop) (E':Ê->Æ->Prop),Q' (some (x,nx)) s->Ú (î P w) A' (setNext a slot i ep) Q' E' s)
 (hQ:∀h',iK h' I a (.int nx 0) (i+1) n ep->Ĵ I s.heap h'->Q (some x) { s with heap:=h' }):Ú (î P w) A (ž (.ref I)) Q E s:=by
 obtain⟨o,Y,X,Z⟩:=id hit;have W:s.TypeIs (.ref I) "set_iterator":=⟨o,Y,X⟩;unfold ž;refine À (μ (ą (name:=ē "__next__") W jz
  (ý jz W vv ?_ (vA _))))
 unfold Œ.«set_iterator.__next__» slotArgs;simp only[Y1,ï,Ã,↓reduceIte,bind_assoc,û,ğ];refine À (Â ?_);refine À (YU Y Z ?_);dsimp only;refine À (ν hu hd hf ?_);rw[hn];simp only[ğ,Ã,↓reduceIte,č];refine À (hs _ _ _ ?_);dsimp only;refine À (ŕ Y Z (by simp) ?_);refine À (ŕ (Ě _ Y (ľ (ċ Z _))) (ċ Z _) (by simp) ?_);refine Â ⟨x,rfl,Â (hQ _ ⟨_,Ě _ (Ě _ Y (ľ (ċ Z _))) (ľ (ċ (ċ Z _) _)),(YF ..).trans ((YF ..).trans X),?_⟩ ((Ď ..).trans (Ď ..)))⟩;rw[ċ (ċ Z _)];simp[ŋ]
def MC (hm:m≠0) (h:Q (w.draws src (s.drawn.get src) % m) { s with drawn:=s.drawn.bump src }):Ú (î P w) A (choose src m) Q E s:=fun Z p Y=>by
 unfold choose;rw[Sem.wp_choose];exact⟨hm,h⟩
def Fj (hh:A.handled=none) (ho:s.heap.get? I=some o) (dD:o.data=.fields vs) (h2:2<vs.size)
 (hQ:∀h',Zz I s.heap h'->Q none { s with heap:=h' }) :
  Ú (î P w) A.in1 (setField (.ref I) 2 .none >>= λ_=>newExc (.type "StopIteration") [] >>= λe=>(raiseNew e:Sem Fin)) (λfin s'=>∃v,fin=Fin.done (Flow.ret v)/\Ú (î P w) A (pure (some v)) Q E s')
   (λe s'=>Ú (î P w) A (isInstance e (Ų "StopIteration") >>= λb=>if b=true then pure none else throw e) Q E s') s:=by
 refine À (ŕ ho dD h2 ?_);refine À ?_;simp only[newExc,newTuple];refine À (ö ?_ (by size_fits))
 refine À (m:=YR _ _) (ι (a:=Value.none) (by first|rfl | (simp only[YR];rfl)) ?_)
 refine ö ?_ (by size_fits);simp only[raiseNew];refine À (wpAny_handled ?_)
 first|rw[show A.in1.handled=none from hh]|rw[hh]
 refine À (Â (wpAny_throw ?_));refine À (Y0 (T:="StopIteration") (b:=true) ⟨_,Ì _ rfl,rfl⟩ isSubtype_stop ?_);exact Â (hQ _ (((Ď ..).extBut.push _).push _))
def HM {slot i n ep:Nat} {es:Array (Int×Ê)} {Q:Option Ê->Æ->Prop} (hh:A.handled=none) (hit:iK s.heap I a (.int slot 0) i n ep)
 (hu:s.heap.get? a=some u) (hd:u.data=.set es ep t) (hf:t.fits es.size=true) (hn:es.size=n)
 (hs:∀(A':Ă) (Q':Option (Ê×Nat)->Æ->Prop) (E':Ê->Æ->Prop),Q' none s->Ú (î P w) A' (setNext a slot i ep) Q' E' s)
 (hQ:∀h',Zz I s.heap h'->Q none { s with heap:=h' }):Ú (î P w) A (ž (.ref I)) Q E s:=by
 obtain⟨o,Z,W,Y⟩:=id hit;have X:s.TypeIs (.ref I) "set_iterator":=⟨o,Z,W⟩;unfold ž;refine À (μ (ą (name:=ē "__next__") X jz
  (ý jz X vv ?_ (vA _))))
 unfold Œ.«set_iterator.__next__» slotArgs;simp only[Y1,ï,Ã,↓reduceIte,bind_assoc,û,ğ];refine À (Â ?_);refine À (YU Z Y ?_);dsimp only;refine À (ν hu hd hf ?_);rw[hn];simp only[ğ,Ã,↓reduceIte,č];refine À (hs _ _ _ ?_);dsimp only;exact Fj hh Z Y (by simp) hQ
def Ox {i n ep pl:Nat} {es:Array (Int×Ê)} {x:Int×Ê} {Q:Option Ê->Æ->Prop} (hit:iK s.heap I a (.ref tp) i n ep)
 (hu:s.heap.get? a=some u) (hd:u.data=.set es ep t) (hf:t.fits es.size=true) (hn:es.size=n) (CI:s.heap.IsTuple tp places) (bO:places[i]?=some (.int pl tk)) (hx:es[pl]?=some x)
 (hQ:∀h',iK h' I a (.ref tp) (i+1) n ep->Ĵ I s.heap h'->Q (some x.2) { s with heap:=h' }):Ú (î P w) A (ž (.ref I)) Q E s:=by
 obtain⟨o,Z,X,Y⟩:=id hit;obtain⟨op,V,T,np,U⟩:=CI;have W:s.TypeIs (.ref I) "set_iterator":=⟨o,Z,X⟩;unfold ž;refine À (μ (ą (name:=ē "__next__") W jz
  (ý jz W vv ?_ (vA _))))
 unfold Œ.«set_iterator.__next__» slotArgs;simp only[Y1,ï,Ã,↓reduceIte,bind_assoc,û,ğ];refine À (Â ?_);refine À (YU Z Y ?_);dsimp only;refine À (ν hu hd hf ?_);rw[hn];simp only[ğ,Ã,↓reduceIte,č];refine À (ı V U ?_);dsimp only;rw[bO];dsimp only;unfold setNextDrawn;refine À (À (Ĳ hu hd hf ?_));dsimp only;simp only[ğ,Ã,↓reduceIte,č];rw[hx];dsimp only;refine Â ?_;refine À (ŕ Z Y (by simp) ?_);refine Â ⟨x.2,rfl,Â (hQ _ ⟨_,Ě _ Z (ľ (ċ Y _)),(YF ..).trans X,?_⟩ (Ď ..))⟩;rw[ċ Y];simp[ŋ]
def Qc (hh:A.handled=none) (hit:iK s.heap I a (.ref tp) i n ep)
 (hu:s.heap.get? a=some u) (hd:u.data=.set es ep t) (hf:t.fits es.size=true) (hn:es.size=n) (CI:s.heap.IsTuple tp places) (bO:places[i]?=none)
 (hQ:∀h',Zz I s.heap h'->Q none { s with heap:=h' }):Ú (î P w) A (ž (.ref I)) Q E s:=by
 obtain⟨o,Z,W,Y⟩:=id hit;obtain⟨op,V,T,np,U⟩:=CI;have X:s.TypeIs (.ref I) "set_iterator":=⟨o,Z,W⟩;unfold ž;refine À (μ (ą (name:=ē "__next__") X jz
  (ý jz X vv ?_ (vA _))))
 unfold Œ.«set_iterator.__next__» slotArgs;simp only[Y1,ï,Ã,↓reduceIte,bind_assoc,û,ğ];refine À (Â ?_);refine À (YU Z Y ?_);dsimp only;refine À (ν hu hd hf ?_);rw[hn];simp only[ğ,Ã,↓reduceIte,č];refine À (ı V U ?_);dsimp only;rw[bO];dsimp only;refine À (ŕ Z Y (by simp) ?_)
 exact Fj (s:={ s with heap:=_ }) hh (Ě _ Z (ľ (ċ Y _))) (ċ Y _) (by simp) λh' e=>hQ h' (Heap.ExtBut.trans (Ď ..).extBut e)
end
def LB:entryFor table "set_iterator.__iter__"=some Œ.«dict_keyiterator.__iter__»:=entryFor_alias (id':="dict_keyiterator.__iter__") (by kernel_rfl) rfl (by decide +kernel) (by kernel_rfl)
def LO (a:Ê):argsOk "set_iterator.__iter__" ⟨[a],[]⟩:=by unfold argsOk;kernel_rfl
section
variable {P:ô} {w:Ĉ} {A:Ă} {E:Ê->Æ->Prop} {s:Æ}
def zR (hit:iK s.heap I a f i n ep) (h:Q (.ref I) s):Ú (î P w) A (aag (.ref I)) Q E s:=by
 obtain⟨o,Y,X,W⟩:=id hit;have Z:s.TypeIs (.ref I) "set_iterator":=⟨o,Y,X⟩;refine wpAny_pyIter_slot Z Es (ý Es Z LB ?_ (LO _));show Ú _ _ (ret (.ref I)) _ _ s;exact Â ⟨_,rfl,"set_iterator",_,Z,jz.lookup,h⟩
def iK.at (x:iK h I a f i n ep) (k:∀o,h.get? I=some o->h'.get? I=some o):iK h' I a f i n ep:=by
 obtain⟨o,Z,r⟩:=x;exact⟨o,k o Z,r⟩
def Fm (gY:w.params.followText "set-order"=true) (hu:s.heap.get? a=some u) (hd:u.data=.set es ep t) (hf:t.fits es.size=true)
 (h:Q' (((χ (w.params.setOrder a ep) es)[i]?).map λe=>(e.2,slot)) s):Ú (î P w) A (setNext a slot i ep) Q' E s:=by
 unfold setNext;refine À (Ĳ hu hd hf ?_);dsimp only;unfold setsByText;refine À (À (ţ (Â ?_)))
 show Ú _ _ (if w.params.followText "set-order"=true then _ else _) _ _ _
 rw[é gY];simp only[ğ,Ã,↓reduceIte];unfold setWalk;refine À (À (Ĳ hu hd hf ?_));dsimp only;unfold setsByText;refine À (À (ţ (Â ?_)))
 show Ú _ _ (if w.params.followText "set-order"=true then _ else _) _ _ _
 rw[é gY];refine À (ţ (Â ?_));exact Â h
def pT (hr:fU xs.toList) (hi:i<=xs.toList.length) (h1:∀k,k<i->xs.toList.getD k 0<slot) (h2:∀k,i<=k->k<xs.toList.length->slot<=xs.toList.getD k 0):õ xs slot=i:=by
 obtain⟨V,a1,a2⟩:=vI xs slot hr;by_cases Z:õ xs slot<i
 ·have Y:=a2 _ (aal _) (by omega)
  have X:=h1 _ Z;omega
 ·by_cases W:i<õ xs slot
  ·have Y:=a1 i W
   have X:=h2 i (aal _) (by omega);omega
  ·omega
def EV (gY:w.params.followText "set-order"=false) (hu:s.heap.get? a=some u) (hd:u.data=.set es ep t) (hf:t.fits es.size=true)
 (hl:t.led=true) (hp:t.plain=true\/es.size<=1) (hb:õ t.place slot=i)
 (h:Q' (match es[i]?,t.place[i]? with|some (_,x),some j=>some (x,j+1) | _,_=>none) s):Ú (î P w) A (setNext a slot i ep) Q' E s:=by
 unfold setNext;refine À (Ĳ hu hd hf ?_);dsimp only;unfold setsByText;refine À (À (ţ (Â ?_)))
 show Ú _ _ (if w.params.followText "set-order"=true then _ else _) _ _ _
 rw[ð (by rw[gY];decide)];split
 ·rename_i Y
  have Z:(!t.plain&&decide (es.size > 1))=true:=Y
  rcases hp with hp|hp
  ·rw[hp] at Z;cases Z
  ·simp at Z;omega
 ·refine À ?_
  show Ú _ _ (if (!t.led&&!es.isEmpty)=true then _ else _) _ _ _
  rw[hl];simp only[ï,ŭ,Ã,↓reduceIte];refine Â ?_;rw[hb];exact Â h
def yP (sb:Ĵ I s.heap h'):Moved [I] (λa b=>b=a) s { s with heap:=h' }:=⟨λb o Z e=>by rw[sb.2 b (λz=>Z (by simp[z]))];exact e,rfl,rfl,rfl,aal _⟩
def yX (sb:Zz I s.heap h'):Moved [I] (λa b=>b=a) s { s with heap:=h' }:=⟨λb o Z e=>sb b o (λz=>Z (by simp[z])) e,rfl,rfl,rfl,aal _⟩
end
def MD (hh:A.handled=none) (gE:a≠I) (gY:w.params.followText "set-order"=true) (hd:u.data=.set es ep t) (hf:t.fits es.size=true) (hsz:(χ (w.params.setOrder a ep) es).size=es.size) :
  WalksS P w A I [I,a] [I] (λa b=>b=a) es.size (λi v=>((χ (w.params.setOrder a ep) es).map (·.2))[i]?=some v) (λi s=>iK s.heap I a (.int 0 0) i es.size ep/\s.heap.get? a=some u) where
 sub:=λb W=>by simp at W;simp[W]
 grefl:=λ_=>rfl
 gtrans:=λ_ _ _ T S=>S.trans T
 frame:=λi s V L Z _ U=>⟨Z.1.at λo e=>U I (by simp) o e,U a (by simp) _ Z.2⟩
 item:=λi s Q E hi Z Y=>by
  have R:i<(χ (w.params.setOrder a ep) es).size:=by rw[hsz];exact hi
  have ex:(χ (w.params.setOrder a ep) es)[i]?=some (χ (w.params.setOrder a ep) es)[i]:=by simp[R]
  refine GS (nx:=0) (x:=(χ (w.params.setOrder a ep) es)[i].2) (slot:=0) Z.1 Z.2 hd hf rfl (λO N M q=>Fm gY Z.2 hd hf (by rw[ex];exact q)) λV it X=>?_;exact Y _ _ (by simp[ex]) ⟨it,by rw[X.2 a gE];exact Z.2⟩ (yP X)
 done:=λs Q E Z Y=>by
  refine HM (slot:=0) hh Z.1 Z.2 hd hf rfl (λO N M q=>Fm gY Z.2 hd hf (by
   rw[show (χ (w.params.setOrder a ep) es)[es.size]?=none by simp[hsz]];exact q)) λV X=>Y _ (yX X)
 self:=λi s Q E Z Y=>zR Z.1 Y
def Me (hh:A.handled=none) (gE:a≠I) (gY:w.params.followText "set-order"=false) (hd:u.data=.set es ep t) (hf:t.fits es.size=true) (hl:t.led=true) (hp:t.plain=true\/es.size<=1) (hr:fU t.place.toList) :
  WalksS P w A I [I,a] [I] (λa b=>b=a) es.size (λi v=>(es.map (·.2))[i]?=some v) (λi s=>∃slot:Nat,iK s.heap I a (.int slot 0) i es.size ep/\s.heap.get? a=some u/\i<=es.size/\(∀k,k<i->t.place.toList.getD k 0<slot)/\∀k,i<=k->k<t.place.toList.length->slot<=t.place.toList.getD k 0) where
 sub:=λb N=>by simp at N;simp[N]
 grefl:=λ_=>rfl
 gtrans:=λ_ _ _ L K=>K.trans L
 frame:=λi s M B Y _ V=>by
  obtain⟨slot,X,Z,T⟩:=Y;exact⟨slot,X.at λo e=>V I (by simp) o e,V a (by simp) _ Z,T⟩
 item:=λi s Q E hi Y W=>by
  obtain⟨slot,X,Z,T,S,R⟩:=Y;have J:t.place.toList.length=es.size:=by
   simp only[SetTable.fits,È,beq_iff_eq,Å] at hf;simpa using hf.1
  have O:i<t.place.toList.length:=by omega
  have e1:es[i]?=some es[i]:=by simp[hi]
  have e2:t.place[i]?=some (t.place.toList.getD i 0):=by
   rw[<- ú,É O];simp[Ś,É O]
  refine GS (nx:=t.place.toList.getD i 0+1) (x:=es[i].2) (slot:=slot) X Z hd hf rfl (λH G F q=>EV gY Z hd hf hl hp (pT hr (by omega) S R) (by rw[e1,e2];exact q)) λM it U=>?_;refine W _ _ (by simp[e1]) ⟨_,it,by rw[U.2 a gE];exact Z,hi,λk V=>?_,λk V D=>?_⟩ (yP U)
  ·by_cases C:k=i
   ·rw[C];omega
   ·have:=nQ hr (show k<i by omega) O
    omega
  ·have:=nQ hr (show i<k by omega) D
   omega
 done:=λs Q E Y W=>by
  obtain⟨slot,X,Z,T,S,R⟩:=Y;have J:t.place.toList.length=es.size:=by
   simp only[SetTable.fits,È,beq_iff_eq,Å] at hf;simpa using hf.1
  refine HM (slot:=slot) hh X Z hd hf rfl (λH G F q=>EV gY Z hd hf hl hp (pT hr (by omega) S R) (by
   rw[show es[es.size]?=none by simp];exact q)) λM U=>W _ (yX U)
 self:=λi s Q E Y W=>by
  obtain⟨slot,X,_⟩:=Y;exact zR X W
def Mf (hh:A.handled=none) (gE:a≠I) (V0:tp≠I) (hd:u.data=.set es ep t) (hf:t.fits es.size=true) (pl:List Nat) (bO:pl.length=es.size) (i3:∀x∈pl,x<es.size) :
  WalksS P w A I [I,a,tp] [I] (λa b=>b=a) es.size (λi v=>(pl.map λk=>(es.getD k (0,Value.none)).2)[i]?=some v) (λi s=>iK s.heap I a (.ref tp) i es.size ep/\s.heap.get? a=some u/\s.heap.IsTuple tp (pl.map λ(k:Nat)=>ŋ k).toArray) where
 sub:=λb U=>by simp at U;simp[U]
 grefl:=λ_=>rfl
 gtrans:=λ_ _ _ R O=>O.trans R
 frame:=λi s T tk Z _ Y=>⟨Z.1.at λo e=>Y I (by simp) o e,Y a (by simp) _ Z.2.1,let ⟨o,V,r⟩:=Z.2.2;⟨o,Y tp (by simp) o V,r⟩⟩
 item:=λi s Q E hi Z X=>by
  have S:i<pl.length:=by omega
  have e1:pl[i]?=some pl[i]:=É S;have Y:=i3 _ (YZ S);refine Ox (pl:=pl[i]) (x:=es.getD pl[i] (0,Value.none)) (tk:=0) Z.1 Z.2.1 hd hf rfl Z.2.2 (by simp[e1,ŋ]) (by simp[Y,aad]) λT it W=>?_
  refine X _ _ (by simp[e1]) ⟨it,by rw[W.2 a gE];exact Z.2.1,let ⟨o,V,r⟩:=Z.2.2;⟨o,by rw[W.2 tp V0];exact V,r⟩⟩ (yP W)
 done:=λs Q E Z X=>Qc hh Z.1 Z.2.1 hd hf rfl Z.2.2 (by simp[bO]) λT W=>X _ (yX W)
 self:=λi s Q E Z X=>zR Z.1 X
noncomputable def bH (w:Ĉ):Bool:=!(w.params.followText "set-order")
section
variable {P:ô} {w:Ĉ} {A:Ă} {E:Ê->Æ->Prop} {s:Æ}
def F0 (a:Ê)
 (hq:Q₁ (.ref s.heap.objs.size) { s with heap:=s.heap.push { cls:=.type "set",dict:=none,data:=.set #[] 0 (.fresh 0 0 (bH w)) } }) :
  YM (î P w) A (.call (.builtin "set.__new__") ⟨[.type "set",a],[]⟩) (wants Q₁ E) s:=by
 refine Zk ?_;show Ú _ A.in1 (checkBuiltinCall "set.__new__" ⟨[.type "set",a],[]⟩ >>= λ_=>again (.builtin "set.__new__" ⟨[.type "set",a],[]⟩)) _ _ s;refine À ?_;refine ι (F.newCall_set_1 a) ?_;refine Â ⟨ZT F.plain_set_new _,Ń F.entry_set_new ?_⟩;rw[Ņ F.plain_set_new _];unfold Œ.«set.__new__» Builtin.Frozenset.newClass;have ss:=sub_set_self;obtain⟨Z,Y,X,W,V⟩:=s;dsimp only
 wp_walk
 refine ţ (Â ?_);dsimp only;simp only[newObj];refine À (wpAny_alloc ?_);exact Â (Â hq)
end
section
variable {P:ô} {w:Ĉ} {A:Ă} {R:Result->Æ->Prop} {I:à} {fp wr:List à} {G:Array GenState->Array GenState->Prop} {n:Nat} {Pv:Nat->Ê->Prop} {St:Nat->Æ->Prop} {led:Bool}
def Oy (val:Nat->Int) {i n:Nat} (h:i<=n):(œ val i).length<=(œ val n).length:=by
 induction h with
 |refl=>exact aal _
 |step _ ih =>
  refine è ih ?_;rw[firstMet_succ,step_length]
  split<;>omega
def Oz (W:WalksS P w A.in1 I fp wr G n Pv St) (S:à) (nr:S∉fp)
  (val:Nat->Int) (BK:∀i v,Pv i v->∃t,v=.int (val i) t) (hb:(œ val n).length+1<Yv) :
  ∀(k i:Nat) (s:Æ),n-i=k->i<=n->St i s ->
   fV P w led s.heap S (λj=>(œ val i).any (·==j)) (œ val i).length ->
   (∀s',Moved (S::wr) G s s'->fV P w led s'.heap S (λj=>(œ val n).any (·==j)) (œ val n).length->R (.ok (.ret .none)) s') ->
   YM (î P w) A (.builtin "set.update.loop" ⟨[.ref S,.ref I],[]⟩) R s:=by
 have nw:S∉wr:=λz=>nr (W.sub _ z);have sw:∀b∈wr,b∈S::wr:=λb z=>Ð _ z;intro k
 induction k with
 |zero =>
  intro i s U hi Z T Y;obtain rfl:i=n:=by omega
  refine Ń ξ ?_;rw[Ņ ń _];show Ú _ A.in1 (ž (.ref I) >>= _) _ _ s;refine À (W.done s _ _ Z λs' m=>?_);show Ú _ A.in1 (ret Value.none) _ _ s';exact Â (Y s' (m.mono sw) (T.at λo e=>m.heap S o nw e))
 |succ k ih =>
  intro i s U hi Z T Y;have lt:i<n:=by omega
  refine Ń ξ ?_;rw[Ņ ń _];show Ú _ A.in1 (ž (.ref I) >>= _) _ _ s;refine À (W.item i s _ _ lt Z λv s' pv Q m=>?_);obtain⟨t,rfl⟩:=BK i v pv;have O:=T.at (h':=s'.heap) λo e=>m.heap S o nw e;show Ú _ A.in1 (Zc [ZY (val i) t] (setAdd S (.int (val i) t)) >>= _) _ _ s';refine À (ĝ ?_);unfold setAdd;refine ĝ ?_;refine À ((ŝ P w).pyHash (k:=val i) (intKind_is _ _ _ _) ?_);have room:(œ val i).length+1<Yv:=by have:=Oy val hi;omega
  refine Qb (s:={ s' with toks:=s'.toks+1 }) O room λh' V N=>?_
  have M:fV P w led h' S (λj=>(œ val (i+1)).any (·==j)) (œ val (i+1)).length:=N.congr (λj=>by rw[firstMet_succ,step_any]) (by rw[firstMet_succ,step_length]);refine Â ⟨ZT ń _,ih (i+1) _ (by omega) lt (W.frame _ s' _ _ Q (Y4 _) λb X o e=>?_) M λL K J=>?_⟩
  ·rw[V.2 b λz:b=S=>nr (z ▸ X)];exact e
  ·refine Y L (Moved.trans W.gtrans ((m.mono sw).then_heap (Y4 _) λb o X e=>?_) K) J
   rw[V.2 b λz:b=S=>X (by rw[z];exact Î)];exact e
end
section
variable {P:ô} {w:Ĉ} {A:Ă} {E:Ê->Æ->Prop} {s:Æ}
def ME   
 (hh:A.handled=none) (hl:s.heap.IsList l its) (hi:Zx its.toList ns) (hb:(œ (λi=>ns.getD i 0) its.size).length+1<Yv)
 (h:∀(h':ō) (tk:Nat),fV P w (bH w) h' s.heap.objs.size (λk'=>(œ (λi=>ns.getD i 0) its.size).any (·==k')) (œ (λi=>ns.getD i 0) its.size).length ->
 (∀b o,b<s.heap.objs.size->s.heap.get? b=some o->h'.get? b=some o)->Q (.ref s.heap.objs.size) { s with heap:=h',toks:=tk }) :
  Ú (î P w) A (call (.type "set") [.ref l]) Q E s:=by
 obtain⟨c,tl,ur⟩:=ĺ.mro;have um:=ĺ.made;have ub:=ĺ.sub;refine wpAny_call (Zk ?_);show Ú _ _ (callAny (.type "set") _) _ _ _;refine Â ⟨Code.quiet_builtin _ (by decide +kernel),Ń F.entry_type_call ?_⟩;rw[Z7 (ZJ "set" [.ref l] []) rfl];have h1:=ĺ.notType;have h2:=ĺ.canCreate;have V1:=F.typeCall_set_1 (.ref l)
 repeat (any_goals (first|assumption|wp_step))
 refine Ŕ (F0 (.ref l) (E:=E) (Q₁:=λobj V=>obj=.ref s.heap.objs.size/\V={ s with heap:=s.heap.push { cls:=.type "set",dict:=none,data:=.set #[] 0 (.fresh 0 0 (bH w)) } }) ⟨rfl,rfl⟩) λr V Y=>?_
 cases r with
 |error e=>exact Y
 |ok M =>
  cases M with
  |ret obj =>
   obtain⟨rfl,rfl⟩:=Y;have v:(s.heap.push { cls:=.type "set",dict:=none,data:=.set #[] 0 (.fresh 0 0 (bH w)) }).get? s.heap.objs.size=some { cls:=.type "set",dict:=none,data:=.set #[] 0 (.fresh 0 0 (bH w)) }:=Ì _ rfl
   have L:aaf { s with heap:=s.heap.push { cls:=.type "set",dict:=none,data:=.set #[] 0 (.fresh 0 0 (bH w)) } } (.ref s.heap.objs.size) "set":=⟨_,v,rfl⟩
   have vl:=ĺ.init.lookup;have vb:=ĺ.init.bind (.ref s.heap.objs.size)
   repeat (any_goals (first|assumption|wp_step))
   refine Ŕ (YN (R:=wants (λr U=>r=.none/\∃h' tk,U={ s with heap:=h',toks:=tk } /\
     fV P w (bH w) h' s.heap.objs.size (λk'=>(œ (λi=>ns.getD i 0) its.size).any (·==k')) (œ (λi=>ns.getD i 0) its.size).length /\
     (∀b o,b<s.heap.objs.size->s.heap.get? b=some o->h'.get? b=some o)) E) ĺ.init.plain F.entry_set_init (check_set_init_1 L ?_)) λK U X=>?_
   ·obtain⟨ol,T,S,nn,O⟩:=hl
    obtain⟨oc,J,oa,I⟩:=ol;simp only at S O;subst S;subst O;have H:(s.heap.push { cls:=.type "set",dict:=none,data:=.set #[] 0 (.fresh 0 0 (bH w)) }).get? l=some { cls:=.type "list",dict:=J,data:=.seq its nn,slots:=I }:=Á _ T;have u1:=F.sub_list_set;have u2:=F.sub_list_frozenset;have gE:(Ų "list"==Ų "dict")=false:=by decide
    have ul:(s.heap.push { cls:=.type "set",dict:=none,data:=.set #[] 0 (.fresh 0 0 (bH w)) }).IsList l its:=⟨_,H,rfl,nn,rfl⟩;unfold Œ.«set.__init__» noKeywords ZU;generalize G:aag=PI
    wp_walk
    subst G;refine Ŵ ul ?_;refine À (wpAny_runValue ?_);have N:l<s.heap.objs.size:=Ñ T;have D:A.in1.in1.in1.handled=none:=by simp[hh]
    have C:l≠(s.heap.push { cls:=.type "set",dict:=none,data:=.set #[] 0 (.fresh 0 0 (bH w)) }).objs.size:=by
     rw[Ą];exact ç (Ġ N)
    have B:s.heap.objs.size∉[(s.heap.push { cls:=.type "set",dict:=none,data:=.set #[] 0 (.fresh 0 0 (bH w)) }).objs.size,l]:=by
     rw[Ą];simp only[Ò,Ø,þ,or_false,not_or];exact⟨ç (Ť _),ŧ N⟩
    have z:∀(i:Nat) (v:Ê),its[i]?=some v->∃t,v=.int ((λi=>ns.getD i 0) i) t:=λi v y =>
     IntsAre.int_at hi i v (by rw[ú];exact y)
    refine Oz (led:=bH w) ((Walks.list D _ l C its).toS) s.heap.objs.size
     B (λi=>ns.getD i 0) z hb (its.size-0) 0 _ (by omega) (ď _)
     ⟨⟨_,Ì _ rfl,rfl,rfl⟩,(ul.push _)⟩ ?v0 ?vR
    case v0 =>
     have x:((s.heap.push { cls:=.type "set",dict:=none,data:=.set #[] 0 (.fresh 0 0 (bH w)) }).push { cls:=.type "list_iterator",data:=.fields #[.ref l,.int 0 0] }).get? s.heap.objs.size
       = some { cls:=.type "set",dict:=none,data:=.set #[] 0 (.fresh 0 0 (bH w)) }:=Á _ v
     exact⟨_,#[],0,_,x,⟨rfl,rfl,rfl⟩,rfl,λe u=>by simp at u,λk=>by simp[firstMet_zero],by unfold Yv;simp,by rfl,rfl,Fi _⟩
    case vR =>
     intro q Z W;obtain⟨h',p,n,m,j⟩:=q;have g:p=s.gens:=Z.gens;have f:n=s.drawn:=Z.drawn;have d:j=s.os:=Z.os;subst g;subst f;subst d;show Ú _ _ _ _ _ _;refine Â ?_;show Ú _ _ (ret Value.none) _ _ _;refine Â ⟨rfl,h',m,rfl,W,λb o hb e=>?_⟩;have v1:b≠s.heap.objs.size:=ç hb;have v2:b≠(s.heap.push { cls:=.type "set",dict:=none,data:=.set #[] 0 (.fresh 0 0 (bH w)) }).objs.size:=by
      rw[Ą];exact ç (Ġ hb)
     exact Z.heap b o (by simp only[Ò,Ø,þ,or_false,not_or];exact⟨v1,v2⟩) (Á _ (Á _ e))
   ·cases K with
    |error e=>exact X
    |ok a =>
     cases a with
     |ret r =>
      obtain⟨rfl,h',tk,rfl,W,vk⟩:=X
      repeat (any_goals (first|assumption|wp_step))
      exact h _ _ W vk
     |_=>exact X.elim
  |_=>exact Y.elim
end
theorem yQ {α:Type}:∀{l:List α} {i:Nat} {x:α},l[i]?=some x->(x::l.eraseIdx i).Perm l
 | [],i,x,h=>by simp at h
 |y::l,0,x,h=>by
  have:y=x:=by simpa using h
  subst this;exact List.Perm.refl _
 |y::l,i+1,x,h=>by
  have ih:=yQ (l:=l) (i:=i) (x:=x) (by simpa using h);rw[List.eraseIdx_cons_succ];exact(List.Perm.swap y x _).trans (List.Perm.cons y ih)
theorem GU {α:Type} (next:Nat->Nat):∀(fuel k:Nat) (left:List α) (out:Array α),left.length=fuel->(pickOrder.go next fuel k left out).toList.Perm (out.toList++left)
 |0,k,left,out,h=>by
  have:left=[]:=Zl.mp h;subst this;unfold pickOrder.go;simp
 |fuel+1,k,left,out,h=>by
  unfold pickOrder.go
  have Z:next k % left.length<left.length:=ZX _ (by omega)
  rw[É Z];dsimp only;have Y:=yQ (É Z)
  have ih:=GU next fuel (k+1) (left.eraseIdx (next k % left.length)) (out.push left[next k % left.length]) (by rw[List.length_eraseIdx_of_lt Z];omega)
  refine ih.trans ?_;rw[YG,ĕ];exact List.Perm.append_left _ Y
def Fn {α:Type} (next:Nat->Nat) (xs:Array α):(χ next xs).toList.Perm xs.toList:=by
 unfold χ
 have:=GU next xs.size 0 xs.toList #[] (by simp)
 simpa using this
section
variable {P:ô} {w:Ĉ} {A:Ă} {E:Ê->Æ->Prop}
def MF {α:Type} (n:Nat):∀(xs:List α) (s:Æ) (Q:List α->Æ->Prop),xs.length=n->(∀ys d,ys.Perm xs->Q ys { s with drawn:=d })->Ú (î P w) A (drawOrder n xs) Q E s:=by
 induction n with
 |zero =>
  intro xs s Q h Z;have:xs=[]:=Zl.mp h;subst this;unfold drawOrder;exact Â (Z [] s.drawn (List.Perm.refl _))
 |succ n ih =>
  intro xs s Q h Z
  cases xs with
  |nil=>simp at h
  |cons x xs =>
   unfold drawOrder;refine À (MC (by simp) ?_);have Y:w.draws .order (s.drawn.get .order) % (x::xs).length<(x::xs).length:=ZX _ (by simp);rw[É Y];dsimp only;refine À (ih _ _ _ (by rw[List.length_eraseIdx_of_lt Y];omega) λys d X=>?_);refine Â (Z _ d ?_);exact(List.Perm.cons _ X).trans (yQ (É Y))
def OA {s:Æ} {a:à} {u:Obj} {es:Array (Int×Ê)} {ep:Nat} {t:ł} {Q:Ê->Æ->Prop} (hu:s.heap.get? a=some u) (hx:u.ExactSet) (hd:u.data=.set es ep t) (hf:t.fits es.size=true) (ht:gK (bH w) t)
  (hsz:es.size<=Û)
  (hQ:∀(h':ō) (d':Drawn) (I:à) (fp:List à) (St:Nat->Æ->Prop) (order:List Ê),(∀b o,s.heap.get? b=some o->h'.get? b=some o)->(∀b∈fp,b<h'.objs.size)->(∀b∈fp,b=a\/s.heap.objs.size<=b)->I∈fp->s.heap.objs.size<=I->order.Perm (es.toList.map (·.2)) ->
   (∀A':Ă,A'.handled=none->WalksS P w A' I fp [I] (λa b=>b=a) es.size (λi v=>order[i]?=some v) St)->St 0 { s with heap:=h',drawn:=d' }->Q (.ref I) { s with heap:=h',drawn:=d' }) :
  Ú (î P w) A (aag (.ref a)) Q E s:=by
 have O:s.TypeIs (.ref a) "set":=⟨u,hu,hx.1⟩;have X:a<s.heap.objs.size:=Ñ hu;refine wpAny_pyIter_slot O F.slot_set_iter (ý F.slot_set_iter O Lu ?_ (F.args_set_iter_1 _));unfold Œ.«frozenset.__iter__» Builtin.Frozenset.slot0 slotArgs;simp only[Y1,ï,Ã,↓reduceIte,bind_assoc,û,ğ];unfold Builtin.Frozenset.addrOf Builtin.Frozenset.sizeOf;refine À (Â ?_)
 try dsimp only
 refine À (Â ?_);refine À (À (ν hu hd hf (Â ?_)));unfold setDrawn;refine À (À (Ĳ hu hd hf ?_));dsimp only;unfold setsByText;refine À (À (ţ (Â ?_)));refine Â ?_
 show Ú _ _ (if (!(w.params.followText "set-order")&&(!t.plain&&decide (es.size > 1)))=true then _ else _) _ _ _
 have H:∀(W:Obj) b o,s.heap.get? b=some o->(s.heap.push W).get? b=some o:=λW b o e=>Á _ e;by_cases V:(!w.params.followText "set-order"&&(!t.plain&&decide (es.size > 1)))=true
 ·rw[é V]
  refine À (MF _ _ _ _ (by simp) λU d hp=>?_);refine À ?_;simp only[newTuple];refine ö ?_ (by have:=hp.length_eq;rw[Ŀ] at this;show (ZH _).size<=Û;rw[Ô,Ä,this];exact hsz);have M:∀x∈U,x<es.size:=λx hx=>by simpa using hp.mem_iff.mp hx
  have R:U.length=es.size:=by simpa using hp.length_eq
  refine À (wpAny_setEpoch_of (Á _ hu) hd hf ?_);refine À (ö ?_);refine Â ⟨_,rfl,"set_iterator",_,⟨_,Ì _ rfl,rfl⟩,jz.lookup,?_⟩;have Y:(s.heap.push { cls:=.type "tuple",data:=.seq (U.map λ(i:Nat)=>ŋ i).toArray }).objs.size=s.heap.objs.size+1:=by simp[Ą]
  refine hQ _ d _ [_,a,s.heap.objs.size] _ (U.map λk=>(es.getD k (0,Value.none)).2) (λb o e=>Á _ (Á _ e)) ?_ ?_ (by simp) (by rw[Y];exact Y4 _) ?_ (λA' T=>Mf (u:=u) (t:=t) (ep:=ep) T (I:=_) (a:=a) (tp:=s.heap.objs.size) (by rw[Y];exact ç (Ġ X)) (by rw[Y];exact ç (Ť _)) hd hf U R M) ⟨⟨_,Ì _ rfl,rfl,rfl⟩,Á _ (Á _ hu),⟨_,Á _ (Ì _ rfl),rfl,_,rfl⟩⟩
  ·intro b Z
   simp only[Ò,þ,or_false] at Z;rw[Ą]
   rcases Z with e|e|e
   ·rw[e];exact Ť _
   ·rw[e,Y];exact Ġ (Ġ X)
   ·rw[e,Y];exact Ġ (Ť _)
  ·intro b Z
   simp only[Ò,þ,or_false] at Z
   rcases Z with e|e|e
   ·right;rw[e,Y];exact Y4 _
   ·exact .inl e
   ·right;rw[e];exact aal _
  ·refine(List.Perm.map _ hp).trans ?_
   have:(Ó es.size).map (λk=>(es.getD k (0,Value.none)).2)=es.toList.map (·.2):=by
    apply Ÿ;intro i;rw[Ü,Ü];by_cases hi:i<es.size
    ·rw[ĥ hi,ú]
     simp[aad,hi]
    ·rw[Ģ (by simpa using hi),Ģ (by simpa using hi)]
     rfl
   rw[this]
 ·rw[ð V]
  refine À (Â ?_);refine À (wpAny_setEpoch_of hu hd hf ?_);refine À (ö ?_);refine Â ⟨_,rfl,"set_iterator",_,⟨_,Ì _ rfl,rfl⟩,jz.lookup,?_⟩;have aq:∀(W:Obj),∀b∈[s.heap.objs.size,a],b<(s.heap.push W).objs.size:=λW b Z=>by
   simp only[Ò,þ,or_false] at Z;rw[Ą]
   rcases Z with e|e
   ·rw[e];exact Ť _
   ·rw[e];exact Ġ X
  have N:∀b∈[s.heap.objs.size,a],b=a\/s.heap.objs.size<=b:=λb Z=>by
   simp only[Ò,þ,or_false] at Z
   rcases Z with e|e
   ·right;rw[e];exact aal _
   ·exact .inl e
  cases S:w.params.followText "set-order" with
  |true =>
   have L:(χ (w.params.setOrder a ep) es).size=es.size:=by
    have:=(Fn (w.params.setOrder a ep) es).length_eq;simpa using this
   have hw:∀A':Ă,A'.handled=none->WalksS P w A' s.heap.objs.size [s.heap.objs.size,a] [s.heap.objs.size] (λa b=>b=a) es.size (λi v=>((χ (w.params.setOrder a ep) es).toList.map (·.2))[i]?=some v) _:=λA' T=>by
    have:=MD (P:=P) (u:=u) (t:=t) T (I:=s.heap.objs.size) (a:=a) (ç X) S hd hf L;simpa using this
   exact hQ _ s.drawn _ [_,a] _ ((χ (w.params.setOrder a ep) es).toList.map (·.2)) (λb o e=>Á _ e) (aq _) N (by simp) (aal _) (List.Perm.map _ (Fn _ _)) hw ⟨⟨_,Ì _ rfl,rfl,rfl⟩,Á _ hu⟩
  |false =>
   have hp:t.plain=true\/es.size<=1:=by
    rw[S] at V;simp at V
    cases K:t.plain with
    |true=>exact .inl rfl
    |false=>exact .inr (V K)
   have R:t.led=true:=by rw[ht.led];unfold bH;rw[S];rfl
   have J:fU t.place.toList:=by
    rcases hp with hp|hp
    ·exact ht.rise hp
    ·simp only[SetTable.fits,È,beq_iff_eq,Å] at hf
     have hle:t.place.toList.length<=1:=by simp[hf.1];exact hp
     match t.place.toList,hle with
     | [],_=>exact List.Pairwise.nil
     | [x],_=>exact Zm _ _
   have hw:∀A':Ă,A'.handled=none->WalksS P w A' s.heap.objs.size [s.heap.objs.size,a] [s.heap.objs.size] (λa b=>b=a) es.size (λi v=>(es.toList.map (·.2))[i]?=some v) _:=λA' T=>by
    have:=Me (P:=P) (u:=u) (t:=t) (ep:=ep) T (I:=s.heap.objs.size) (a:=a) (ç X) S hd hf R hp J;simpa using this
   exact hQ _ s.drawn _ [_,a] _ (es.toList.map (·.2)) (λb o e=>Á _ e) (aq _) N (by simp) (aal _) (List.Perm.refl _) hw ⟨0,⟨_,Ì _ rfl,rfl,rfl⟩,Á _ hu,ď _,λk G=>by omega,λk _ _=>ď _⟩
end
section
variable {P:ô} {w:Ĉ} {A:Ă} {E:Ê->Æ->Prop} {s:Æ}
def split_len:splitId "set.__len__"=some ("set","__len__"):=by decide +kernel
def ints_of (h:ElemsOf (ŝ P w) es) (hp:vs.Perm (es.map (·.2))):∃ns,Zx vs ns:=by
 have Z:∀v∈vs,∃k t,v=.int k t:=λv Z=>by
  obtain⟨e,W,rfl⟩:=å.mp (hp.mem_iff.mp Z);obtain⟨⟨k,X,_⟩,_⟩:=h e W
  cases Y:e.2 with
  |int i t=>exact⟨i,t,rfl⟩
  |_=>rw[Y] at X;simp[ŝ,Value.isInt] at X
 clear hp
 induction vs with
 |nil=>exact⟨[],.nil⟩
 |cons v vs ih =>
  obtain⟨k,t,rfl⟩:=Z v Î;obtain⟨ns,V⟩:=ih λx Y=>Z x (Ð _ Y);exact⟨k::ns,.cons k t V⟩
def HN {α:Type} {c:Bool} {x y:Sem α} {Q:α->Æ->Prop} (hc:c=true) (h:Ú (î P w) A x Q E s):Ú (î P w) A (if c=true then x else y) Q E s:=by
 rw[é hc];exact h
def EF {a:à} {u:Obj} {es:Array (Int×Ê)} {ep:Nat} {t:ł} {Q:List Ê->Æ->Prop} (hh:A.handled=none) (hu:s.heap.get? a=some u) (hx:u.ExactSet) (hd:u.data=.set es ep t) (hf:t.fits es.size=true) (ht:gK (bH w) t) (hsz:es.size<Yv)
  (hQ:∀(h':ō) (d':Drawn) (tk:Nat) (vs:List Ê),s.heap.objs.size<=h'.objs.size->(∀b o,s.heap.get? b=some o->h'.get? b=some o)->vs.Perm (es.toList.map (·.2))->Q vs { s with heap:=h',drawn:=d',toks:=tk }):Ú (î P w) A (collect (.ref a)) Q E s:=by
 have O:es.size<=Û:=YH hsz;have N:a<s.heap.objs.size:=Ñ hu;unfold collect;refine À (wpAny_runValue (Ń F.entry_proto_collect ?_));rw[Ņ F.plain_proto_collect _];show Ú _ A.in1 (newList [] >>= λl=>again (.builtin "list.__iadd__" ⟨[l,.ref a],[]⟩)) _ _ s;refine À (ö ?_);refine Â ⟨ZT F.plain_list_iadd _,Ń F.entry_list_iadd ?_⟩;rw[Ņ F.plain_list_iadd _];show Ú _ A.in1 (Z2 (.ref s.heap.objs.size) (.ref a) (.ref s.heap.objs.size)) _ _ _
 generalize U:({ s with heap:=s.heap.push { cls:=.type "list",data:=.seq ([]:List Ê).toArray } }:Æ)=Y
 have M:Y.heap.objs.size=s.heap.objs.size+1:=by rw[<- U];simp[Ą]
 have r:∀b o,s.heap.get? b=some o->Y.heap.get? b=some o:=λb o e=>by rw[<- U];exact Á _ e
 have T:Y.heap.get? a=some u:=by rw[<- U];exact Á _ hu
 have p:Y.TypeIs (.ref a) "set":=⟨u,T,hx.1⟩;have n:Y.heap.get? s.heap.objs.size=some { cls:=.type "list",data:=.seq ([]:List Ê).toArray }:=by rw[<- U];exact Ì _ rfl
 unfold Z2;refine À (Y8 p ?_);have k:Builtin.List.listSameRef (.ref s.heap.objs.size) (.ref a)=false:=by
  simp[Builtin.List.listSameRef];exact ŧ N
 have i:(Ų "set"==Ų "list")=false:=by decide
 have h:(Ų "set"==Ų "tuple")=false:=by decide
 simp only[k,i,h,Bool.or_false,Ã,ã];refine À (OA T hx hd hf ht O λh' d' I g St order S k2 f k3 L K W d=>?_)
 have R:aaf { Y with heap:=h',drawn:=d' } (.ref a) "set":=⟨u,S _ _ T,hx.1⟩
 have J:=S _ _ n;refine À (ĝ ?_);unfold Builtin.List.listLengthHint;refine À (Zn R F.slot_set_len.lookup ?_);dsimp only;rw[split_len];dsimp only;refine À (Y0 R sub_set_self ?_);rw[ð (by decide)];refine HN (by decide +kernel) ?_;refine À (Y8 R ?_);dsimp only;refine Â ?_;refine HN (by decide +kernel) ?_
 ··refine À (Ţ ?_)
   refine À ?_;show Ú _ A.in1 (updateSeq s.heap.objs.size (·.push .none) >>= λ_=>updateSeq s.heap.objs.size (·.pop)) _ _ _;refine À (wpAny_updateSeq J rfl ?_);have H:=Ě (ŗ (·.push Value.none)) J rfl;refine wpAny_updateSeq H rfl ?_;have V2:=Ě (ŗ (·.pop)) H rfl;have G:s.heap.objs.size∉g:=λhm=>by
    rcases f _ hm with e|e
    ·exact ŧ N e
    ·rw[M] at e;exact Nat.not_succ_le_self _ e
   have D:∀b o,b≠s.heap.objs.size->h'.get? b=some o->((h'.update s.heap.objs.size (ŗ (·.push Value.none))).update s.heap.objs.size (ŗ (·.pop))).get? b=some o :=
    λb o X e=>(Yr _ _ (ų X)).trans ((Yr _ _ (ų X)).trans e)
   refine Â ⟨ZT F.plain_extend_loop _,codeAny_extend_loopS (W A.in1 (by simp[hh])) O _ G _ es.size 0 _ _ _ rfl (ď _) ((W A.in1 (by simp[hh])).frame 0 ({ Y with heap:=h',drawn:=d' }:Æ) _ Y.toks d (aal _) λb X o e=>D b o (λz=>G (z ▸ X)) e) V2 (ItemsOf.nil _) λC Z c m B y=>?_⟩
   show Ú _ A (load s.heap.objs.size >>= _) _ _ C;refine À (wpAny_load B ?_);refine Â ?_;have V3:order.length=es.size:=by simpa using K.length_eq
   have Vd:Z.toList=order:=by
    apply Ÿ;intro j;by_cases x:j<Z.size
    ·have e1:Z[j]?=some Z[j]:=by simp[x]
     rw[ú,e1,y.2 j _ e1]
    ·rw[Ģ (by simpa using x),Ģ (by rw[V3,<- y.1];omega)]
   obtain⟨h2,g2,v,t2,o2⟩:=C;have eg:g2=Y.gens:=m.gens;have ed:v=d':=m.drawn;have eo:o2=Y.os:=m.os;subst eg ed eo;have q:=hQ h2 v t2 Z.toList (Nat.le_of_lt (Ñ B)) (λb o e=>m.heap b o (λX=>by
    simp only[Ò,þ,or_false] at X;have V:=Ñ e
    rcases X with z|z
    ·rw[z] at V;exact ù _ V
    ·rw[M] at L;rw[z] at V;exact ù _ (Ë V (Nat.le_of_succ_le L))) (D b o (λz=>by
     have V:=Ñ e;rw[z] at V;exact ù _ V) (S b o (r b o e)))) (by rw[Vd];exact K)
   rw[<- U];exact q
end
section
variable {P:ô} {w:Ĉ} {A:Ă} {E:Ê->Æ->Prop} {s:Æ}
def MG (hh:A.handled=none) (hu:s.heap.get? a=some u) (hx:u.ExactSet) (hd:u.data=.set es ep t) (hf:t.fits es.size=true) (ht:gK (bH w) t) (CU:ElemsOf (ŝ P w) es.toList) (X9:es.size<64)
 (h:∀(h':ō) (d':Drawn) (tk:Nat) (p:à) (vs:List Ê) (ns:List Int) (out:List Ê) (ms:List Int) (e:Nat),(∀b o,s.heap.get? b=some o->h'.get? b=some o)->s.heap.objs.size<=p->vs.Perm (es.toList.map (·.2))->Zx vs ns->h'.get? p=some { cls:=.type "list",data:=.seq out.toArray e }->Zx out ms->ms.Perm ns->ms.Pairwise (·<=·)->Q (.ref p) { s with heap:=h',drawn:=d',toks:=tk }) :
  Ú (î P w) A (call (.builtin "sorted") [.ref a]) Q E s:=by
 refine YV kind_sorted plain_sorted entry_sorted (args_sorted1 _) ?_;unfold Œ.«sorted»;refine À (m:=checkCount "sorted" 1 1 _) (Â ?_);refine À (EF (by simp[hh]) hu hx hd hf ht (by unfold Yv;omega) λh' d' tk vs U T Z=>?_);obtain⟨ns,X⟩:=ints_of CU Z;have S:vs.length<64:=by have:=Z.length_eq;simp at this;omega
 refine À (wpAny_newList ?_);have Y:(h'.push (ZK "list" vs.toArray 0)).get? h'.objs.size=some (ZK "list" vs.toArray 0):=Ì _ rfl;refine À (ĝ (ý slot_list_sort ⟨_,Y,rfl⟩ entry_list_sort (list_sort_tree Y X S λout ms a1 a2 R=>⟨_,rfl,?_⟩) (args_list_sort _)));obtain⟨e,O⟩:=sortedHeap_at (out:=out) Y;refine Â ⟨_,rfl,h _ d' tk h'.objs.size vs ns out.toList ms e (λb o N=>?_) ?_ Z X (by simpa [ZK] using O) a1 a2 R⟩
 ·have W:=T b o N
  have V:=Ñ W;rw[sortedHeap_old (ç V) (by rw[size_push'];exact Ġ V)];exact Á _ W
 ·exact U
end
end TS
namespace L2
open PySem PySem.Spec PyProof.Rows
def kL (P:ô) (w:Ĉ) (p:à) (ns:List Int):ō->Prop:=λh=>∃(S:Int->Bool) (n:Nat),TS.fV P w (TS.bH w) h p S n/\(∀k,S k=true↔k∈ns)/\n<=ns.length/\n=(ns.foldl step_dedup []).length
section
variable {X:Cx}
def my (l:List Int) (k:Int):(l.any (·==k))=true↔k∈l:=by
 rw[Ő];exact⟨λ⟨x,Z,Y⟩=>by rw[<- beq_iff_eq.mp Y];exact Z,λh=>⟨k,h,by simp⟩⟩
def Qd (hm:m=ns.length) (hS:TS.fV X.prog X.w (TS.bH X.w) h p (λk'=>(œ (λi=>ns.getD i 0) m).any (·==k')) (œ (λi=>ns.getD i 0) m).length):kL X.prog X.w p ns h:=by
 subst hm;refine⟨_,_,hS,λk=>?_,firstMet_length_le _ _,?_⟩
 ·rw[firstMet_any,map_getD]
  exact my ns k
 ·unfold œ
  rw[map_getD]
def Qe (hx:kL X.prog X.w p ns h):cL X.prog X.w (upd H p (.ext (kL X.prog X.w p ns))) h p (.ext (kL X.prog X.w p ns)):=by
 refine⟨hx,?_,λY W q k=>?_⟩
 ·obtain⟨_,_,⟨o,_,_,_,Z,_⟩,_⟩:=hx
  exact⟨o,Z⟩
 ·obtain⟨S,n,T,r⟩:=q
  exact⟨S,n,T.at k,r⟩
def MH (hc:X.calm=true):bP X (.type "set") (λxs H Q=>∃(a:à) (ns:List Int),xs=[.ref a]/\bo X.K H a (ns.map V.int)/\(ns.foldl step_dedup []).length<4000/\∀p,H p=none->Q (.ref p) (upd H p (.ext (kL X.prog X.w p ns)))):=by
 intro P s σ H xs O Q I r h;obtain⟨a,ns,rfl,W,N,q⟩:=h;obtain⟨u,rfl,U⟩:=vals1 r;cases U;obtain⟨its,Z,p,_⟩:=I.list W;have Y:its.toArray.size=ns.length:=by
  have e:=Z.length;rw[Ä] at e;simpa using e.symm
 refine TS.ME (its:=its.toArray) (ns:=ns) (I.ok.hd hc) p.isList (by simpa using intsAre_of Z) (by rw[Y];unfold œ;rw[map_getD];show _ + 1<4096;omega) λM T S R=>?_;exact⟨.ref _,_,I.laid (t':=T) (λb o e=>R b o (Ñ e) e) (aal _) (Qe (Qd Y S)),rfl,q _ (I.aC.fresh (aal _))⟩
theorem Et:∀{out:List Ê} {ms:List Int},Zx out ms->Vals (ms.map V.int) out
 |_,_,.nil=>.nil
 |_,_,.cons n t h=>.cons ⟨t,rfl⟩ (Et h)
theorem yK:∀(ns acc:List Int),acc.Nodup->(ns.foldl step_dedup acc).Nodup
 | [],acc,h=>h
 |n::ns,acc,h=>by
  refine yK ns _ ?_;unfold step_dedup;split
  ·exact h
  ·rename_i Z
   rw[υ] at Z;refine Ż.mpr ⟨h,by simp,λa Y b X=>?_⟩;have:b=n:=by simpa using X
   subst this;intro e;subst e;rw[(my acc a).mpr Y] at Z;cases Z
theorem F1:∀{vs:List Ê} {ns:List Int},Zx vs ns->∀k,k∈ns↔∃t,ZY k t∈vs
 |_,_,.nil,k=>by simp
 |_,_,.cons n t h,k=>by
  rw[Ò,F1 h k];constructor
  ·rintro (e | ⟨Z,h'⟩)
   ·subst e;exact⟨t,Î⟩
   ·exact⟨Z,Ð _ h'⟩
  ·rintro ⟨Z,h'⟩
   rcases Ò.mp h' with e|h'
   ·injection e with e _;exact .inl e
   ·exact .inr ⟨Z,h'⟩
theorem sub_len:∀{m l:List Int},m.Nodup->(∀k,k∈m->k∈l)->m.length<=l.length
 | [],l,_,_=>ď _
 |x::m,l,h,Z=>by
  obtain⟨W,V⟩:=ŵ.mp h;have Y:=Z x Î;have ih:=sub_len (m:=m) (l:=l.erase x) V λk X=>(List.mem_erase_of_ne (λ(e:k=x)=>W (by rw[<- e];exact X))).mpr (Z k (Ð _ X));rw[List.length_erase_of_mem Y] at ih;have:=List.length_pos_of_mem Y;rw[á];omega
theorem Eu:∀{l m:List Int},m.Nodup->(∀k,k∈m↔k∈l)->l.length<=m.length->l.Nodup
 | [],m,_,_,_=>ω
 |a::r,m,Z,Y,X=>by
  have W:a∉r:=λh=>by
   have:=sub_len Z λk V=>(Ò.mp ((Y k).mp V)).elim (λe=>e ▸ h) id;rw[á] at X;omega
  have U:a∈m:=(Y a).mpr Î;refine ŵ.mpr ⟨W,Eu (m:=m.erase a) (Z.erase a) (λk=>?_) ?_⟩
  ·rw[Z.mem_erase_iff,Y k,Ò]
   constructor
   ·rintro ⟨T,h2|h2⟩
    ·exact absurd h2 T
    ·exact h2
   ·intro h
    exact⟨λe=>W (e ▸ h),.inr h⟩
  ·rw[List.length_erase_of_mem U]
   rw[á] at X;omega
def Fo (ns:List Int) (k:Int):k∈ns.foldl step_dedup []↔k∈ns:=by
 have:=firstMet_any (λi=>ns.getD i 0) ns.length k;unfold œ at this;rw[map_getD] at this;rw[<- my,<- my,this]
def LP (hc:X.calm=true):bP X (.builtin "sorted") (λxs H Q=>∃(p:à) (ns:List Int),xs=[.ref p]/\H p=some (.ext (kL X.prog X.w p ns))/\(ns.foldl step_dedup []).length<64 /\
  ∀(l:à) (ms:List Int),H l=none->ms.Pairwise (· < ·)->(∀k,k∈ms↔k∈ns)->Q (.ref l) (upd H l (.lst (ms.map V.int)))):=by
 intro π s σ H xs us Q I r h;obtain⟨p,ns,rfl,K,hl,q⟩:=h;obtain⟨v,rfl,G⟩:=vals1 r;cases G;obtain⟨⟨S,n,⟨u,es,ep,t,F,E,hd,D,C,P,B,A,z⟩,y,CV,m⟩,_⟩:=I.aC p _ K;refine TS.MG (I.ok.hd hc) F E hd B z D (by omega) λj g O l vs ks out ms e f N Y W d c U k8=>?_;have M:∀k,k∈ms↔k∈ns:=λk=>by
  rw[U.mem_iff,F1 W k,<- y k,C k];constructor
  ·rintro ⟨t',V6⟩
   obtain⟨x,T,Z⟩:=å.mp (Y.mem_iff.mp V6);exact⟨x,T,by rw[Z];exact intKind_is _ _ _ _⟩
  ·rintro ⟨x,T,Z⟩
   obtain⟨i,t',L⟩:∃i t',x.2=.int i t':=by
    cases hv:x.2 with
    |int i t'=>exact⟨i,t',rfl⟩
    |_=>rw[hv] at Z;simp[ŝ,Value.isInt] at Z
   have oT:k=i:=(ŝ X.prog X.w).inj (.int i t') k i (by rw[<- L];exact Z) (intKind_is _ _ _ _);subst oT;exact⟨t',Y.mem_iff.mpr (å.mpr ⟨x,T,L⟩)⟩
 have Vf:ms.Nodup:=by
  have oU:=yK ns [] ω;refine Eu oU (λk=>?_) ?_
  ·rw[M k,Fo]
  ·rw[<- m,<- A]
   have e1:=U.length_eq;have e2:=W.length;have R:=Y.length_eq;simp at R;omega
 have aY:ms.Pairwise (· < ·):=by
  have:=List.pairwise_and_iff.mpr ⟨k8,Vf⟩;exact this.imp λ⟨a,b⟩=>by omega
 have J:=I.laid (t':=O) (a:=l) (o:=.lst (ms.map V.int)) f N ⟨by
  rw[Ä,ŏ];have e1:=U.length_eq;have e2:=W.length;have R:=Y.length_eq;simp at R;omega,out,e,Et c,d⟩
 exact⟨.ref l,_,J.w9 (s':={ s with heap:=j,drawn:=g,toks:=O }) (ch:=[]) rfl Un.refl J.aC J.bare (λb P=>by cases P),rfl,q l ms (I.aC.fresh N) aY M⟩
end
section
variable {X:Cx}
end
mutual
noncomputable def x6:Zv->Bool
 | .tuple Z=>xE Z
 | .list _=>false
 |_=>true
noncomputable def xE:List Zv->Bool
 | []=>true
 |d::Z=>x6 d&&xE Z
end
section
variable {X:Cx} {π:List (à×Obj)} {σ:St} {H:Hp} {s:Æ} {Z:à->Prop}
mutual
theorem DV.wF (I:Inv X π σ H s):∀{d:Zv} {v:V} {u:Ê},DV X.K Z H d v->RelV v u->x6 d=true->∃as,Reads s.heap u d as/\YC∉as
 | .none,v,u,h,r,_=>by
  have e:v=.au:=h;subst e;cases r;exact⟨[],.none,by simp⟩
 | .bool b,v,u,h,r,_=>by
  have e:v=.bl b:=h;subst e;cases r;exact⟨[],.bool b,by simp⟩
 | .int i,v,u,h,r,_=>by
  have e:v=.int i:=h;subst e;obtain⟨t,rfl⟩:=r;exact⟨[],.int i t,by simp⟩
 | .str x,v,u,h,r,_=>by
  have e:v=.str x:=h;subst e;obtain⟨t,rfl⟩:=r;exact⟨[],.str x t,by simp⟩
 | .tuple U,v,u,h,r,Y=>by
  simp only[DV] at h;obtain⟨a,F,e,W,T⟩:=h;subst e;cases r;obtain⟨its,S,⟨o,e,c,n,R⟩,_⟩:=I.tuple W;obtain⟨as,Q,hs⟩:=aj.wF I T S (by simpa only [x6] using Y);exact⟨as,.tuple e c R (by simpa using Q),hs⟩
 | .list U,v,u,h,r,Y=>by
  simp only[x6] at Y;cases Y
 | .dict E,v,u,h,r,_=>by
  simp only[DV] at h;obtain⟨a,D,e,_,W,l,e1,e2⟩:=h;subst e e1 e2;cases r;obtain⟨_,P,C,O,o,N,B,g1,g2,g3,_,M,_⟩:=(show cL X.prog X.w H s.heap a (.dK _) from I.aC a _ W);obtain⟨L,J⟩:=yJ (h:=s.heap) O M;refine⟨a::[]++[],.dict g1 g2.1 g3 L J,λG=>?_⟩;have e:YC=a:=by simpa using G
  subst e;simp at P
theorem aj.wF (I:Inv X π σ H s):∀{ds:List Zv} {vs:List V} {us:List Ê},aj X.K Z H ds vs->Vals vs us->xE ds=true->∃as,ReadsAll s.heap us ds as/\YC∉as
 | [],vs,us,h,r,_=>by
  have e:vs=[]:=h;subst e;cases r;exact⟨[],.nil,by simp⟩
 |d::ds,vs,us,h,r,Y=>by
  obtain⟨v,O,e,W,U⟩:=h;subst e;simp only[xE,È] at Y
  cases r with
  |cons T S =>
   obtain⟨as,a1,R⟩:=DV.wF I W T Y.1;obtain⟨bs,a2,Q⟩:=aj.wF I U S Y.2;refine⟨as++bs,.cons a1 a2,λP=>?_⟩
   rcases â.mp P with z|z
   ·exact R z
   ·exact Q z
end
end
section
variable {X:Cx}
end
end L2
namespace HZ
open PySem PySem.Spec PyProof.Rows
open AutoSeq1 (wpAny_loadPart')
section
variable {P:ô} {w:Ĉ} {A:Ă} {E:Ê->Æ->Prop} {s:Æ}
end
end HZ
namespace L2
open PySem PySem.Spec PyProof.Rows
section
variable {X:Cx} {elts:List ņ} {kk:Nat} {tp:Pos}
end
section
variable {K:Ļ} {caps:St} {H:Hp} {tf:TT} {te:TE} {Q:VK}
end
end L2
namespace HZ
open PySem PySem.Spec PyProof.Rows
def Lk:fillsNumberSlot (.type "tuple") "mul"=pure false:=by
 first|rfl | (unfold fillsNumberSlot;kernel_rfl)|kernel_rfl
def LQ:seqRepeat? (.type "tuple")=pure (some (.builtin "tuple.__mul__")):=by
 first|rfl|kernel_rfl
def MI (a:Int) (t:Tok) (l:à) (items:Array Ê) (n:Nat) (d:Option à) (sl:Array (Option Ê)) :
  Meets (Œ.«int.__rmul__» ⟨[.int a t,.ref l],[]⟩) (λ_ R s=>s.heap.get? l=some { cls:=.type "tuple",dict:=d,data:=.seq items n,slots:=sl }/\R (.ok (.ret Value.notImplemented)) s) :=
 .of_wp λprog w A R s h=>by
  obtain⟨Z,Y,X,W,V⟩:=s;obtain⟨U,h⟩:=h;wp_walk;exact⟨_,rfl,h⟩
section
variable {P:ô} {w:Ĉ} {A:Ă} {E:Ê->Æ->Prop} {s:Æ}
def Qf (ht:IsTup s.heap t vs.toArray) (hv:vs≠[]) (hk:1<=k) (hz:vs.length*k.toNat<=Û)
 (h1:k=1->Q (.ref t) s) (h2:k≠1->Q (.ref s.heap.objs.size) { s with heap:=s.heap.push { cls:=.type "tuple",data:=.seq (Ï k.toNat vs).flatten.toArray } }) :
  Ú (î P w) A (Ō .Mult (.ref t) (.int k tk)) Q E s:=by
 obtain⟨⟨cls,V,data,S⟩,Z,Y,n,X⟩:=id ht;simp only at Y X;subst Y X;have K:k<=16777216:=by
  have R:1<=vs.length:=by
   cases vs with
   |nil=>exact absurd rfl hv
   |cons a r=>simp
  have J:vs.length*k.toNat<=16777216:=by rw[<- ŏ];exact hz
  have:1*k.toNat<=vs.length*k.toNat:=Nat.mul_le_mul_right _ R;omega
 refine wpAny_binaryOp_repeat_ref (T:="tuple") (U:="int") (by decide) ⟨_,Z,rfl⟩ (λO=>typeIs_int O k tk) Lk F.fills_int_mul Z0 LQ F.slot_int_index.lookup
  (call_meets Z0 (typeIs_int s k tk) F.entry_int_rmul (F.args_int_rmul_2 _ _) (MI k tk t vs.toArray n V S) ⟨Z,rfl,⟨_,Z,rfl⟩,?_⟩)
 refine ý F.slot_tuple_mul ⟨_,Z,rfl⟩ F.entry_tuple_mul ?_ (F.args_tuple_mul_2 _ _);show Ú _ _ (asIndex (.int k tk) >>= _) _ _ _;refine À ?_
 refine ι (a:=k) (by first|rfl | (unfold asIndex;rfl)) ?_
 dsimp only;rw[ð (by simp;omega)];unfold Ş;refine À (À (ı Z rfl ?_));refine Â ?_;have ne:vs.toArray.isEmpty=false:=by
  cases vs with
  |nil=>exact absurd rfl hv
  |cons a r=>simp
 by_cases h:k=1
 ·rw[é (by rw[h];simp)]
  unfold YL;refine À (À (Y8 (T:="tuple") ⟨_,Z,rfl⟩ (Â ?_)));rw[é (by decide)];exact À (Ţ (Â ⟨_,rfl,h1 h⟩))
 ·rw[ð (by rw[ne];simp[h])]
  rw[ð (by rw[ne];simp;omega)];have W:(vs.toArray.size:Int)*k=((vs.length*k.toNat:Nat):Int):=by
   rw[Ô,Int.natCast_mul];congr 1;omega
  have N:vs.length*k.toNat<=16777216:=by rw[<- ŏ];exact hz
  rw[ð (by rw[W];omega)];rw[ð (by
   unfold Builtin.Tuple.tupleTooMany;rw[W,ŏ,Å];generalize vs.length*k.toNat=q at N;omega)]
  unfold Ŏ;have e:List.foldl (λM L=>M++L) #[] (Ï k.toNat vs.toArray)=(Ï k.toNat vs).flatten.toArray:=by
   have:=L2.foldl_rep vs k.toNat [];rw[Į] at this;exact this
  rw[e];refine À (ö ?_ (by
   show (ZH _).size<=Û;rw[Ô,L2.len_rep,Nat.mul_comm];exact hz))
  exact Â ⟨_,rfl,h2 h⟩
end
end HZ
namespace L2
open PySem PySem.Spec PyProof.Rows
section
variable {X:Cx}
def TM (K:Ļ):R2:=λx y H Q=>∃a Z k,x=.ref a/\y=.int k/\aX K H a Z/\Z≠[]/\1<=k/\Z.length*k.toNat<=Û/\mT K H (Ï k.toNat Z).flatten Q
def Qg:bh X (Ō .Mult) (TM X.K):=by
 intro P s σ H x y v u Q I V U h;obtain⟨a,Z,k,rfl,rfl,hs,T,S,W,q⟩:=h;cases V;obtain⟨t,rfl⟩:=U;obtain⟨its,r,p,z⟩:=I.tuple hs;have Y:=r.length;refine HZ.Qf p (λe=>T (by rw[e] at Y;exact Zl.mp Y)) S (by rw[<- Y];exact W) (λe=>?_) (λ_=>?_)
 ·have e1:(Ï k.toNat Z).flatten=Z:=by rw[e];simp
  rw[e1] at q;exact⟨.ref a,H,I,rfl,q.here hs⟩
 ·have R:(Ï k.toNat Z).flatten.length<=Û:=by rw[len_rep,Nat.mul_comm];exact W
  exact⟨.ref _,_,I.laid (t':=s.toks) (o:=.tup (Ï k.toNat Z).flatten) (λb o e=>Á _ e) (aal _) ⟨R,_,r.rep k.toNat,⟨_,Ì _ rfl,rfl,_,rfl⟩⟩,rfl,q.new (I.aC.fresh (aal _))⟩
end
end L2
namespace HZ
open PySem PySem.Spec PyProof.Rows
def GV:mroOf (.type "reversed")=pure [.type "reversed",.type "object"]:=by rw[mroOf_type];kernel_rfl
def Lv:typeLookup (.type "reversed") "__new__"=pure (some (.builtin "reversed.__new__")):=by rw[typeLookup_type,ZI];kernel_rfl
def OB:Bind.madeBy (.type "reversed")=pure (some "reversed.__new__"):=madeBy_type GV Lv (by decide +kernel)
def LC:entryFor table "reversed.__new__"=some Œ.«reversed.__new__»:=entryFor_of_tree (by kernel_rfl)
def LD:plainId "reversed.__new__"=true:=by decide +kernel
def LR (a:Ê):checkTypeCall "reversed" ⟨[a],[]⟩=pure ():=by kernel_rfl
def Mg (a:Ê):checkBuiltinCall "reversed.__new__" ⟨[.type "reversed",a],[]⟩=pure ():=by kernel_rfl
def Qh:isSubtype (.type "reversed") (.type "reversed")=pure true:=by rw[isSubtype_type];kernel_rfl
def MJ:isSubtype (.type "range_iterator") (.type "reversed")=pure false:=by rw[isSubtype_type];kernel_rfl
def LS:(Ų "reversed"==Ų "type")=false:=by decide +kernel
def Qi:((Manifest.find? "reversed").bind (·.mro.findSome? λt=>(Manifest.find? t).bind λb=>if b.noNew then some true else if b.attrs.any (·.1=="__new__") then some false else none)).getD false=false:=by decide +kernel
section
variable {P:ô} {w:Ĉ} {A:Ă} {E:Ê->Æ->Prop} {s:Æ}
def LU (hr:s.heap.get? r=some { cls:=.type "range",data:=.fields #[.int a t1,.int b t2,.int c t3] }) (h:Q (a,b,c) s):Ú (î P w) A (aaa (.ref r)) Q E s:=by
 unfold aaa;refine À (Ĺ hr rfl (x:=.int a t1) rfl ?_);refine À (ι (a:=some a) (by rfl) ?_);refine À (Ĺ hr rfl (x:=.int b t2) rfl ?_);refine À (ι (a:=some b) (by rfl) ?_);refine À (Ĺ hr rfl (x:=.int c t3) rfl ?_);refine À (ι (a:=some c) (by rfl) ?_);exact Â h
def Qj {n:Nat} {Q:Ê->Æ->Prop} (hr:s.heap.get? r=some { cls:=.type "range",data:=.fields #[.int 0 t1,.int n t2,.int 1 t3] }) (hn:n<2 ^ 62)
 (h:Q (.ref s.heap.objs.size) { s with heap:=s.heap.push { cls:=.type "range_iterator",data:=.fields #[ŋ (n-1),ŋ n,ŋ (-1)] } }) :
  Ú (î P w) A (Œ.«reversed.__new__» ⟨[.type "reversed",.ref r],[]⟩) (λfin s'=>∃v,fin=.done (.ret v)/\Q v s') E s:=by
 have X:s.TypeIs (.ref r) "range":=⟨_,hr,rfl⟩;have ss:=Qh;unfold Œ.«reversed.__new__» Builtin.SmallTypes.newClass Builtin.SmallTypes.refuseKeywords;have V:=Yw.lookup;have U:=Yw.bind (.ref r)
 wp_walk
 refine Ŕ (YN (R:=wants (λv s'=>v=.ref s.heap.objs.size/\s'={ s with heap:=s.heap.push { cls:=.type "range_iterator",data:=.fields #[ŋ (n-1),ŋ n,ŋ (-1)] } }) E) Yw.plain F.entry_range_reversed (Yw.check _ _ _ _ _ _ _ _ X (F.args_range_reversed_1 _) ?_)) λW T Z=>?_
 ·unfold Œ.«range.__reversed__»
  refine À (ι (a:=.ref r) (by rfl) ?_);refine À (LU hr ?_);dsimp only;have sz:Zd 0 n 1=n:=by
   unfold Zd;rw[é (by decide)]
   split<;>omega
  rw[sz];have Y:(Ī 0&&Ī n&&Ī 1&&Ī (-1)&&Ī (0-1)&&Ī n)=true:=by
   have S:(n:Int)<2 ^ 62:=by omega
   unfold Ī;simp only[È,Å];refine⟨⟨⟨⟨⟨⟨by decide,by decide⟩,by omega,by omega⟩,by decide,by decide⟩,by decide,by decide⟩,by decide,by decide⟩,by omega,by omega⟩
  rw[Y];rw[ð (by decide)];refine À (ö ?_);refine Â ?_;refine⟨rfl,?_⟩;have e:(0:Int)+((n:Int)-1)*1=n-1:=by omega
  simp[ŋ]
 ·cases W with
  |error e=>exact Z
  |ok Y =>
   cases Y with
   |ret v =>
    obtain⟨rfl,rfl⟩:=Z;exact Â ⟨_,rfl,h⟩
   |_=>exact Z
def OC {n:Nat} {Q:Ê->Æ->Prop} (hr:s.heap.get? r=some { cls:=.type "range",data:=.fields #[.int 0 t1,.int n t2,.int 1 t3] }) (hn:n<2 ^ 62)
 (h:Q (.ref s.heap.objs.size) { s with heap:=s.heap.push { cls:=.type "range_iterator",data:=.fields #[ŋ (n-1),ŋ n,ŋ (-1)] } }):Ú (î P w) A (call (.type "reversed") [.ref r]) Q E s:=by
 have T:=GV;have S:=OB;have O:=MJ;have m4:=LS;have N:=Qi;have M:=LR (.ref r);refine wpAny_call (Zk ?_);show Ú _ _ (callAny (.type "reversed") _) _ _ _;refine Â ⟨Code.quiet_builtin _ (by decide +kernel),Ń F.entry_type_call ?_⟩;rw[Z7 (ZJ "reversed" [.ref r] []) rfl]
 repeat (any_goals (first|assumption|wp_step))
 refine Ŕ (YN (R:=wants (λv Z=>v=.ref s.heap.objs.size/\Z={ s with heap:=s.heap.push { cls:=.type "range_iterator",data:=.fields #[ŋ (n-1),ŋ n,ŋ (-1)] } }) E) LD LC (ι (Mg _) ?_)) λX L Y=>?_
 ·refine ň (Qj (Q:=λv Z=>v=.ref s.heap.objs.size/\Z={ s with heap:=s.heap.push { cls:=.type "range_iterator",data:=.fields #[ŋ (n-1),ŋ n,ŋ (-1)] } }) hr hn ⟨rfl,rfl⟩) (λf Z W=>?_) λ_ _ e=>e
  obtain⟨v,rfl,V⟩:=W;exact V
 ·cases X with
  |error e=>exact Y
  |ok U =>
   cases U with
   |ret v =>
    obtain⟨rfl,rfl⟩:=Y
    have K:aaf { s with heap:=s.heap.push { cls:=.type "range_iterator",data:=.fields #[ŋ (n-1),ŋ n,ŋ (-1)] } } (.ref s.heap.objs.size) "range_iterator":=⟨_,Ì _ rfl,rfl⟩
    repeat (any_goals (first|assumption|wp_step))
   |_=>exact Y.elim
end
end HZ
namespace L2
open PySem PySem.Spec PyProof.Rows
noncomputable def BN (n:Nat):It:=⟨λi _=>i<n,λi H x Z=>Z=H/\x=.int ((n:Int)-1-i),λi _=>n<=i⟩
def OD {P:ô} {w:Ĉ} {K:Ļ} {tg:ņ} (it:à) (n:Nat):Turn P w K tg (BN n) [it] it (λi h=>IsRangeIter h it (((n:Int)-1)+(i:Nat)*(-1)) ((n:Int)-(i:Nat)) (-1)) where
 mem:=by simp
 obj:=λi h Z b Y=>by
  have e:b=it:=by simpa using Y
  subst e;exact⟨_,Z,λv z=>by
   have G:Data.fields _=Data.cell v:=z;cases G⟩
 keep:=λi h V Z k=>k it (by simp) _ Z
 item:=by
  intro X T hw S R i M s σ H E I U Z Q;subst T hw S;obtain⟨f0,f1,f2,O,f4,N⟩:=U it (by simp);have W:=Walks.range (prog:=X.prog) (w:=X.w) (I.ok.hd R) it ((n:Int)-1) (-1) n;refine W.item i s _ _ Q Z λv V L F J D=>?_;obtain⟨t,rfl⟩:=F
  have C:Inv X M σ H { s with heap:=V,toks:=L }:=I.turned (λb o Y e=>D b o (by simpa using Y) e) f0 f1 O f4 N
  refine⟨_,rfl,xa (s:={ s with heap:=V,toks:=L }) (n:="range_iterator") J rfl rfl (by decide) ⟨.int ((n:Int)-1-i),H,C,⟨t,?_⟩,⟨rfl,rfl⟩,J,λb Y=>(U b Y).1⟩⟩
  rw[Int.mul_neg_one];rfl
 done:=by
  intro X T hw S R i M s σ H E I U Z Q;subst T hw S;obtain⟨f0,f1,f2,O,f4,N⟩:=U it (by simp);exact wpAny_pyNext_range_end (I.ok.hd R) Z (by have:n<=i:=Q;omega) λV B=>⟨rfl,I.turned (t':=s.toks) (λb o Y e=>B b o Y e) f0 f1 O f4 N⟩
 self:=λ_ _ _ _ _ Z h=>Zs Z h
section
variable {X:Cx} {tg:ņ}
def OE:ā "reversed"=some (.type "reversed"):=by decide +kernel
def Mh:bP X (.type "range") (λxs H Q=>∃j:Int,xs=[.int j]/\∀p,H p=none->Q (.ref p) (upd H p (.bc 0 j))):=by
 intro Y s σ H xs W Q I r h;obtain⟨j,rfl,q⟩:=h;obtain⟨u,rfl,Z⟩:=vals1 r;obtain⟨t,rfl⟩:=Z;exact call_range_1 ⟨.ref _,_,I.laid (o:=.bc 0 j) (t':=s.toks+1+1) (λb o e=>Á _ e) (aal _) ⟨_,_,_,Ì _ rfl⟩,rfl,q _ (I.aC.fresh (aal _))⟩
def Vh (ta:TA):TI:=fun σ H R=>ta σ H λY Z=>∃(p:à) (n:Nat),Y=[.ref p]/\Z p=some (.bc 0 n)/\n<2 ^ 62/\R (BN n) Z
def RU {a:ņ} {ta:TA} {p pos:Pos} (hg:Gl X "reversed") (hm:X.mg "reversed"=none) (ha:PA X [a] ta) (hs:Ý [a] X.env=[(false,Ž a X.env)]:=by rfl):PI X tg (.Call (.Name "reversed" p) [a] [] pos) (Vh ta):=by
 intro V s σ H R I h;refine Call_ (nV I hg hm OE (Ł (aJ (ha pos V s σ H _ I h) λL Z ⟨K,U,Y,T,S⟩=>?_) hs rfl));obtain⟨c,n,e,Q,P,q⟩:=S;subst e;obtain⟨u,rfl,O⟩:=vals1 T;cases O;obtain⟨t1,J,t3,N⟩:=Y.aC c _ Q;refine HZ.OC N P ?_;have W:IsRangeIter (Z.heap.push { cls:=.type "range_iterator",data:=.fields #[ŋ ((n:Int)-1),ŋ n,ŋ (-1)] }) Z.heap.objs.size (((n:Int)-1)+((0:Nat):Int)*(-1)) ((n:Int)-((0:Nat):Int)) (-1):=by
  have e1:((n:Int)-1)+((0:Nat):Int)*(-1)=n-1:=by simp
  have e2:(n:Int)-((0:Nat):Int)=n:=by simp
  rw[e1,e2];exact Ì _ rfl
 refine Zs (s:={ Z with heap:=_ }) W ?_
 refine⟨Z.heap.objs.size,[Z.heap.objs.size],_,_,U,rfl,Y.kept (t':=Z.toks) λb o e=>Á _ e,OD _ n,W,λb M=>?_,q⟩;have e:b=Z.heap.objs.size:=by simpa using M
 subst e;exact Y.tM (aal _) (Y.aC.fresh (aal _))
end
end L2
namespace HZ
open PySem PySem.Spec PyProof.Rows
section
variable {P:ô} {w:Ĉ} {A:Ă} {R:Result->Æ->Prop} {I:à} {fp wr:List à} {n:Nat} {Pv:Nat->Ê->Prop} {St:Nat->ō->Prop} {kw:List (Str×Ê)}
end
section
variable {P:ô} {w:Ĉ} {A:Ă} {E:Ê->Æ->Prop} {s:Æ}
end
end HZ
namespace L2
open PySem PySem.Spec PyProof.Rows
section
variable {X:Cx} {p pos kp:Pos} {e d:ņ} {ta tk:TA}
end
end L2
namespace DI
open PySem L2
set_option genInjectivity true in
inductive D where
 |au|bl (b:Bool)|int (i:Int)|str (x:Str)|tup (ds:List D)|lst (ds:List D)|bw (ai:List (Key×Int))|ao (k:Nat)|ty (n:String)|aZ (ns:List Int)|exc (c:Str) (m:Option Int)|cC (a:à) (vs:List V) (ds:List D)
set_option genInjectivity true in
inductive Cell where
 |dead|lst (ds:List D)|dK (ai:List (Key×D))|dT (ai:List (D×Int))|tb (x:Str)|ins (c:Str) (fs:List (Str×D))
noncomputable abbrev af:=List Cell
noncomputable abbrev Env:=List (Option D)
structure bg where
 c:Str
 many:Option Int
abbrev Res (α:Type):=Option (Except bg α×af)
abbrev aah (α:Type):=Env->af->Res α
abbrev ok {α:Type} (a:α) (s:af):Res α:=some (.ok a,s)
def aq {α β:Type} (r:Res α) (k:α->af->Res β):Res β:=match r with
 |some (.ok a,s)=>k a s
 |some (.error x,s)=>some (.error x,s)
 |none=>none
@[simp] theorem eM {α β:Type} {a:α} {s:af} {k:α->af->Res β}:aq (some (.ok a,s)) k=k a s:=rfl
structure Wd where
 ρ:List à
 aG:af
 H:Hp
def Wd.Z (w:Wd) (a:à):Prop:=∃(k:Nat) (c:Cell),w.ρ[k]?=some a/\w.aG[k]?=some c/\c≠.dead
def LstAt (w:Wd) (a:à) (xs:List V):Prop:=¬ w.Z a/\w.H a=some (.lst xs)
def LstAt.sq (h:LstAt w a xs):bo K w.H a xs:=bo.of h.2
def sW (K:Ļ) (w:Wd) (a:à) (xs:List V):Prop:=(¬ w.Z a/\Rd w.H a (.lst xs)) \/
 ∃(o:Obj) (its:Array Ê) (n:Nat),K.lookup a=some o/\o.cls=.type "list"/\o.dict=none/\o.data=.seq its n/\its.size<=Û/\Vals xs its.toList
def sW.sq (h:sW K w a xs):bo K w.H a xs:=by
 rcases h with ⟨_,h⟩|h
 ·exact .inl h
 ·exact .inr h
mutual
def DV (K:Ļ) (w:Wd):D->V->Prop
 | .au,v=>v=.au
 | .bl b,v=>v=.bl b
 | .int i,v=>v=.int i
 | .str x,v=>v=.str x
 | .tup Y,v=>∃a X,v=.ref a/\aX K w.H a X/\aj K w Y X
 | .lst Y,v=>∃a X,v=.ref a/\LstAt w a X/\aj K w Y X
 | .bw S,v=>∃a,v=.ref a/\¬ w.Z a/\w.H a=some (.dK (S.map λp=>(p.1,V.int p.2)))
 | .ao k,v=>∃a,w.ρ[k]?=some a/\v=.ref a
 | .ty n,v=>v=.ty n
 | .aZ R,v=>∃a,v=.ref a/\sW K w a (R.map V.int)
 | .exc c m,v=>∃a o C,v=.ref a/\(¬ w.Z a/\w.H a=some (.bE o (.own a)))/\(o.cls=.ref C/\ă K ó c=some (some (.ref C)))/\∀i,m=some i->PySem.W.notCls o=true/\∃U T t,o.dict=some U/\(¬ w.Z U/\w.H U=some (.bE T (.own U)))/\PySem.W.lookIn "many" T=some (some (.int i t))
 | .cC a Q Y,v=>v=.ref a/\aj K w Y Q
def aj (K:Ļ) (w:Wd):List D->List V->Prop
 | [],Z=>Z=[]
 |d::Y,Z=>∃v r,Z=v::r/\DV K w d v/\aj K w Y r
end
structure Fw (K:Ļ) (w w':Wd):Prop where
 CY:∀(k:Nat) a,w.ρ[k]?=some a->w'.ρ[k]?=some a
 tup:∀a xs,aX K w.H a xs->aX K w'.H a xs
 lst:∀a xs,¬ w.Z a->w.H a=some (.lst xs)->¬ w'.Z a/\w'.H a=some (.lst xs)
 bE:∀a o u,¬ w.Z a->w.H a=some (.bE o u)->¬ w'.Z a/\w'.H a=some (.bE o u)
 bw:∀a es,¬ w.Z a->w.H a=some (.dK es)->¬ w'.Z a/\w'.H a=some (.dK es)
def Fw.IV (S:Fw K w w') (h:LstAt w a xs):LstAt w' a xs:=S.lst a xs h.1 h.2
def Fw.TN (S:Fw K w w') (h:sW K w a xs):sW K w' a xs:=by
 rcases h with ⟨Y,Z | ⟨o,Z⟩⟩|h
 ·have q:=S.lst a xs Y Z
  exact .inl ⟨q.1,.inl q.2⟩
 ·have q:=S.bE a o _ Y Z
  exact .inl ⟨q.1,.inr ⟨o,q.2⟩⟩
 ·exact .inr h
mutual
theorem DV.fw (S:Fw K w w'):∀{d:D} {v:V},DV K w d v->DV K w' d v
 | .au,_,h=>h
 | .bl _,_,h=>h
 | .int _,_,h=>h
 | .str _,_,h=>h
 | .tup X,v,h=>by
  simp only[DV] at h |-;obtain⟨a,Y,e,Z,r⟩:=h;exact⟨a,Y,e,S.tup a Y Z,aj.fw S r⟩
 | .lst X,v,h=>by
  simp only[DV] at h |-;obtain⟨a,Y,e,Z,r⟩:=h;exact⟨a,Y,e,S.IV Z,aj.fw S r⟩
 | .bw L,v,h=>by
  simp only[DV] at h |-;obtain⟨a,e,R,Z⟩:=h;obtain⟨Q,P⟩:=S.bw a _ R Z;exact⟨a,e,Q,P⟩
 | .ao k,v,h=>by
  simp only[DV] at h |-;obtain⟨a,e,e2⟩:=h;exact⟨a,S.CY k a e,e2⟩
 | .ty _,_,h=>h
 | .aZ J,v,h=>by
  simp only[DV] at h |-;obtain⟨a,e,Z⟩:=h;exact⟨a,e,S.TN Z⟩
 | .exc c m,v,h=>by
  simp only[DV] at h |-;obtain⟨a,o,C,e,Z,r,k⟩:=h;refine⟨a,o,C,e,S.bE a o _ Z.1 Z.2,r,λi hi=>?_⟩;obtain⟨O,W,U,t,N,T,M⟩:=k i hi;exact⟨O,W,U,t,N,S.bE W U _ T.1 T.2,M⟩
 | .cC a I X,v,h=>by
  simp only[DV] at h |-;exact⟨h.1,aj.fw S h.2⟩
theorem aj.fw (S:Fw K w w'):∀{ds:List D} {vs:List V},aj K w ds vs->aj K w' ds vs
 | [],_,h=>h
 |d::ds,vs,h=>by
  simp only[aj] at h |-;obtain⟨v,r,e,Z,Y⟩:=h;exact⟨v,r,e,DV.fw S Z,aj.fw S Y⟩
end
structure Le (K:Ļ) (w w':Wd):Prop where
 dv:∀d v,DV K w d v->DV K w' d v
 lst:∀a xs,LstAt w a xs->LstAt w' a xs
 tup:∀a xs,aX K w.H a xs->aX K w'.H a xs
 bE:∀a o u,¬ w.Z a->w.H a=some (.bE o u)->¬ w'.Z a/\w'.H a=some (.bE o u)
noncomputable instance {K:Ļ} {w w':Wd}:CoeFun (Le K w w') (λ_=>∀d v,DV K w d v->DV K w' d v):=⟨Le.dv⟩
def Le.refl (w:Wd):Le K w w:=⟨λ_ _ h=>h,λ_ _ h=>h,λ_ _ h=>h,λ_ _ _ h g=>⟨h,g⟩⟩
def Le.trans (h:Le K a b) (g:Le K b c):Le K a c:=⟨λd v x=>g.dv d v (h.dv d v x),λp Z x=>g.lst p Z (h.lst p Z x),λp Z x=>g.tup p Z (h.tup p Z x),λp o u z x=>let q:=h.bE p o u z x;g.bE p o u q.1 q.2⟩
def Fw.le (S:Fw K w w'):Le K w w':=⟨λ_ _ h=>h.fw S,λ_ _ h=>S.IV h,S.tup,S.bE⟩
theorem Le.all (h:Le K w w'):∀{ds:List D} {vs:List V},aj K w ds vs->aj K w' ds vs
 | [],_,x=>x
 |d::ds,vs,x=>by
  simp only[aj] at x |-;obtain⟨v,r,e,Z,Y⟩:=x;exact⟨v,r,e,h d v Z,Le.all h Y⟩
theorem aj.length:∀{ds:List D} {vs:List V},aj K w ds vs->ds.length=vs.length
 | [],vs,h=>by
  have e:vs=[]:=h;subst e;rfl
 |d::ds,vs,h=>by
  obtain⟨v,r,e,_,Z⟩:=h;subst e;simp[aj.length Z]
theorem aj.get:∀{ds:List D} {vs:List V},aj K w ds vs->∀(i:Nat) v,vs[i]?=some v->∃d,ds[i]?=some d/\DV K w d v
 | [],vs,h,i,v,e=>by
  have Z:vs=[]:=h;subst Z;simp at e
 |d::ds,vs,h,i,v,e=>by
  obtain⟨u,r,Z,Y,X⟩:=h;subst Z
  cases i with
  |zero =>
   have:u=v:=by simpa using e
   subst this;exact⟨d,rfl,Y⟩
  |succ i=>exact aj.get X i v (by simpa using e)
theorem aj.get':∀{ds:List D} {vs:List V},aj K w ds vs->∀(i:Nat) d,ds[i]?=some d->∃v,vs[i]?=some v/\DV K w d v
 | [],vs,h,i,d,e=>by simp at e
 |d::ds,vs,h,i,Z,e=>by
  obtain⟨u,r,Y,X,W⟩:=h;subst Y
  cases i with
  |zero =>
   have:d=Z:=by simpa using e
   subst this;exact⟨u,rfl,X⟩
  |succ i=>exact aj.get' W i Z (by simpa using e)
theorem aj.append:∀{ds es:List D} {vs ws:List V},aj K w ds vs->aj K w es ws->aj K w (ds++es) (vs++ws)
 | [],es,vs,ws,h,Z=>by
  have e:vs=[]:=h;subst e;exact Z
 |d::ds,es,vs,ws,h,Z=>by
  obtain⟨v,r,e,Y,X⟩:=h;subst e;exact⟨v,r++ws,rfl,Y,aj.append X Z⟩
theorem aj.take:∀{ds:List D} {vs:List V} (n:Nat),aj K w ds vs->aj K w (ds.take n) (vs.take n)
 | [],vs,n,h=>by
  have e:vs=[]:=h;subst e;simp[aj]
 |d::ds,vs,0,h=>by simp[aj]
 |d::ds,vs,n+1,h=>by
  obtain⟨v,r,e,Z,Y⟩:=h;subst e;exact⟨v,r.take n,rfl,Z,aj.take n Y⟩
theorem aj.drop:∀{ds:List D} {vs:List V} (n:Nat),aj K w ds vs->aj K w (ds.drop n) (vs.drop n)
 | [],vs,n,h=>by
  have e:vs=[]:=h;subst e;simp[aj]
 |d::ds,vs,0,h=>h
 |d::ds,vs,n+1,h=>by
  obtain⟨v,r,e,Y,Z⟩:=h;subst e;exact aj.drop n Z
theorem aj.reverse:∀{ds:List D} {vs:List V},aj K w ds vs->aj K w ds.reverse vs.reverse
 | [],vs,h=>by
  have e:vs=[]:=h;subst e;simp[aj]
 |d::ds,vs,h=>by
  obtain⟨v,r,e,Z,Y⟩:=h;subst e;rw[List.reverse_cons,List.reverse_cons];exact aj.append (aj.reverse Y) ⟨v,[],rfl,Z,rfl⟩
theorem aj.set (hd:DV K w d v):∀{ds:List D} {vs:List V} (i:Nat),aj K w ds vs->aj K w (ds.set i d) (vs.set i v)
 | [],vs,i,h=>by
  have e:vs=[]:=h;subst e;simp[aj]
 |d'::ds,vs,0,h=>by
  obtain⟨u,r,e,Y,Z⟩:=h;subst e;exact⟨v,r,rfl,hd,Z⟩
 |d'::ds,vs,i+1,h=>by
  obtain⟨u,r,e,Y,Z⟩:=h;subst e;exact⟨u,r.set i v,rfl,Y,aj.set hd i Z⟩
def aj.one (h:DV K w d v):aj K w [d] [v]:=⟨v,[],rfl,h,rfl⟩
def aj.two (h:DV K w d v) (h':DV K w d' v'):aj K w [d,d'] [v,v']:=⟨v,_,rfl,h,aj.one h'⟩
theorem aj.ints:∀(ns:List Int),aj K w (ns.map D.int) (ns.map V.int)
 | []=>rfl
 |n::ns=>⟨.int n,_,rfl,rfl,aj.ints ns⟩
theorem aj.F2:∀{ns:List Int} {vs:List V},aj K w (ns.map D.int) vs->vs=ns.map V.int
 | [],_,h=>h
 |n::ns,vs,h=>by
  obtain⟨v,r,e,Z,Y⟩:=h;have e1:v=.int n:=Z;rw[e,e1,aj.F2 Y];rfl
theorem aj.zS:∀{bs:List Bool} {vs:List V},aj K w (bs.map D.bl) vs->vs=bs.map V.bl
 | [],_,h=>h
 |n::X,vs,h=>by
  obtain⟨v,r,e,Z,Y⟩:=h;have e1:v=.bl n:=Z;rw[e,e1,aj.zS Y];rfl
def DX (a:à) (es:List (Int×à)) (h:ō):Prop:=(a==YC)=false/\∃(o:Obj) (Z:Array aac) (Y:Nat),h.get? a=some o/\o.ExactDict/\o.data=.dict Z Y/\Z.toList=es.map λp=>(⟨p.1,.ref p.2,.bool true⟩:aac)
def TQ (w:Wd) (q:Str) (cv:Ê):Prop:=∃Y X W t,cv=.ref Y/\(¬ w.Z Y/\w.H Y=some (.bE X (.own Y)))/\X.data=.fields W/\W[1]?=some (.str q t)
def Vi (K:Ļ) (w:Wd) (a:à) (x:Str):Prop:=∃c Z,PySem.W.tabIn K x=some (c,a)/\w.H a=some (.mW Z)/\PySem.TriplesOk Z.toList/\∀pos Y,PySem.codeAmong pos Z.toList=some Y->TQ w (x++".<locals>."++"<lambda>") Y
def qb (K:Ļ) (w:Wd) (a:à):Cell->Prop
 | .dead=>True
 | .lst U=>∃W,w.H a=some (.lst W)/\aj K w U W
 | .dK Z=>∃Y:List (Key×V),w.H a=some (.dK Y)/\Y.map (·.1)=Z.map (·.1)/\aj K w (Z.map (·.2)) (Y.map (·.2))
 | .dT Z=>∃as:List à,w.H a=some (.ext (DX a ((Z.map (·.2)).zip as)))/\aj K w (Z.map (·.1)) (as.map V.ref)/\(Z.map (·.1)).Nodup
 | .tb x=>Vi K w a x
 | .ins c fs=>∃(C T:à) (X:List (Str×V)),ă K ó c=some (some (.ref C))/\w.H a=some (.ins C T X)/\X.map (·.1)=fs.map (·.1)/\aj K w (fs.map (·.2)) (X.map (·.2))
structure aM (K:Ļ) (w:Wd):Prop where
 len:w.ρ.length=w.aG.length
 nd:w.ρ.Nodup
 there:∀(k:Nat) a,w.ρ[k]?=some a->w.H a≠none
 cell:∀(k:Nat) a c,w.ρ[k]?=some a->w.aG[k]?=some c->qb K w a c
theorem qb.le (h:qb K w a c) (le:Le K w w') (e:c≠.dead->w'.H a=w.H a):qb K w' a c:=by
 cases c with
 |dead=>trivial
 |lst I =>
  obtain⟨R,Z,Y⟩:=h;exact⟨R,(e (by intro z;cases z)).trans Z,le.all Y⟩
 |dK Q =>
  obtain⟨P,Z,Y,X⟩:=h;exact⟨P,(e (by intro z;cases z)).trans Z,Y,le.all X⟩
 |dT Q =>
  obtain⟨as,Z,Y,X⟩:=h;exact⟨as,(e (by intro z;cases z)).trans Z,le.all Y,X⟩
 |tb x =>
  obtain⟨c,O,Z,Y,X,W⟩:=h
  exact⟨c,O,Z,(e (by intro z;cases z)).trans Y,X,λpos N q=>let ⟨U,T,V,t,M,S,L⟩:=W pos N q;⟨U,T,V,t,M,le.bE U T _ S.1 S.2,L⟩⟩
 |ins c fs =>
  obtain⟨C,J,V,Z,Y,X,W⟩:=h;exact⟨C,J,V,Z,(e (by intro z;cases z)).trans Y,X,le.all W⟩
section
variable {K:Ļ} {w:Wd}
def Wd.grow (w:Wd) (p:à) (o:HO):Wd:={ w with H:=upd w.H p o }
def Rd.grow (hp:H p=none) (h:Rd H a u):Rd (upd H p o) a u:=by
 rcases h with h | ⟨Z,h⟩
 ·exact .inl (by rw[bj (dF h hp)];exact h)
 ·exact .inr ⟨Z,by rw[bj (dF h hp)];exact h⟩
theorem aX.grow (hp:H p=none) (h:aX K H a xs):aX K (upd H p o) a xs:=by
 rcases h with h|h
 ·exact .inl (Rd.grow hp h)
 ·exact .inr h
theorem Fw.grow (hp:w.H p=none):Fw K w (w.grow p o) where
 CY:=λ_ _ e=>e
 tup:=λa Y h=>aX.grow hp h
 lst:=λa Y Z h=>⟨Z,by show upd w.H p o a=_;rw[bj (dF h hp)];exact h⟩
 bE:=λa X Y Z h=>⟨Z,by show upd w.H p o a=_;rw[bj (dF h hp)];exact h⟩
 bw:=λa W Z h=>⟨Z,by show upd w.H p o a=_;rw[bj (dF h hp)];exact h⟩
theorem aM.grow (S:aM K w) (hp:w.H p=none):aM K (w.grow p o) where
 len:=S.len
 nd:=S.nd
 there:=λk a e=>by
  have h:=S.there k a e;show upd w.H p o a≠none;unfold upd;split
  ·intro z;cases z
  ·exact h
 cell:=λk a c e1 e2=>(S.cell k a c e1 e2).le (Fw.grow hp).le λ_=>by
  have h:=S.there k a e1;show upd w.H p o a=w.H a;rw[bj];intro z;rw[z] at h;exact h hp
def Wd.cell (w:Wd) (p:à) (o:HO) (c:Cell):Wd:=⟨w.ρ++[p],w.aG++[c],upd w.H p o⟩
def Wd.Av (S:aM K w) (h:(w.cell p o c).Z a):w.Z a\/a=p:=by
 obtain⟨k,Y,e1,e2,V⟩:=h;have e1:(w.ρ++[p])[k]?=some a:=e1;have e2:(w.aG++[c])[k]?=some Y:=e2;by_cases X:k<w.ρ.length
 ·rw[Õ X] at e1
  rw[Õ (by rw[<- S.len];exact X)] at e2;exact .inl ⟨k,Y,e1,e2,V⟩
 ·rw[æ (by omega)] at e1
  right
  cases W:k-w.ρ.length with
  |zero=>rw[W] at e1;exact(aam e1).symm
  |succ j=>rw[W] at e1;cases e1
theorem Fw.cell (S:aM K w) (hp:w.H p=none):Fw K w (w.cell p o c) where
 CY:=λk a e=>by
  show (w.ρ++[p])[k]?=some a;rw[Õ (Ç.mp e).1];exact e
 tup:=λa Y h=>aX.grow hp h
 lst:=λa Y Z h=>⟨λz=>(Wd.Av S z).elim Z (λe=>by (subst e;rw[hp] at h;cases h)),by show upd w.H p o a=_;rw[bj (dF h hp)];exact h⟩
 bE:=λa X Y Z h=>⟨λz=>(Wd.Av S z).elim Z (λe=>by (subst e;rw[hp] at h;cases h)),by show upd w.H p o a=_;rw[bj (dF h hp)];exact h⟩
 bw:=λa W Z h=>⟨λz=>(Wd.Av S z).elim Z (λe=>by (subst e;rw[hp] at h;cases h)),by show upd w.H p o a=_;rw[bj (dF h hp)];exact h⟩
def aM.IW (S:aM K w) (hp:w.H p=none) (hc:qb K (w.cell p o c) p c):aM K (w.cell p o c) where
 len:=by show (w.ρ++[p]).length=(w.aG++[c]).length;simp[S.len]
 nd:=by
  show (w.ρ++[p]).Nodup;rw[Ż];refine⟨S.nd,by simp,λa W b V=>?_⟩;obtain⟨k,e⟩:=List.getElem?_of_mem W;have h:=S.there k a e;have U:b=p:=by simpa using V
  rw[U];intro z;rw[z] at h;exact h hp
 there:=λk a e=>by
  have e:(w.ρ++[p])[k]?=some a:=e;show upd w.H p o a≠none;unfold upd;split
  ·intro z;cases z
  ·rename_i T
   by_cases Y:k<w.ρ.length
   ·rw[Õ Y] at e
    exact S.there k a e
   ·rw[æ (by omega)] at e
    cases Z:k-w.ρ.length with
    |zero=>rw[Z] at e;exact absurd (aam e).symm T
    |succ j=>rw[Z] at e;cases e
 cell:=λk a X e1 e2=>by
  have e1:(w.ρ++[p])[k]?=some a:=e1;have e2:(w.aG++[c])[k]?=some X:=e2;by_cases Y:k<w.ρ.length
  ·rw[Õ Y] at e1
   rw[Õ (by rw[<- S.len];exact Y)] at e2;refine(S.cell k a X e1 e2).le (Fw.cell S hp).le λ_=>?_;have h:=S.there k a e1;show upd w.H p o a=w.H a;rw[bj];intro z;rw[z] at h;exact h hp
  ·rw[æ (by omega)] at e1
   rw[æ (by rw[<- S.len];omega)] at e2;rw[<- S.len] at e2
   cases Z:k-w.ρ.length with
   |zero =>
    rw[Z] at e1 e2;have e1:p=a:=aam e1;have e2:c=X:=aam e2;subst e1 e2;exact hc
   |succ j=>rw[Z] at e1;cases e1
def Wd.same (w:Wd) (H':Hp):Wd:={ w with H:=H' }
theorem Fw.same (e:jP w.H H'):Fw K w (w.same H') :=
 ⟨λ_ _ e=>e,λa Y h=>e.VT h,λa Y Z h=>⟨Z,e _ _ h⟩,λa o Y Z h=>⟨Z,e _ _ h⟩,λa X Z h=>⟨Z,e _ _ h⟩⟩
theorem aM.same (S:aM K w) (e:jP w.H H'):aM K (w.same H') where
 len:=S.len
 nd:=S.nd
 there:=λk a q=>by
  have h:=S.there k a q;show H' a≠none
  cases Z:w.H a with
  |none=>exact absurd Z h
  |some o=>rw[e _ _ Z];intro z;cases z
 cell:=λk a c e1 e2=>(S.cell k a c e1 e2).le (Fw.same e).le λ_=>by
  have h:=S.there k a e1;show H' a=w.H a
  cases Z:w.H a with
  |none=>exact absurd Z h
  |some o=>exact e _ _ Z
def Wd.put (w:Wd) (k:Nat) (a:à) (o:HO) (c:Cell):Wd:=⟨w.ρ,w.aG.set k c,upd w.H a o⟩
def Ew {α:Type} {l:List α} (nd:l.Nodup) {i j:Nat} {a:α} (h1:l[i]?=some a) (h2:l[j]?=some a):i=j:=by
 exact(List.getElem?_inj (Ç.mp h1).1 nd).mp (h1.trans h2.symm)
def Wd.A2 (h0:w.ρ[k]?=some a) (h1:w.aG[k]?=some c0) (h2:c0≠.dead) (h:(w.put k a o c).Z b):w.Z b:=by
 obtain⟨j,Y,e1,e2,W⟩:=h;have e1:w.ρ[j]?=some b:=e1;have e2:(w.aG.set k c)[j]?=some Y:=e2;by_cases X:k=j
 ·subst X
  exact⟨k,c0,e1,h1,h2⟩
 ·rw[Ù X] at e2
  exact⟨j,Y,e1,e2,W⟩
theorem Fw.put (S:aM K w) (h0:w.ρ[k]?=some a) (h1:w.aG[k]?=some c0) (h2:c0≠.dead):Fw K w (w.put k a o c):=by
 have W:w.Z a:=⟨k,c0,h0,h1,h2⟩;have T:∀X,¬ Rd w.H a (.tup X):=λX h=>by
  have q:=S.cell k a c0 h0 h1
  cases c0 with
  |dead=>exact h2 rfl
  |lst Q=>obtain⟨V,e,_⟩:=q;rcases h with h | ⟨_,h⟩<;>(rw[e] at h;cases h)
  |dK R=>obtain⟨V,e,_⟩:=q;rcases h with h | ⟨_,h⟩<;>(rw[e] at h;cases h)
  |dT R=>obtain⟨V,e,_⟩:=q;rcases h with h | ⟨_,h⟩<;>(rw[e] at h;cases h)
  |tb x=>obtain⟨_,V,_,e,_⟩:=q;rcases h with h | ⟨_,h⟩<;>(rw[e] at h;cases h)
  |ins c fs=>obtain⟨_,_,_,_,e,_⟩:=q;rcases h with h | ⟨_,h⟩<;>(rw[e] at h;cases h)
 refine⟨λ_ _ e=>e,λb X h=>?_,λb X Y h=>⟨λz=>Y (Wd.A2 h0 h1 h2 z),?_⟩,λb U X Y h=>⟨λz=>Y (Wd.A2 h0 h1 h2 z),?_⟩,λb P Y h=>⟨λz=>Y (Wd.A2 h0 h1 h2 z),?_⟩⟩
 ·rcases h with h|h
  ·have ne:b≠a:=λe=>by subst e;exact T X h
   refine .inl ?_
   rcases h with h | ⟨U,h⟩
   ·exact .inl (by show upd w.H a o b=_;rw[bj ne];exact h)
   ·exact .inr ⟨U,by show upd w.H a o b=_;rw[bj ne];exact h⟩
  ·exact .inr h
 ·have ne:b≠a:=λe=>by subst e;exact Y W
  show upd w.H a o b=_;rw[bj ne];exact h
 ·have ne:b≠a:=λe=>by subst e;exact Y W
  show upd w.H a o b=_;rw[bj ne];exact h
 ·have ne:b≠a:=λe=>by subst e;exact Y W
  show upd w.H a o b=_;rw[bj ne];exact h
def aM.BO {k:Nat} {a:à} {o:HO} {c c0:Cell} (S:aM K w) (h0:w.ρ[k]?=some a) (h1:w.aG[k]?=some c0) (h2:c0≠.dead) (hc:qb K (w.put k a o c) a c):aM K (w.put k a o c) where
 len:=by show w.ρ.length=(w.aG.set k c).length;rw[ġ];exact S.len
 nd:=S.nd
 there:=λj b e=>by
  show upd w.H a o b≠none;unfold upd;split
  ·intro z;cases z
  ·exact S.there j b e
 cell:=λj b Z e1 e2=>by
  have e1:w.ρ[j]?=some b:=e1;have e2:(w.aG.set k c)[j]?=some Z:=e2;by_cases Y:k=j
  ·subst Y
   rw[h0] at e1;have e1:a=b:=aam e1;rw[ì (Ç.mp h1).1] at e2;have e2:c=Z:=aam e2;subst e1 e2;exact hc
  ·rw[Ù Y] at e2
   refine(S.cell j b Z e1 e2).le (Fw.put S h0 h1 h2).le λ_=>?_;show upd w.H a o b=w.H b;rw[bj];intro z;subst z;exact Y (Ew S.nd h0 e1)
noncomputable def Wd.freeze (w:Wd) (k:Nat):Wd:={ w with aG:=w.aG.set k .dead }
def Wd.zh (h:(w.freeze k).Z b):w.Z b:=by
 obtain⟨j,Y,e1,e2,X⟩:=h;have e2:(w.aG.set k .dead)[j]?=some Y:=e2;by_cases W:k=j
 ·subst W
  have V:=(Ç.mp e2).1;rw[ġ] at V;rw[ì V] at e2;exact absurd (aam e2).symm X
 ·rw[Ù W] at e2
  exact⟨j,Y,e1,e2,X⟩
theorem Fw.freeze:Fw K w (w.freeze k) :=
 ⟨λ_ _ e=>e,λ_ _ h=>h,λ_ _ Z h=>⟨λz=>Z (Wd.zh z),h⟩,λ_ _ _ Z h=>⟨λz=>Z (Wd.zh z),h⟩,λ_ _ Z h=>⟨λz=>Z (Wd.zh z),h⟩⟩
theorem aM.freeze (S:aM K w):aM K (w.freeze k) where
 len:=by show w.ρ.length=(w.aG.set k .dead).length;rw[ġ];exact S.len
 nd:=S.nd
 there:=S.there
 cell:=λj b Z e1 e2=>by
  have e2:(w.aG.set k .dead)[j]?=some Z:=e2;by_cases Y:k=j
  ·subst Y
   have X:=(Ç.mp e2).1;rw[ġ] at X;rw[ì X] at e2;rw[<- aam e2];trivial
  ·rw[Ù Y] at e2
   exact(S.cell j b Z e1 e2).le Fw.freeze.le λ_=>rfl
def Wd.Nq {k:Nat} {a:à} (S:aM K w) (h:w.ρ[k]?=some a):¬ (w.freeze k).Z a:=by
 rintro ⟨j,X,e1,e2,W⟩;have e1:w.ρ[j]?=some a:=e1;have e2:(w.aG.set k .dead)[j]?=some X:=e2;have V:=Ew S.nd h e1;subst V;have Y:=(Ç.mp e2).1;rw[ġ] at Y;rw[ì Y] at e2;exact W (aam e2).symm
end
structure bK (K:Ļ) (w:Wd) (env:Env) (σ:St):Prop where
 len:env.length=σ.length
 val:∀(i:Nat) d,env[i]?=some (some d)->∃v,σ[i]?=some (some v)/\DV K w d v
theorem bK.le (h:bK K w env σ) (le:Le K w w'):bK K w' env σ :=
 ⟨h.len,λi d e=>by obtain⟨v,e1,e2⟩:=h.val i d e;exact⟨v,e1,le d v e2⟩⟩
theorem bK.set (h:bK K w env σ) (hd:DV K w d v) (i:Nat):bK K w (env.set i (some d)) (σ.set i (some v)):=by
 refine⟨by rw[ġ,ġ];exact h.len,λj X e=>?_⟩;by_cases Z:i=j
 ·subst Z
  have Y:=(Ç.mp e).1;rw[ġ] at Y;rw[ì Y] at e;have e:d=X:=aam (aam e);subst e;exact⟨v,by rw[ì (by rw[<- h.len];exact Y)],hd⟩
 ·rw[Ù Z] at e
  rw[Ù Z];exact h.val j X e
def Out (K:Ļ) (Ξ:Wd->bg->Prop) (w:Wd) {α:Type} (r:Res α) (k:Wd->α->Prop):Prop:=match r with
 |none=>False
 |some (.ok a,s)=>∀Z,Le K w Z->aM K Z->Z.aG=s->k Z a
 |some (.error x,s)=>∀Z,Le K w Z->aM K Z->Z.aG=s->Ξ Z x
section
variable {K:Ļ} {Ξ:Wd->bg->Prop} {w w':Wd} {α β:Type} {r:Res α} {k k':Wd->α->Prop}
def Out.from (h:Out K Ξ w r k) (le:Le K w w'):Out K Ξ w' r k:=by
 unfold Out at h |-
 split<;>simp only at h
 ·exact λZ Y X e2=>h Z (le.trans Y) X e2
 ·exact λZ Y X e2=>h Z (le.trans Y) X e2
def Out.mono (h:Out K Ξ w r k) (hk:∀w2 a,Le K w w2->aM K w2->k w2 a->k' w2 a):Out K Ξ w r k':=by
 unfold Out at h |-
 split<;>simp only at h
 ·exact λw2 Z Y e2=>hk w2 _ Z Y (h w2 Z Y e2)
 ·exact h
theorem Out.aq {q:Wd->β->Prop} (h:Out K Ξ w (DI.aq r g) q):Out K Ξ w r (λw2 a=>Out K Ξ w2 (g a w2.aG) q):=by
 match r,h with
 |some (.ok a,s),h =>
  intro w2 Z Y e2;rw[e2];exact Out.from h Z
 |some (.error x,s),h=>exact h
def Out.done (h:Out K Ξ w (some (.ok a,w.aG)) k) (S:aM K w):k w a:=h w (Le.refl w) S rfl
end
end DI
namespace DI
open PySem L2
def tE (K:Ļ) (Ξ:Wd->bg->Prop) (f:aah D):TE:=fun σ H Q=>∃w env,w.H=H/\aM K w/\bK K w env σ/\Out K Ξ w (f env w.aG) λZ d=>∀v,DV K Z d v->Q v Z.H
def tT (K:Ļ) (Ξ:Wd->bg->Prop) (f:aah Bool):TT:=fun σ H Q=>∃w env,w.H=H/\aM K w/\bK K w env σ/\Out K Ξ w (f env w.aG) λZ b=>Q b Z.H
def tA (K:Ļ) (Ξ:Wd->bg->Prop) (f:aah (List D)):TA:=fun σ H Q=>∃w env,w.H=H/\aM K w/\bK K w env σ/\Out K Ξ w (f env w.aG) λZ X=>∀Y,aj K Z X Y->Q Y Z.H
def rO (K:Ļ) (Ξ:Wd->bg->Prop) (o:D->D->af->Res D):R2:=λx y H Q=>∃w Z Y,w.H=H/\aM K w/\DV K w Z x/\DV K w Y y/\Out K Ξ w (o Z Y w.aG) λX d=>∀v,DV K X d v->Q v X.H
def rU (K:Ļ) (Ξ:Wd->bg->Prop) (o:D->af->Res D):V->Hp->VK->Prop:=λx H Q=>∃w Z,w.H=H/\aM K w/\DV K w Z x/\Out K Ξ w (o Z w.aG) λY d=>∀v,DV K Y d v->Q v Y.H
def rC (K:Ļ) (Ξ:Wd->bg->Prop) (o:List D->af->Res D):List V->Hp->VK->Prop:=λX H Q=>∃w Z,w.H=H/\aM K w/\aj K w Z X/\Out K Ξ w (o Z w.aG) λY d=>∀v,DV K Y d v->Q v Y.H
def aa (i:Nat):aah D:=λenv s=>match env[i]? with
 |some (some d)=>ok d s
 |_=>none
def eC (d:D):aah D:=λ_ s=>ok d s
def e1 (o:D->af->Res D) (f:aah D):aah D:=λenv s=>aq (f env s) λx s=>o x s
def e2 (o:D->D->af->Res D) (f g:aah D):aah D:=λenv s=>aq (f env s) λx s=>aq (g env s) λy s=>o x y s
def ah:aah (List D):=λ_ s=>ok [] s
def ae (f:aah D) (g:aah (List D)):aah (List D):=λenv s=>aq (f env s) λx s=>aq (g env s) λZ s=>ok (x::Z) s
def eB (o:List D->af->Res D) (f:aah (List D)):aah D:=λenv s=>aq (f env s) λZ s=>o Z s
def iF {α:Type} (ds:List D) (r:Res α):Res α:=if ds.length<=Û then r else none
def bL (f:aah (List D)):aah D:=λenv s=>aq (f env s) λZ s=>iF Z (ok (.tup Z) s)
def kM (f:aah (List D)):aah D:=λenv s=>aq (f env s) λZ s=>iF Z (ok (.lst Z) s)
def eNew (f:aah (List D)):aah D:=λenv s=>aq (f env s) λZ s=>iF Z (ok (.ao s.length) (s++[.lst Z]))
def bE:D->af->Res D:=λd s=>match d with
 | .ao k=>match s[k]? with
  |some (.lst Z)=>ok (.lst Z) (s.set k .dead)
  |_=>none
 |_=>none
def lQ (f:aah D):aah D:=λenv s=>aq (f env s) bE
def fJ (d:D) (s:af):Res Bool:=match d with
 | .bl b=>ok b s
 |_=>none
def aV (f:aah D):aah Bool:=λenv s=>aq (f env s) fJ
def truth (d:D) (s:af):Res Bool:=match d with
 | .au=>ok false s
 | .bl b=>ok b s
 | .int i=>ok (i != 0) s
 | .str x=>if x.length<=Û then ok ((x.length:Int) != 0) s else none
 | .tup Z=>ok (!Z.isEmpty) s
 | .lst Z=>ok (!Z.isEmpty) s
 | .bw Y=>ok (!Y.isEmpty) s
 | .ao k=>match s[k]? with
  |some (.lst Z)=>ok (!Z.isEmpty) s
  |some (.dK Y)=>ok (!Y.isEmpty) s
  |_=>none
 | .ty _=>none
 | .aZ _=>none
 | .exc _ _=>none
 | .cC _ _ _=>none
def cI (f:aah D):aah Bool:=λenv s=>aq (f env s) truth
def gP (f g:aah Bool):aah Bool:=λenv s=>aq (f env s) λb s=>if b=true then g env s else ok false s
def iU (f g:aah Bool):aah Bool:=λenv s=>aq (f env s) λb s=>if b=true then ok true s else g env s
def fI (f:aah Bool):aah Bool:=λenv s=>aq (f env s) λb s=>ok (!b) s
def eT (f g:aah D):aah D:=λenv s=>aq (f env s) λx s=>aq (fJ x s) λb s=>if b=true then g env s else ok (.bl false) s
def oV (f g:aah D):aah D:=λenv s=>aq (f env s) λx s=>aq (fJ x s) λb s=>if b=true then ok (.bl true) s else g env s
def tQ (f:aah D):aah D:=λenv s=>aq (f env s) λx s=>aq (fJ x s) λb s=>ok (.bl (!b)) s
def KG (c:aah Bool) (f g:aah D):aah D:=λenv s=>aq (c env s) λb s=>if b=true then f env s else g env s
def uV (o o':D->D->af->Res D) (f g h:aah D):aah D:=λenv s=>aq (f env s) λx s=>aq (g env s) λy s=>aq (o x y s) λz s=>aq (fJ z s) λb s =>
 if b=true then aq (h env s) λu s=>o' y u s else ok (.bl false) s
section
variable {X:Cx} {Ξ:Wd->bg->Prop} {e a b c:ņ} {es rest:List ņ} {pos:Pos} {f g h:aah D} {fa:aah (List D)} {ft gt:aah Bool}
def cF {t t':TE} (h:PE X e t) (i:∀ σ H Q,t' σ H Q->t σ H Q):PE X e t':=λZ s σ H Q I Y=>h Z s σ H Q I (i σ H Q Y)
def Aw {t t':TT} (h:PT X e t) (i:∀ σ H Q,t' σ H Q->t σ H Q):PT X e t':=λZ s σ H Q I Y=>h Z s σ H Q I (i σ H Q Y)
def HP {t t':TT} (h:PW X e t) (i:∀ σ H Q,t' σ H Q->t σ H Q):PW X e t':=λZ Y s σ H Q I W=>h Z Y s σ H Q I (i σ H Q W)
def HQ {t t':TA} (h:PA X es t) (i:∀ σ H Q,t' σ H Q->t σ H Q):PA X es t':=λp Z s σ H Q I Y=>h p Z s σ H Q I (i σ H Q Y)
def jD (h:PS X st t) (i:∀D σ H,t' D σ H->t D σ H):PS X st t':=λZ s σ H D I Y=>h Z s σ H D I (i D σ H Y)
def GW (h:de X st t) (i:∀D σ H,t' D σ H->t D σ H):de X st t':=λZ s σ H D I Y=>h Z s σ H D I (i D σ H Y)
def aD {α:Type} {K:Ļ} {w:Wd} {a:α} {k:Wd->α->Prop} (S:aM K w) (h:Out K Ξ w (ok a w.aG) k):k w a:=h w (Le.refl w) S rfl
def ag (i:Nat) {x:Str} (hN:X.N[i]?=some x:=by rfl) (hv:uw X.env.scope x:=by first|exact Zb rfl|exact Or.inr (Zb rfl)|exact Or.inr (Or.inr rfl)) (hd:(x==("__debug__":Str))=false:=by decide)
  (jU:(x==("__classdict__":Str))=false:=by decide):PE X (.Name x pos) (tE X.K Ξ (aa i)):=cF (Rg hN hv hd jU) fun σ H Q Z=>by
 obtain⟨w,env,Y,S,W,h⟩:=Z;unfold aa at h;split at h
 ·rename_i d V
  obtain⟨v,e1,e2⟩:=W.val i d V;subst Y;exact⟨v,e1,aD S h v e2⟩
 ·exact h.elim
def sX {d:D} {v:V} (h:PE X e (tC v)) (hd:∀w,DV X.K w d v):PE X e (tE X.K Ξ (eC d)):=cF h fun σ H Q Z=>by
 obtain⟨w,env,Y,S,W,h⟩:=Z;subst Y;exact aD S h v (hd w)
def aA {i j}:PE X (.Constant (.int i) j pos) (tE X.K Ξ (eC (.int i))):=sX Rh λ_=>rfl
def gQ {b j}:PE X (.Constant (.bool b) j pos) (tE X.K Ξ (eC (.bl b))):=sX SW λ_=>rfl
def kE {x j}:PE X (.Constant (.str x) j pos) (tE X.K Ξ (eC (.str x))):=sX Ri λ_=>rfl
def wb (σ:St) (H:Hp) (Q:VK):tE K Ξ (e2 o f g) σ H Q->uH (rO K Ξ o) (tE K Ξ f) (tE K Ξ g) σ H Q:=by
 rintro ⟨w,env,rfl,S,Z,h⟩;exact⟨w,env,rfl,S,Z,(Out.aq h).mono λY x X W V v1 U=>⟨Y,env,rfl,W,Z.le X,(Out.aq V).mono λT y R P O v2 N=>⟨T,x,y,rfl,P,R _ _ U,N,O⟩⟩⟩
def bW (ho:bh X (Ō op) (rO X.K Ξ o)) (ha:PE X a (tE X.K Ξ f)) (hb:PE X b (tE X.K Ξ g)):PE X (.BinOp a op b pos) (tE X.K Ξ (e2 o f g)):=cF (Tc ho ha hb) wb
def ik (ho:bh X (ĭ op) (rO X.K Ξ o)) (ha:PE X a (tE X.K Ξ f)) (hb:PE X b (tE X.K Ξ g)) (hm:Zg op b=false):PE X (.Compare a [op] [b] pos) (tE X.K Ξ (e2 o f g)):=cF (PK ho ha hb hm) wb
def RV {K:Ļ} (σ:St) (H:Hp) (Q:Bool->Hp->Prop):tT K Ξ (aV f) σ H Q->xb (tE K Ξ f) σ H Q:=by
 rintro ⟨w,env,rfl,S,Y,h⟩;refine⟨w,env,rfl,S,Y,(Out.aq h).mono λV x U X Z v1 W=>?_⟩
 cases x with
 |bl b =>
  have e:v1=.bl b:=W;exact⟨b,e,aD X Z⟩
 |_=>exact Z.elim
def MK (i:∀ σ H Q,t' σ H Q->t σ H Q) (σ:St) (H:Hp) (Q:Bool->Hp->Prop):xb t' σ H Q->xb t σ H Q:=λh=>i _ _ _ h
def bR (ho:bh X (ĭ op) (rO X.K Ξ o)) (ha:PE X a (tE X.K Ξ f)) (hb:PE X b (tE X.K Ξ g)) (hm:Zg op b=false):PT X (.Compare a [op] [b] pos) (tT X.K Ξ (aV (e2 o f g))) :=
 Aw (PL ho ha hb hm) fun σ H Q h=>MK wb σ H Q (RV σ H Q h)
def RW {K:Ļ} {o o':D->D->af->Res D} (σ:St) (H:Hp) (Q:VK):tE K Ξ (uV o o' f g h) σ H Q->HF (rO K Ξ o) (rO K Ξ o') (tE K Ξ f) (tE K Ξ g) (tE K Ξ h) σ H Q:=by
 rintro ⟨w,env,rfl,S,Y,h⟩;refine⟨w,env,rfl,S,Y,(Out.aq h).mono λP x W O N v1 M=>⟨P,env,rfl,O,Y.le W,(Out.aq N).mono λL y V J I v2 U=>⟨L,x,y,rfl,J,V _ _ M,U,(Out.aq I).mono λG z T X F E C=>?_⟩⟩⟩;have R:=Out.aq F
 cases z with
 |bl b =>
  have e:E=.bl b:=C;have Z:=aD X R;refine⟨b,e,?_⟩
  cases b with
  |true =>
   rw[é rfl] at Z |-;exact⟨G,env,rfl,X,Y.le (W.trans (V.trans T)),(Out.aq Z).mono λB u A v t v4 s=>⟨B,y,u,rfl,v,(T.trans A) _ _ U,s,t⟩⟩
  |false =>
   rw[ð Ö] at Z |-;exact aD X Z _ rfl
 |_=>exact R.elim
def Qk (ho:bh X (ĭ op) (rO X.K Ξ o)) (dQ:bh X (ĭ qS) (rO X.K Ξ o')) (ha:PE X a (tE X.K Ξ f)) (hb:PE X b (tE X.K Ξ g)) (hc:PE X c (tE X.K Ξ h))
 (hm:lastMarks [op,qS] [b,c]=false:=by with_unfolding_all rfl):PE X (.Compare a [op,qS] [b,c] pos) (tE X.K Ξ (uV o o' f g h)):=cF (Oc ho dQ ha hb hc hm) RW
def JW (ho:uG X (unaryOp op) (rU X.K Ξ o)) (ha:PE X a (tE X.K Ξ f)):PE X (.UnaryOp op a pos) (tE X.K Ξ (e1 o f)):=cF (Td ho ha) fun σ H Q Z=>by
 obtain⟨w,env,Y,S,W,h⟩:=Z;subst Y;exact⟨w,env,rfl,S,W,(Out.aq h).mono λV x P U T v1 R=>⟨V,x,rfl,U,R,T⟩⟩
def dA:PA X [] (tA X.K Ξ ah):=HQ mE fun σ H Q Z=>by
 obtain⟨w,env,Y,S,W,h⟩:=Z;subst Y;exact aD S h _ rfl
def aS (ha:PE X e (tE X.K Ξ f)) (hr:PA X es (tA X.K Ξ fa)) (hs:Ý (e::es) X.env=(false,Ž e X.env)::Ý es X.env:=by rfl):PA X (e::es) (tA X.K Ξ (ae f fa)):=HQ (mx ha hr hs) fun σ H Q Y=>by
 obtain⟨w,env,W,S,Z,h⟩:=Y;subst W;exact⟨w,env,rfl,S,Z,(Out.aq h).mono λV x U T R v1 P=>⟨V,env,rfl,T,Z.le U,(Out.aq R).mono λI G O N M L J=>aD N M _ ⟨v1,L,rfl,O _ _ P,J⟩⟩⟩
def rL {α:Type} {K:Ļ} {w:Wd} {ds:List D} {r:Res α} {k:Wd->α->Prop} (h:Out K Ξ w (iF ds r) k):ds.length<=Û/\Out K Ξ w r k:=by
 unfold iF at h;split at h
 ·exact⟨by assumption,h⟩
 ·exact h.elim
def dM {x1} (ha:PA X es (tA X.K Ξ fa)):PE X (.Tuple es x1 pos) (tE X.K Ξ (bL fa)):=cF (RC ha) fun σ H Q V=>by
 obtain⟨w,env,U,S,T,h⟩:=V;subst U;refine⟨w,env,rfl,S,T,(Out.aq h).mono λR L J P O Y W=>?_⟩;obtain⟨N,M⟩:=rL O;refine⟨by rw[<- W.length];exact N,λp Z=>?_⟩;exact M (R.grow p (.tup Y)) (Fw.grow Z).le (P.grow Z) rfl (.ref p) ⟨p,Y,rfl,aX.of cU,(Fw.grow Z).le.all W⟩
def mF {K:Ļ} {w:Wd} {p:à} (S:aM K w) (hp:w.H p=none):¬ w.Z p:=λ⟨k,c,e1,_,_⟩=>S.there k p e1 hp
def sY (ha:PA X es (tA X.K Ξ fa)):PE X (.List es pos) (tE X.K Ξ (kM fa)):=cF (HH ha) fun σ H Q R=>by
 obtain⟨w,env,P,S,O,h⟩:=R;subst P;refine⟨w,env,rfl,S,O,(Out.aq h).mono λW J I V N U T=>?_⟩;obtain⟨M,L⟩:=rL N;refine⟨by rw[<- T.length];exact M,λp Y=>?_⟩;exact L (W.grow p (.lst U)) (Fw.grow Y).le (V.grow Y) rfl (.ref p) ⟨p,U,rfl,⟨(show ¬ W.Z p from mF V Y),cU⟩,(Fw.grow Y).le.all T⟩
def oh (ha:PA X es (tA X.K Ξ fa)):PE X (.List es pos) (tE X.K Ξ (eNew fa)):=cF (HH ha) fun σ H Q R=>by
 obtain⟨w,env,P,S,O,h⟩:=R;subst P;refine⟨w,env,rfl,S,O,(Out.aq h).mono λZ V J Y N W U=>?_⟩;obtain⟨M,L⟩:=rL N;refine⟨by rw[<- U.length];exact M,λp T=>?_⟩;have le:=(Fw.cell (o:=.lst W) (c:=.lst V) Y T).le;refine L (Z.cell p (.lst W) (.lst V)) le (Y.IW T ⟨W,cU,le.all U⟩) rfl (.ref p) ⟨p,?_,rfl⟩;show (Z.ρ++[p])[Z.aG.length]?=some p;rw[<- Y.len];simp
def xf (ha:PE X a (tE X.K Ξ f)):PE X a (tE X.K Ξ (lQ f)):=cF ha fun σ H Q W=>by
 obtain⟨w,env,V,S,U,h⟩:=W;subst V;refine⟨w,env,rfl,S,U,(Out.aq h).mono λT x L Y Z v1 R=>?_⟩;unfold bE at Z;split at Z
 ·rename_i k
  split at Z
  ·rename_i J P
   obtain⟨p,e1,e2⟩:=R;obtain⟨O,N,M⟩:=Y.cell k p _ e1 P;exact Z (T.freeze k) Fw.freeze.le Y.freeze rfl v1 ⟨p,O,e2,⟨Wd.Nq Y e1,N⟩,Fw.freeze.le.all M⟩
  ·exact Z.elim
 ·exact Z.elim
theorem oy.of {K:Ļ} {w:Wd} {d:D} {v:V} {k:Wd->Bool->Prop} (S:aM K w) (hd:DV K w d v) (h:Out K Ξ w (truth d w.aG) k):∃b,oy K v w.H b/\k w b:=by
 cases d with
 |au=>have e:v=.au:=hd;subst e;exact⟨_,rfl,aD S h⟩
 |bl b=>have e:v=.bl b:=hd;subst e;exact⟨_,rfl,aD S h⟩
 |int i=>have e:v=.int i:=hd;subst e;exact⟨_,rfl,aD S h⟩
 |str x =>
  have e:v=.str x:=hd;subst e;unfold truth at h
  split at h<;>first|contradiction|skip
  all_goals (rename_i e;cases e)
  split at h
  ·exact⟨_,⟨by assumption,rfl⟩,aD S h⟩
  ·exact h.elim
 |tup Y =>
  simp only[DV] at hd;obtain⟨a,Z,rfl,X,r⟩:=hd;refine⟨_,.inr (.inl ⟨Z,X,?_⟩),aD S h⟩;have e:=r.length
  cases Y<;>cases Z<;>first|rfl|cases e
 |lst Y =>
  simp only[DV] at hd;obtain⟨a,Z,rfl,X,r⟩:=hd;refine⟨_,.inl ⟨Z,X.sq,?_⟩,aD S h⟩;have e:=r.length
  cases Y<;>cases Z<;>first|rfl|cases e
 |bw W =>
  simp only[DV] at hd;obtain⟨a,rfl,_,X⟩:=hd;refine⟨_,.inr (.inr ⟨_,X,?_⟩),aD S h⟩
  cases W<;>rfl
 |ao j =>
  simp only[DV] at hd;obtain⟨a,e1,rfl⟩:=hd;simp only[truth] at h;split at h
  ·rename_i Y U
   obtain⟨Z,T,R⟩:=S.cell j a _ e1 U;refine⟨_,.inl ⟨Z,bo.of T,?_⟩,aD S h⟩;have e:=R.length
   cases Y<;>cases Z<;>first|rfl|cases e
  ·rename_i W U
   obtain⟨es,T,R,Q⟩:=S.cell j a _ e1 U;refine⟨_,.inr (.inr ⟨es,T,?_⟩),aD S h⟩;have e:=ļ List.length R
   cases W<;>cases es<;>first|rfl|simp at e
  ·exact h.elim
 |ty n=>exact h.elim
 |aZ P=>exact h.elim
 |exc o _=>exact h.elim
 |cC o _ _=>exact h.elim
def dN (ha:PE X a (tE X.K Ξ f)) (he:∀whole,isTrue a X.env whole=(do let v <- whole;ZZ a.pos;Zc [v] (truthy v)):=by intro _;rfl):PT X a (tT X.K Ξ (cI f)):=Aw (Od ha he) fun σ H Q Z=>by
 obtain⟨w,env,Y,S,W,h⟩:=Z;subst Y;exact⟨w,env,rfl,S,W,(Out.aq h).mono λR x P V U v1 T=>oy.of V T U⟩
def iG (ha:PT X a (tT X.K Ξ ft)):PT X (.UnaryOp .Not a pos) (tT X.K Ξ (fI ft)):=Aw (Rl ha) fun σ H Q Z=>by
 obtain⟨w,env,Y,S,W,h⟩:=Z;subst Y;exact⟨w,env,rfl,S,W,(Out.aq h).mono λT b R V U=>aD V U⟩
def nX (ha:PT X a (tT X.K Ξ ft)):PW X (.BoolOp .And [a] pos) (tT X.K Ξ ft):=Pz ha
def oj (ha:PT X a (tT X.K Ξ ft)):PW X (.BoolOp .Or [a] pos) (tT X.K Ξ ft):=Rj ha
def w_and (ha:PT X a (tT X.K Ξ ft)) (hb:PW X (.BoolOp .And (b::rest) pos) (tT X.K Ξ gt)):PW X (.BoolOp .And (a::b::rest) pos) (tT X.K Ξ (gP ft gt)):=HP (Rk ha hb) fun σ H Q V=>by
 obtain⟨w,env,U,S,Z,h⟩:=V;subst U;refine⟨w,env,rfl,S,Z,(Out.aq h).mono λT b R Y W=>?_⟩
 cases b with
 |true=>exact⟨T,env,rfl,Y,Z.le R,W⟩
 |false=>exact aD Y W
def w_or (ha:PT X a (tT X.K Ξ ft)) (hb:PW X (.BoolOp .Or (b::rest) pos) (tT X.K Ξ gt)):PW X (.BoolOp .Or (a::b::rest) pos) (tT X.K Ξ (iU ft gt)):=HP (SX ha hb) fun σ H Q V=>by
 obtain⟨w,env,U,S,Z,h⟩:=V;subst U;refine⟨w,env,rfl,S,Z,(Out.aq h).mono λT b R Y W=>?_⟩
 cases b with
 |false=>exact⟨T,env,rfl,Y,Z.le R,W⟩
 |true=>exact aD Y W
def il {op} (ha:PE X a (tE X.K Ξ f)):PE X (.BoolOp op [a] pos) (tE X.K Ξ f):=Rm ha
def zT {K:Ļ} {w:Wd} {d:D} {v:V} {k:Wd->Bool->Prop} (S:aM K w) (hd:DV K w d v) (h:Out K Ξ w (fJ d w.aG) k):∃b,v=.bl b/\k w b:=by
 cases d with
 |bl b=>exact⟨b,hd,aD S h⟩
 |_=>exact h.elim
def gu (ha:PE X a (tE X.K Ξ f)) (hb:PE X (.BoolOp .And (b::rest) pos) (tE X.K Ξ g)):PE X (.BoolOp .And (a::b::rest) pos) (tE X.K Ξ (eT f g)):=cF (Rn ha hb) fun σ H Q V=>by
 obtain⟨w,env,U,S,Y,h⟩:=V;subst U;refine⟨w,env,rfl,S,Y,(Out.aq h).mono λT x R Z P v1 O=>?_⟩;obtain⟨b,e,W⟩:=zT Z O (Out.aq P);refine⟨b,e,?_⟩
 cases b with
 |true=>exact⟨T,env,rfl,Z,Y.le R,W⟩
 |false=>exact aD Z W _ rfl
def BP (ha:PE X a (tE X.K Ξ f)) (hb:PE X (.BoolOp .Or (b::rest) pos) (tE X.K Ξ g)):PE X (.BoolOp .Or (a::b::rest) pos) (tE X.K Ξ (oV f g)):=cF (S6 ha hb) fun σ H Q V=>by
 obtain⟨w,env,U,S,Y,h⟩:=V;subst U;refine⟨w,env,rfl,S,Y,(Out.aq h).mono λT x R Z P v1 O=>?_⟩;obtain⟨b,e,W⟩:=zT Z O (Out.aq P);refine⟨b,e,?_⟩
 cases b with
 |false=>exact⟨T,env,rfl,Z,Y.le R,W⟩
 |true=>exact aD Z W _ rfl
def IY (ha:PE X a (tE X.K Ξ f)):PE X (.UnaryOp .Not a pos) (tE X.K Ξ (tQ f)):=cF (Ro ha) fun σ H Q Y=>by
 obtain⟨w,env,W,S,V,h⟩:=Y;subst W;refine⟨w,env,rfl,S,V,(Out.aq h).mono λP x O Z U v1 T=>?_⟩;obtain⟨b,e,R⟩:=zT Z T (Out.aq U);exact⟨b,e,aD Z R _ rfl⟩
def HR (σ:St) (H:Hp) (Q:VK):tE K Ξ (eB o fa) σ H Q->Cs (rC K Ξ o) (tA K Ξ fa) σ H Q:=by
 rintro ⟨w,env,rfl,S,Z,h⟩;exact⟨w,env,rfl,S,Z,(Out.aq h).mono λY X T W V R U=>⟨Y,X,rfl,W,U,V⟩⟩
def dY {x:Str} {p:Pos} {id:String} {o:List D->af->Res D} (hc:bP X (.builtin id) (rC X.K Ξ o)) (hg:Gl X x) (hm:X.mg x=none) (hv:ā x=some (.builtin id)) (ha:PA X (e::es) (tA X.K Ξ fa)) (hn:x≠"__name__":=by decide) (iV:(x==("__debug__":Str))=false:=by decide)
  (he:Ý (e::es) X.env=(false,Ž e X.env)::Ý es X.env:=by rfl) (bO:(Yt pos (Ý es X.env)).any (·.1)=false:=by rfl):PE X (.Call (.Name x p) (e::es) [] pos) (tE X.K Ξ (eB o fa)):=cF (zf hc hg hm hv ha hn iV he bO) HR
def ja {x:Str} {p:Pos} {T:String} {o:List D->af->Res D} (hc:bP X (.type T) (rC X.K Ξ o)) (hg:Gl X x) (hm:X.mg x=none) (hv:ā x=some (.type T)) (ha:PA X (e::es) (tA X.K Ξ fa)) (hn:x≠"__name__":=by decide) (iV:(x==("__debug__":Str))=false:=by decide)
  (he:Ý (e::es) X.env=(false,Ž e X.env)::Ý es X.env:=by rfl) (bO:(Yt pos (Ý es X.env)).any (·.1)=false:=by rfl):PE X (.Call (.Name x p) (e::es) [] pos) (tE X.K Ξ (eB o fa)):=cF (pQ hc hg hm hv ha hn iV he bO) HR
end
set_option genInjectivity true in
inductive Fl where
 |nx (env:Env)|rt (d:D)|bk (env:Env)|ct (env:Env)
def BQ (K:Ļ) (D:Ends) (w:Wd):Fl->Prop
 | .nx env=>∀ σ,bK K w env σ->D.nx σ w.H
 | .rt d=>∀v,DV K w d v->D.rt v w.H
 | .bk env=>∀ σ,bK K w env σ->D.bk σ w.H
 | .ct env=>∀ σ,bK K w env σ->D.ct σ w.H
def tS (K:Ļ) (Ξ:Wd->bg->Prop) (f:aah Fl):TS:=λD σ H=>∃w env,w.H=H/\aM K w/\bK K w env σ/\Out K Ξ w (f env w.aG) (BQ K D)
def cf:aah Fl:=λenv s=>ok (.nx env) s
def ax (f g:aah Fl):aah Fl:=λenv s=>aq (f env s) λfl s=>match fl with
 | .nx env=>g env s
 |fl=>ok fl s
def aP (f:aah D):aah Fl:=λenv s=>aq (f env s) λd s=>ok (.rt d) s
def cM (f:aah D):aah Fl:=λenv s=>aq (f env s) λ_ s=>ok (.nx env) s
def bS (c:aah Bool) (f g:aah Fl):aah Fl:=λenv s=>aq (c env s) λb s=>if b=true then f env s else g env s
def IZ:aah Fl:=λenv s=>ok (.ct env) s
def aR (f:aah D) (g:D->Env->Option Env):aah Fl:=λenv s=>aq (f env s) λd s=>match g d env with
 |some Z=>ok (.nx Z) s
 |none=>none
def gN (i:Nat):D->Env->Option Env:=λd env=>some (env.set i (some d))
def gA:List (D->Env->Option Env)->List D->Env->Option Env
 | [],[],env=>some env
 |g::Z,d::Y,env=>match g d env with
  |some X=>gA Z Y X
  |none=>none
 |_,_,_=>none
def gT (gs:List (D->Env->Option Env)):D->Env->Option Env:=λd env=>match d with
 | .tup Z=>gA gs Z env
 |_=>none
def kF (g:D->Env->Option Env) (b:aah Fl):List D->aah Fl
 | [],env,s=>ok (.nx env) s
 |d::Z,env,s=>match g d env with
  |none=>none
  |some Y=>aq (b Y s) λX s=>match X with
   | .nx e=>kF g b Z e s
   | .ct e=>kF g b Z e s
   | .bk e=>ok (.nx e) s
   | .rt d=>ok (.rt d) s
def eU (it:aah (List D)) (g:D->Env->Option Env) (b:aah Fl):aah Fl:=λenv s=>aq (it env s) λZ s=>kF g b Z env s
def ne {α:Type} (r:Res α):Res α:=match r with
 |some (.ok a,s)=>some (.ok a,s)
 |_=>none
@[simp] theorem lJ {α:Type} {a:α} {s:af}:ne (some (.ok a,s))=some (.ok a,s):=rfl
def gv (cap:List Nat) (env:Env):Env:=cap.map λj=>(env[j]?).getD none
def fR (nt:Nat) (caps:Env) (g:D->Env->Option Env) (t:aah Bool) (f:aah D):List D->af->Res (List D)
 | [],s=>ok [] s
 |d::Z,s=>match g d (Ï nt none++caps) with
  |none=>none
  |some env=>aq (ne (t env s)) λb s=>if b=true then aq (ne (f env s)) λx s=>aq (fR nt caps g t f Z s) λY s=>ok (x::Y) s
   else fR nt caps g t f Z s
def bC (nt:Nat) (cap:List Nat) (it:aah (List D)) (g:D->Env->Option Env) (t:aah Bool) (f:aah D):aah D:=λenv s =>
 aq (it env s) λZ s=>iF Z (aq (fR nt (gv cap env) g t f Z s) λY s=>ok (.lst Y) s)
def cR:aah Bool:=λ_ s=>ok true s
def aU (np ns:Nat) (b:aah Fl):List D->af->Res D:=λZ s=>if Z.length=np then aq (b (Z.map some++Ï (ns-np) none) s) λY s=>match Y with
 | .rt d=>ok d s
 | .nx _=>ok .au s
 |_=>none else none
abbrev ck:Wd->bg->Prop:=λ_ _=>False
def qY (K:Ļ) (f:List D->af->Res D):Sp:=λX H Q _=>∃w Z,w.H=H/\aM K w/\aj K w Z X/\Out K ck w (f Z w.aG) λY d=>∀v,DV K Y d v->Q v Y.H
section
variable {X:Cx} {Ξ:Wd->bg->Prop} {e a b c tg:ņ} {es rest:List ņ} {pos:Pos} {f g h:aah D} {fa:aah (List D)} {ft gt:aah Bool} {st:Stmt} {nv BR:List Stmt} {fs gs:aah Fl}
def cX:de X [] (tS X.K Ξ cf):=GW PB λD σ H Z=>by
 obtain⟨w,env,Y,S,W,h⟩:=Z;subst Y;exact aD S h σ W
def aL (h1:PS X st (tS X.K Ξ fs)) (h2:de X nv (tS X.K Ξ gs)):de X (st::nv) (tS X.K Ξ (ax fs gs)):=GW (Ob h1 h2) λD σ H W=>by
 obtain⟨w,env,V,S,U,h⟩:=W;subst V;refine⟨w,env,rfl,S,U,(Out.aq h).mono λT R P Z h1=>?_⟩
 cases R with
 |nx Y=>exact fun O Q=>⟨T,Y,rfl,Z,Q,h1⟩
 |rt d=>have q:=aD Z h1;exact q
 |bk Y=>have q:=aD Z h1;exact q
 |ct Y=>have q:=aD Z h1;exact q
def aK (h1:PS X st (tS X.K Ξ fs)):de X [st] (tS X.K Ξ fs):=PC h1
def aW (he:PE X e (tE X.K Ξ f)):PS X (.Return (some e) pos) (tS X.K Ξ (aP f)):=jD (Rp he) λD σ H Z=>by
 obtain⟨w,env,Y,S,W,h⟩:=Z;subst Y;exact⟨w,env,rfl,S,W,(Out.aq h).mono λT d R V U=>aD V U⟩
def gJ (he:PE X e (tE X.K Ξ f)) (hs:swapsWith e none pos.line X.env=pure false:=by rfl):PS X (.Expr e pos) (tS X.K Ξ (cM f)):=jD (PD he hs) λD σ H Y=>by
 obtain⟨w,env,W,S,Z,h⟩:=Y;subst W;exact⟨w,env,rfl,S,Z,(Out.aq h).mono λR d V U T _ _=>aD U T σ (Z.le V)⟩
def cO (hc:PT X c (tT X.K Ξ ft)) (ha:de X nv (tS X.K Ξ fs)) (hb:de X BR (tS X.K Ξ gs)):PS X (.If c nv BR pos) (tS X.K Ξ (bS ft fs gs)):=jD (S9 hc ha hb) λD σ H T=>by
 obtain⟨w,env,R,S,Z,h⟩:=T;subst R;refine⟨w,env,rfl,S,Z,(Out.aq h).mono λY b W V U=>?_⟩
 cases b with
 |true=>exact⟨Y,env,rfl,V,Z.le W,U⟩
 |false=>exact⟨Y,env,rfl,V,Z.le W,U⟩
def uW:aah Fl:=λ_ _=>none
def vQ:de X nv (tS X.K Ξ uW):=λ_ _ _ _ _ _ h=>by obtain⟨w,env,_,_,_,h⟩:=h;exact h.elim
def gD (K:Ļ) (g:D->Env->Option Env):TG:=λv σ H Q=>∃w env d Z,w.H=H/\aM K w/\bK K w env σ/\DV K w d v/\g d env=some Z/\∀ Y,bK K w Z Y->Q Y H
def uX (K:Ļ) (g:List D->Env->Option Env):jV:=λW σ H Q=>∃w env Z Y,w.H=H/\aM K w/\bK K w env σ/\aj K w Z W/\g Z env=some Y/\∀ X,bK K w Y X->Q X H
def HS {t t':TG} (h:PG X e t) (i:∀v σ H Q,t' v σ H Q->t v σ H Q):PG X e t':=λZ s σ H v u Q I r Y=>h Z s σ H v u Q I r (i v σ H Q Y)
def GX {t t':jV} (h:kR X es t) (i:∀v σ H Q,t' v σ H Q->t v σ H Q):kR X es t':=λZ s σ H v u Q I r Y=>h Z s σ H v u Q I r (i v σ H Q Y)
def bV (i:Nat) {x:Str} (hN:X.N.Nodup) (hi:X.N[i]?=some x:=by rfl) (hx:Loc X.env.scope x:=by first|exact Zb rfl|exact Or.inr rfl) (hf:X.fn x=true\/X.env.scope.names.lookup x=some .local:=by first|exact .inl rfl|exact .inr rfl):PG X (.Name x pos) (gD X.K (gN i)) :=
 HS (fE hN hi hx hf) λv σ H Q Z=>by
  obtain⟨w,env,d,Y,T,S,W,V,U,k⟩:=Z;have e:env.set i (some d)=Y:=aam U;subst e;exact k _ (W.set V i)
def mG:kR X [] (uX X.K (gA [])):=GX p6 λR σ H Q W=>by
 obtain⟨w,env,Z,V,P,S,U,T,Y,k⟩:=W
 cases Z with
 |nil =>
  have e:env=V:=aam Y;subst e;exact⟨T,k _ U⟩
 |cons d Z=>cases Y
def eI {g:D->Env->Option Env} {gl:List (D->Env->Option Env)} (h1:PG X e (gD X.K g)) (h2:kR X es (uX X.K (gA gl)))
  (hs:(š (e::es) X.env).map (·.2)=ZO e X.env::(š es X.env).map (·.2):=by rfl):kR X (e::es) (uX X.K (gA (g::gl))):=GX (jA h1 h2 hs) λL σ H Q T=>by
 obtain⟨w,env,Y,R,V,S,P,O,Z,k⟩:=T
 cases Y with
 |nil=>cases Z
 |cons d Y =>
  obtain⟨v,r,rfl,N,dr⟩:=O;simp only[gA] at Z
  cases W:g d env with
  |none=>rw[W] at Z;cases Z
  |some U =>
   rw[W] at Z;refine⟨v,r,rfl,w,env,d,U,V,S,P,N,W,fun J M=>⟨w,U,Y,R,V,S,M,dr,Z,k⟩⟩
theorem zi:∀{gl:List (D->Env->Option Env)} {ds:List D} {env ay:Env},gA gl ds env=some ay->ds.length=gl.length
 | [],[],_,_,_=>rfl
 |g::gl,d::ds,env,ay,h=>by
  simp only[gA] at h
  cases Z:g d env with
  |none=>rw[Z] at h;cases h
  |some e1=>rw[Z] at h;simp[zi h]
 | [],_::_,_,_,h=>by cases h
 |_::_,[],_,_,h=>by cases h
def mP {gl:List (D->Env->Option Env)} {k:Nat} (hc:X.calm=true) (h:kR X es (uX X.K (gA gl))) (hn:(š es X.env).length=gl.length:=by rfl) (uA:(š es X.env).findIdx? (·.1)=none:=by rfl):PG X (.Tuple es k pos) (gD X.K (gT gl)) :=
 HS (kA hc h hn uA) λv σ H Q V=>by
  obtain⟨w,env,d,U,T,S,R,Y,Z,k⟩:=V
  cases d with
  |tup P =>
   simp only[DV] at Y;obtain⟨p,O,e1,N,W⟩:=Y;subst T;exact⟨p,O,e1,N,by rw[<- W.length];exact zi Z,w,env,P,U,rfl,S,R,W,Z,k⟩
  |_=>cases Z
def zU {K:Ļ} {g:D->Env->Option Env} (D:Ends) (σ:St) (H:Hp):tS K Ξ (aR f g) D σ H->qC (tE K Ξ f) (gD K g) D σ H:=by
 rintro ⟨w,env,rfl,S,X,h⟩;refine⟨w,env,rfl,S,X,(Out.aq h).mono λV d U W Z v T=>?_⟩
 cases Y:g d env with
 |none=>rw[Y] at Z;exact Z.elim
 |some R =>
  rw[Y] at Z;exact⟨V,env,d,R,rfl,W,X.le U,T,Y,aD W Z⟩
def om {g:D->Env->Option Env} (he:PE X e (tE X.K Ξ f)) (hg:PG X tg (gD X.K g)) (hs:ε [tg] e pos.line X.env=pure false:=by rfl) (hw:ζ [tg] e X.env=pure none:=by rfl)
  (h1:(š [tg] X.env).map (·.2)=[ZO tg X.env]:=by rfl):PS X (.Assign [tg] e pos) (tS X.K Ξ (aR f g)):=jD (As he hg hs hw h1) zU
def Fp {K:Ļ} {te:TE} {i:Nat} (D:Ends) (σ:St) (H:Hp):qC (tE K Ξ f) (gD K (gN i)) D σ H->qC (tE K Ξ f) (lG i) D σ H:=by
 rintro ⟨w,env,rfl,S,Z,h⟩;refine⟨w,env,rfl,S,Z,h.mono λP d O N Y v X=>?_⟩;obtain⟨M,W,V,U,L,J,T,R,Q,k⟩:=Y v X;have e:W.set i (some V)=U:=aam Q;subst e;exact k _ (T.set R i)
def bX (i:Nat) {x:Str} {pos':Pos} (hN:X.N.Nodup) (he:PE X e (tE X.K Ξ f)) (hi:X.N[i]?=some x:=by rfl) (hx:Loc X.env.scope x:=by first|exact Zb rfl|exact Or.inr rfl) (hs:swapsWith e (some (.Name x pos')) pos.line X.env=pure false:=by rfl) (hf:X.fn x=true\/X.env.scope.names.lookup x=some .local:=by first|exact .inl rfl|exact .inr rfl) :
  PS X (.Assign [.Name x pos'] e pos) (tS X.K Ξ (aR f (gN i))):=jD (Rq hN hi hx he hs hf) λD σ H h=>Fp (te:=tE X.K Ξ f) D σ H (zU D σ H h)
def ny (K:Ļ) (w:Wd) (J:It) (ds:List D):Prop:=∀Z,Le K w Z->aM K Z->∀i,
 (∀d,ds[i]?=some d->J.go i Z.H/\∀x X,J.uC i Z.H x X->∃Y,Y.H=X/\Le K Z Y/\aM K Y/\Y.aG=Z.aG/\DV K Y d x)/\(ds.length<=i->J.stop i Z.H)
def ef (K:Ļ) (Ξ:Wd->bg->Prop) (f:aah (List D)):TI:=fun σ H R=>∃w env,w.H=H/\aM K w/\bK K w env σ/\Out K Ξ w (f env w.aG) λZ Y=>∀J,ny K Z J Y->R J Z.H
def sG {t t':TI} (h:PI X tg e t) (i:∀ σ H R,t' σ H R->t σ H R):PI X tg e t':=λZ s σ H R I Y=>h Z s σ H R I (i σ H R Y)
def Ql {K:Ļ} {it:aah (List D)} {g:D->Env->Option Env} (D0:Ends) (σ:St) (H:Hp):tS K Ξ (eU it g fs) D0 σ H->JO (ef K Ξ it) (gD K g) (tS K Ξ fs) D0 σ H:=by
 rintro ⟨w,env,rfl,S,B,h⟩;refine⟨w,env,rfl,S,B,(Out.aq h).mono λM Y p o n J A=>?_⟩;refine⟨λi m L z=>m=Y.length-i/\i<=Y.length/\∃X V,X.H=z/\Le K M X/\aM K X/\bK K X V L/\Out K Ξ X (kF g fs (Y.drop i) V X.aG) (BQ K D0),
  ⟨Y.length,rfl,ď _,M,env,rfl,Le.refl _,o,B.le p,n⟩,?_⟩
 rintro i m L z ⟨rfl,hi,X,V,rfl,U,I,v,W⟩;by_cases G:i<Y.length
 ·right
  obtain⟨l,k⟩:=(A X U I i).1 _ (É G);rw[YW G] at W;simp only[kF] at W
  cases F:g Y[i] V with
  |none=>rw[F] at W;exact W.elim
  |some u =>
   rw[F] at W;refine⟨l,fun E T=>∃Z R,Z.H=T/\Le K M Z/\aM K Z/\bK K Z R E/\Out K Ξ Z (kF g fs (Y.drop (i+1)) R Z.aG) (BQ K D0),fun E T ⟨Z,R,q⟩=>⟨Y.length-(i+1),by omega,rfl,G,Z,R,q⟩,λx T y=>?_⟩;obtain⟨Z,rfl,Q,t,es,j⟩:=k x T y;refine⟨Z,V,Y[i],u,rfl,t,v.le Q,j,F,fun E f=>⟨Z,u,rfl,t,f,?_⟩⟩;rw[<- es] at W;refine(Out.aq (W.from Q)).mono λs c r P O=>?_
   cases c with
   |nx N=>exact fun b C=>⟨s,N,rfl,U.trans (Q.trans r),P,C,O⟩
   |ct N=>exact fun b C=>⟨s,N,rfl,U.trans (Q.trans r),P,C,O⟩
   |bk N=>have q:=aD P O;exact q
   |rt d=>have q:=aD P O;exact q
 ·left
  have e:i=Y.length:=by omega
  subst e;rw[List.drop_length] at W;exact⟨(A X U I _).2 (aal _),aD I W L v⟩
def iH {iter:ņ} {it:aah (List D)} {g:D->Env->Option Env} (hp:PassesOwn (î X.prog X.w) X.A X.env X.xe) (hc:X.calm=true) (hi:PI X tg iter (ef X.K Ξ it)) (hg:PG X tg (gD X.K g)) (hb:de X nv (tS X.K Ξ fs))
  (hs:∀x,ć iter X.env x=pure x:=by intro _;rfl):PS X (.For tg iter nv [] pos) (tS X.K Ξ (eU it g fs)):=jD (Ru hp hc hi hg hb hs) Ql
theorem Out.ne {α:Type} {K:Ļ} {w:Wd} {r:Res α} {k:Wd->α->Prop} (h:Out K Ξ w (DI.ne r) k):Out K ck w r k:=by
 match r,h with
 |some (.ok a,s),h=>exact h
def bK.block {K:Ļ} {w:Wd} {env:Env} {σ:St} (h:bK K w env σ) (nt:Nat) (cap:List Nat) (o:St) (ho:o.length=nt):bK K w (Ï nt none++gv cap env) (o++lH cap σ):=by
 refine⟨by simp[gv,lH,ho],λi d e=>?_⟩;by_cases hi:i<nt
 ·rw[Õ (by simpa using hi),ī,é hi] at e
  cases e
 ·rw[æ (by simpa using ς hi)] at e
  rw[æ (by omega),ho];simp only[Yu] at e;unfold gv at e;unfold lH;rw[Ü] at e |-
  cases Z:cap[i-nt]? with
  |none=>rw[Z] at e;cases e
  |some j =>
   rw[Z] at e;have ev:(env[j]?).getD none=some d:=aam e;have Y:env[j]?=some (some d):=by
    cases q:env[j]? with
    |none=>rw[q] at ev;cases ev
    |some z=>rw[q] at ev;exact ļ some ev
   obtain⟨v,e1,e2⟩:=h.val j d Y;exact⟨v,by rw[ŷ,e1];rfl,e2⟩
def Nr {K:Ļ} {nt:Nat} {cap:List Nat} {it:aah (List D)} {g:D->Env->Option Env} {fin:List D->af->Res D} (σ:St) (H:Hp) (Q:VK)
  (BS:∀(w2:Wd) (xs:List D) (vs:List V),aM K w2->aj K w2 xs vs->Out K Ξ w2 (fin xs w2.aG) (λw' d=>∀v,DV K w' d v->Q v w'.H)->∀p,w2.H p=none->Q (.ref p) (upd w2.H p (.lst vs))) :
  tE K Ξ (λenv s=>aq (it env s) λds s=>iF ds (aq (fR nt (gv cap env) g ft f ds s) fin)) σ H Q->og (ef K Ξ it) nt cap (gD K g) (tT K ck ft) (tE K ck f) σ H Q:=by
 rintro ⟨w,env,rfl,S,B,h⟩;refine⟨w,env,rfl,S,B,(Out.aq h).mono λN ds j c M J A=>?_⟩;obtain⟨hz,M⟩:=rL M;refine⟨λi m Y z=>m=ds.length-i/\i<=ds.length/\Y.length<=i/\∃w' Z,w'.H=z/\Le K N w'/\aM K w'/\aj K w' Z Y/\Out K Ξ w' (fR nt (gv cap env) g ft f (ds.drop i) w'.aG) λw2 xs=>∀vs,aj K w2 (Z++xs) vs->∀p,w2.H p=none->Q (.ref p) (upd w2.H p (.lst vs)),
  ⟨ds.length,rfl,ď _,ď _,N,[],rfl,Le.refl _,c,rfl,(Out.aq M).mono λw2 xs W P a vs O p U=>?_⟩,?_⟩
 ·exact BS w2 xs vs P O a p U
 rintro i m Y z ⟨rfl,hi,ha,w',Z,rfl,T,L,I,X⟩;by_cases G:i<ds.length
 ·right
  obtain⟨gb,hy⟩:=(A w' T L i).1 _ (É G);rw[YW G] at X;simp only[fR] at X
  cases F:g ds[i] (Ï nt none++gv cap env) with
  |none=>rw[F] at X;exact X.elim
  |some E =>
   rw[F] at X;refine⟨gb,by omega,λC u=>C.length<=i+1/\∃w' Z,w'.H=u/\Le K N w'/\aM K w'/\aj K w' Z C/\Out K Ξ w' (fR nt (gv cap env) g ft f (ds.drop (i+1)) w'.aG) λw2 xs=>∀vs,aj K w2 (Z++xs) vs->∀p,w2.H p=none->Q (.ref p) (upd w2.H p (.lst vs)),
    λC u ⟨V9,q⟩=>⟨ds.length-(i+1),by omega,rfl,G,V9,q⟩,λo x H3 ho y=>?_⟩
   obtain⟨w2,rfl,W,P,es,dv⟩:=hy x H3 y;refine⟨w2,_,ds[i],E,rfl,P,(B.le (j.trans (T.trans W))).block nt cap o ho,dv,F,fun lU t=>?_⟩;rw[<- es] at X;refine⟨w2,E,rfl,P,t,(Out.aq (X.from W)).ne.mono λr b R n l=>?_⟩
   cases b with
   |true =>
    refine⟨r,E,rfl,n,t.le R,(Out.aq l).ne.mono λw4 d k S4 h4 v CZ=>⟨by rw[í];simp;omega,w4,Z++[d],rfl,T.trans (W.trans (R.trans k)),S4,aj.append ((W.trans (R.trans k)).all I) (aj.one CZ),(Out.aq h4).mono λw5 xs l5 S5 h5 vs O p U=>?_⟩⟩;exact aD S5 h5 vs (by rw[ĕ] at O;exact O) p U
   |false =>
    exact⟨by omega,r,Z,rfl,T.trans (W.trans R),n,(W.trans R).all I,l⟩
 ·left
  have e:i=ds.length:=by omega
  subst e;rw[List.drop_length] at X;refine⟨(A w' T L _).2 (aal _),by omega,λp U=>aD L X Y (by rw[ĸ];exact I) p U⟩
def F3 {K:Ļ} {nt:Nat} {cap:List Nat} {it:aah (List D)} {g:D->Env->Option Env} (σ:St) (H:Hp) (Q:VK) :
  tE K Ξ (bC nt cap it g ft f) σ H Q->og (ef K Ξ it) nt cap (gD K g) (tT K ck ft) (tE K ck f) σ H Q :=
 Nr σ H Q λX S W V U T p Y=>T (X.grow p (.lst W)) (Fw.grow Y).le (V.grow Y) rfl (.ref p) ⟨p,W,rfl,⟨(show ¬ X.Z p from mF V Y),cU⟩,(Fw.grow Y).le.all U⟩
end
def GY {o caps:St} {v:V} {i nt:Nat} (ho:o.length=nt) (hi:i<nt):(o++caps).set i (some v)=o.set i (some v)++caps:=by
 rw[List.set_append_left _ _ (by omega)]
def Nt {i nt:Nat} (hi:i<nt):lV (lG i) nt:=by
 intro x o Z H R Y h;exact⟨⟨o.set i (some x),by rw[ġ];exact Y,GY Y hi⟩,h⟩
def tR (g:jV) (nt:Nat):Prop:=∀(Y:List V) (o Z:St) (H:Hp) (R:St->Hp->Prop),o.length=nt->g Y (o++Z) H R->g Y (o++Z) H fun X U=>(∃W:St,W.length=nt/\X=W++Z)/\R X U
def OF:tR Bw nt:=λX o Z H R Y h=>⟨h.1,⟨o,Y,rfl⟩,h.2⟩
def Nu {i nt:Nat} {g:jV} (hi:i<nt) (hg:tR g nt):tR (AV (lG i) g) nt:=by
 rintro X o Z H R Y ⟨v,r,e,h⟩;refine⟨v,r,e,?_⟩;have h:g r ((o++Z).set i (some v)) H R:=h;show g r ((o++Z).set i (some v)) H _;rw[GY Y hi] at h |-;exact hg r _ Z H R (by rw[ġ];exact Y) h
def OG (hg:tR g nt):lV (Bx K n g) nt:=by
 rintro x o Z H R X ⟨a,Y,e,W,V,h⟩;exact⟨a,Y,e,W,V,hg Y o Z H R X h⟩
structure Tg (K:Ļ) (g0:TG) (g:D->Env->Option Env) (nt:Nat):Prop where
 kX:lV g0 nt
 imp:∀v σ H Q,gD K g v σ H Q->g0 v σ H Q
structure x8 (K:Ļ) (g0:jV) (g:List (D->Env->Option Env)) (nt:Nat):Prop where
 kX:tR g0 nt
 imp:∀v σ H Q,uX K (gA g) v σ H Q->g0 v σ H Q
def nR (i:Nat) (hi:i<nt:=by decide):Tg K (lG i) (gN i) nt:=⟨Nt hi,λv σ H Q Z=>by
 obtain⟨w,env,d,Y,U,S,X,W,V,k⟩:=Z;have e:env.set i (some d)=Y:=aam V;subst e;exact k _ (X.set W i)⟩
def rX:x8 K Bw [] nt:=⟨OF,λT σ H Q X=>by
 obtain⟨w,env,Z,W,R,S,V,U,Y,k⟩:=X
 cases Z with
 |nil =>
  have e:env=W:=aam Y;subst e;exact⟨U,k _ V⟩
 |cons d Z=>cases Y⟩
def km (i:Nat) (h:x8 K g0 gl nt) (hi:i<nt:=by decide):x8 K (AV (lG i) g0) (gN i::gl) nt:=⟨Nu hi h.kX,λP σ H Q X=>by
 obtain⟨w,env,Z,W,V,S,U,T,Y,k⟩:=X
 cases Z with
 |nil=>cases Y
 |cons d Z =>
  obtain⟨v,r,rfl,R,dr⟩:=T;exact⟨v,r,rfl,h.imp _ _ _ _ ⟨w,_,Z,W,V,S,U.set R i,dr,Y,k⟩⟩⟩
def sH (h:x8 K g0 gl nt) (hn:gl.length=n:=by rfl):Tg K (Bx K n g0) (gT gl) nt:=⟨OG h.kX,λv σ H Q W=>by
 obtain⟨w,env,d,V,U,S,T,Y,Z,k⟩:=W
 cases d with
 |tup R =>
  simp only[DV] at Y;obtain⟨p,P,e1,O,X⟩:=Y;subst U;exact⟨p,P,e1,O,by rw[<- X.length,zi Z];exact hn,h.imp _ _ _ _ ⟨w,env,R,V,rfl,S,T,X,Z,k⟩⟩
 |_=>cases Z⟩
section
variable {X:Cx} {Ξ:Wd->bg->Prop} {e a b c tg el src:ņ} {es rest tests:List ņ} {pos:Pos} {f g h:aah D} {fa:aah (List D)} {ft gt:aah Bool} {st:Stmt} {nv BR:List Stmt} {fs gs:aah Fl}
def RX (h:PF X tests t) (i:∀ σ H Q,t' σ H Q->t σ H Q):PF X tests t':=λZ s σ H Q I Y=>h Z s σ H Q I (i σ H Q Y)
def fH:PF X [] (tT K Ξ cR):=RX RN fun σ H Q Z=>by
 obtain⟨w,env,Y,S,W,h⟩:=Z;subst Y;exact aD S h
def jf (h:PT X c (tT K Ξ ft)):PF X [c] (tT K Ξ ft):=RO h
def EW (i_:∀v σ H Q,g1 v σ H Q->g0 v σ H Q) (wm:∀R R':It->Hp->Prop,(∀J H',R J H'->R' J H')->wi σ H R->wi σ H R') (h:og wi nt cap g1 tf te σ H Q):og wi nt cap g0 tf te σ H Q:=by
 refine wm _ _ (λJ H' Y=>?_) h;obtain⟨W,X,step⟩:=Y;refine⟨W,X,λi m Z V hw=>?_⟩
 rcases step i m Z V hw with q | ⟨U,T,N,S,P⟩
 ·exact .inl q
 ·exact .inr ⟨U,T,N,S,λo x O M y=>i_ _ _ _ _ (P o x O M y)⟩
def F4 (R R':It->Hp->Prop) (i:∀J H',R J H'->R' J H') (h:ef K Ξ it σ H R):ef K Ξ it σ H R':=by
 obtain⟨w,env,Z,S,Y,h⟩:=h;exact⟨w,env,Z,S,Y,h.mono λV U _ _ X J W=>i J _ (X J W)⟩
def bG (f:aah D):aah (List D):=λenv s=>aq (f env s) λd s=>match d with
 | .lst Z=>ok Z s
 | .tup Z=>ok Z s
 |_=>none
def OH {K:Ļ} {w:Wd} {a:à} {ds:List D} (h:DV K w (.lst ds) (.ref a)):ny K w (Cq K a) ds:=λV U T i=>by
 have X:=U _ _ h;simp only[DV] at X;obtain⟨p,Z,e,Y,W⟩:=X;cases e;refine⟨λd S=>?_,λR=>⟨Z,Y.sq,by rw[<- W.length];exact R⟩⟩;obtain⟨v,ev,Q⟩:=W.get' i d S;exact⟨⟨Z,v,Y.sq,ev⟩,λx P ⟨e1,e2⟩=>⟨V,e1.symm,Le.refl _,T,rfl,by
  have q:=e2 Z Y.sq;rw[ev] at q;cases q;exact Q⟩⟩
def Qm {K:Ļ} {w:Wd} {a:à} {ds:List D} (h:DV K w (.tup ds) (.ref a)):ny K w (Cr K a) ds:=λV U T i=>by
 have X:=U _ _ h;simp only[DV] at X;obtain⟨p,Z,e,Y,W⟩:=X;cases e;refine⟨λd S=>?_,λR=>⟨Z,Y,by rw[<- W.length];exact R⟩⟩;obtain⟨v,ev,Q⟩:=W.get' i d S;exact⟨⟨Z,v,Y,ev⟩,λx P ⟨e1,e2⟩=>⟨V,e1.symm,Le.refl _,T,rfl,by
  have q:=e2 Z Y;rw[ev] at q;cases q;exact Q⟩⟩
def eQ (hl:PE X a (tE X.K Ξ f)):PI X tg a (ef X.K Ξ (bG f)):=by
 have both:PI X tg a (fun σ H R=>IM X.K (tE X.K Ξ f) σ H R\/JN X.K (tE X.K Ξ f) σ H R):=λN s σ H R I h=>h.elim (PH hl N s σ H R I) (Rt hl N s σ H R I);refine sG both fun σ H R ⟨w,env,M,S,W,h⟩=>?_;subst M;simp only[bG] at h
 cases Y:f env w.aG with
 |none=>rw[Y] at h;exact h.elim
 |some r =>
  obtain⟨r,s⟩:=r;rw[Y] at h
  cases r with
  |error x=>exact .inl ⟨w,env,rfl,S,W,by rw[Y];exact h⟩
  |ok d =>
   rw[eM] at h
   cases d with
   |lst L =>
    refine .inl ⟨w,env,rfl,S,W,?_⟩;rw[Y];intro V U T e1 v Z;have Q:=Z;simp only[DV] at Z;obtain⟨p,P,rfl,O,J⟩:=Z;exact⟨p,rfl,⟨P,O.sq⟩,h V U T e1 _ (OH Q)⟩
   |tup L =>
    refine .inr ⟨w,env,rfl,S,W,?_⟩;rw[Y];intro V U T e1 v Z;have Q:=Z;simp only[DV] at Z;obtain⟨p,P,rfl,O,J⟩:=Z;exact⟨p,rfl,⟨P,O⟩,h V U T e1 _ (Qm Q)⟩
   |_=>exact h.elim
noncomputable def bc (lo:Int) (n:Nat):List D:=(Ó n).map λ(i:Nat)=>D.int (lo+(i:Int))
def ia:(bc lo n)[i]?=if i<n then some (.int (lo+i)) else none:=by
 unfold bc;rw[Ü];by_cases h:i<n
 ·rw[ĥ h,é h];rfl
 ·rw[Ģ (by simp;omega),ð h];rfl
def fe:(bc lo n).length=n:=by simp[bc]
def GZ:ny K w (uD lo n) (bc lo n):=λX V W i=>by
 refine⟨λd Z=>?_,λY=>by rw[fe] at Y;exact Y⟩;rw[ia] at Z;split at Z
 ·cases Z
  exact⟨by assumption,λx U ⟨e1,e2⟩=>⟨X,e1.symm,Le.refl _,W,rfl,e2⟩⟩
 ·cases Z
noncomputable def jg (j:Int):Bool:=decide (-(2 ^ 62)<=j)&&decide (j<2 ^ 62)
def cb (fa:aah (List D)):aah (List D):=λenv s=>aq (fa env s) λZ s=>match Z with
 | [.int j]=>if jg j=true then ok (bc 0 j.toNat) s else none
 |_=>none
def x9 (fa:aah (List D)):aah (List D):=λenv s=>aq (fa env s) λZ s=>match Z with
 | [.int i,.int j]=>if (jg i&&jg j)=true then ok (bc i (j-i).toNat) s else none
 |_=>none
def eO (hg:Gl X "range") (hm:X.mg "range"=none) (ha:PA X [a] (tA X.K Ξ fa)) (hs:Ý [a] X.env=[(false,Ž a X.env)]:=by rfl):PI X tg (.Call (.Name "range" p) [a] [] pos) (ef X.K Ξ (cb fa)) :=
 sG (Na hg hm ha hs) fun σ H R W=>by
  obtain⟨w,env,V,S,U,h⟩:=W;subst V;refine⟨w,env,rfl,S,U,(Out.aq h).mono λO N M T Z L Q=>?_⟩;split at Z
  ·rename_i j
   split at Z
   ·rename_i Y
    simp only[jg,È,Å] at Y;obtain⟨v,r,rfl,P,dr⟩:=Q;have e1:v=.int j:=P;have e2:r=[]:=dr;subst e1 e2;exact⟨j,rfl,Y.1,Y.2,aD T Z _ GZ⟩
   ·exact Z.elim
  ·exact Z.elim
def RY {p:Pos} (hg:Gl X "range") (hm:X.mg "range"=none) (ha:PA X [a,b] (tA X.K Ξ fa)) (hs:Ý [a,b] X.env=[(false,Ž a X.env),(false,Ž b X.env)]:=by rfl) (eY:Ý [b] X.env=[(false,Ž b X.env)]:=by rfl):PI X tg (.Call (.Name "range" p) [a,b] [] pos) (ef X.K Ξ (x9 fa)) :=
 sG (Nb hg hm ha hs eY) fun σ H R W=>by
  obtain⟨w,env,V,S,U,h⟩:=W;subst V;refine⟨w,env,rfl,S,U,(Out.aq h).mono λL J I T Z G Q=>?_⟩;split at Z
  ·rename_i i j
   split at Z
   ·rename_i Y
    simp only[jg,È,Å] at Y;obtain⟨v,r,rfl,P,v2,O,rfl,N,dr⟩:=Q;have e1:v=.int i:=P;have e2:v2=.int j:=N;have M:O=[]:=dr;subst e1 e2 M;exact⟨i,j,rfl,⟨Y.1.1,Y.1.2,Y.2.1,Y.2.2⟩,aD T Z _ GZ⟩
   ·exact Z.elim
  ·exact Z.elim
noncomputable def ip (xs ys:List D):List D:=(xs.zip ys).map λp=>.tup [p.1,p.2]
def OI {i:Nat} (h:(ip xs ys)[i]?=some d):∃x y,xs[i]?=some x/\ys[i]?=some y/\d=.tup [x,y]:=by
 unfold ip at h;rw[Ü] at h
 cases Z:(xs.zip ys)[i]? with
 |none=>rw[Z] at h;cases h
 |some p =>
  rw[Z] at h;obtain⟨Y,X⟩:=List.getElem?_zip_eq_some.mp Z;exact⟨p.1,p.2,Y,X,(aam h).symm⟩
def zj:(ip xs ys).length=min xs.length ys.length:=by simp[ip]
def Nv (S':aM K w') (hp:w'.H p=none) (h1:DV K w' d x) (h2:DV K w' d2 y) :
  ∃w2,w2.H=upd w'.H p (.tup [x,y])/\Le K w' w2/\aM K w2/\w2.aG=w'.aG/\DV K w2 (.tup [d,d2]) (.ref p) :=
 ⟨w'.grow p (.tup [x,y]),rfl,(Fw.grow hp).le,S'.grow hp,rfl,p,[x,y],rfl,aX.of cU,(Fw.grow hp).le.all (aj.two h1 h2)⟩
@[reducible] noncomputable def C1:Bool->List D->D
 |true=>.tup
 |false=>.lst
def I0 {K:Ļ} {w:Wd} {a:à} {ds:List D}:∀{k},DV K w (C1 k ds) (.ref a)->∃xs,iY k K w.H a xs/\aj K w ds xs
 |true,h=>by
  simp only[DV] at h;obtain⟨p,xs,e,Z,Y⟩:=h;cases e;exact⟨xs,Z,Y⟩
 |false,h=>by
  simp only[DV] at h;obtain⟨p,xs,e,Z,Y⟩:=h;cases e;exact⟨xs,Z.sq,Y⟩
def OJ {k l:Bool} {K:Ļ} {w:Wd} {a b:à} {ds es:List D} (h:DV K w (C1 k ds) (.ref a)) (g:DV K w (C1 l es) (.ref b)):ny K w (xD k l K a b) (ip ds es):=λF V P i=>by
 obtain⟨Z,Y,U⟩:=I0 (V _ _ h);obtain⟨X,W,T⟩:=I0 (V _ _ g);refine⟨λd O=>?_,λN=>⟨Z,X,Y,W,?_⟩⟩
 ·obtain⟨x,y,e1,e2,rfl⟩:=OI O
  obtain⟨v,ev,M⟩:=U.get' i x e1;obtain⟨u,S,L⟩:=T.get' i y e2;refine⟨⟨Z,X,v,u,Y,W,ev,S⟩,λz E ⟨r,C,y1,J,I,H,G⟩=>?_⟩;obtain⟨R,Q⟩:=G Z X Y W;rw[ev] at R;rw[S] at Q;cases R;cases Q;subst I H;exact Nv P J M L
 ·rw[zj] at N
  have:=U.length;have:=T.length;omega
def OK {K:Ļ} {w:Wd} {a b:à} {ds es:List D} (h:DV K w (.tup ds) (.ref a)) (g:DV K w (.tup es) (.ref b)):ny K w (Vc K a b) (ip ds es):=OJ (k:=true) (l:=true) h g
def qF (fa:aah (List D)):aah (List D):=λenv s=>aq (fa env s) λZ s=>match Z with
 | [.tup Y,.tup X]=>ok (ip Y X) s
 |_=>none
def TR {p:Pos} {elts:List ņ} {kk:Nat} {BB:Pos} (hg:Gl X "zip") (hm:X.mg "zip"=none) (ha:PA X [a,b] (tA X.K Ξ fa)) (hs:Ý [a,b] X.env=[(false,Ž a X.env),(false,Ž b X.env)]:=by rfl) (eY:Ý [b] X.env=[(false,Ž b X.env)]:=by rfl) :
  PI X (.Tuple elts kk BB) (.Call (.Name "zip" p) [a,b] [] pos) (ef X.K Ξ (qF fa)):=by
 refine sG (P9 hg hm ha hs eY) fun σ H R U=>?_;obtain⟨w,env,T,S,Q,h⟩:=U;subst T;refine⟨w,env,rfl,S,Q,(Out.aq h).mono λF E D P h C O=>?_⟩;split at h
 ·obtain⟨v,r,rfl,Z,v2,N,rfl,Y,dr⟩:=O
  have M:N=[]:=dr;subst M;have W:=Z;have V:=Y;simp only[DV] at W V;obtain⟨p,L,rfl,J,_⟩:=W;obtain⟨q,I,rfl,G,_⟩:=V;exact⟨p,q,L,I,rfl,J,G,aD P h _ (OK Z Y)⟩
 ·exact h.elim
def ar (fn:List D->af->Res D) (fa:aah (List D)):aah D:=λenv s=>aq (fa env s) λZ s=>ne (fn Z s)
def RZ {k:Nat} {fA:à} {fd:ű} {KI:List Str} {fn:List D->af->Res D} {x:Str} {p:Pos} (F:fT X.prog X.w X.K X.mg X.base iz k fA fd KI (qY X.K fn)) (hr:bY k X.A) (hg:Gl X x) (hm:X.mg x=some (.ref fA)) (hk:Ů X.K (.ref fA)=true) (hb:Binds X.K fd KI [])
  (ha:PA X (e::es) (tA X.K Ξ fa)) (iV:(x==("__debug__":Str))=false:=by decide) (he:Ý (e::es) X.env=(false,Ž e X.env)::Ý es X.env:=by rfl) (bO:(Yt pos (Ý es X.env)).any (·.1)=false:=by rfl) :
  PE X (.Call (.Name x p) (e::es) [] pos) (tE X.K Ξ (ar fn fa)):=cF (PM F hr hg hm hk hb .nil TC ha iV he bO) fun σ H Q Y=>by
 obtain⟨w,env,W,S,V,h⟩:=Y;subst W;refine⟨w,env,rfl,S,V,(Out.aq h).mono λZ U N T R P O=>?_⟩;show qY X.K fn (P++[]) Z.H Q E0;rw[ĸ];exact⟨Z,U,rfl,T,O,R.ne⟩
def aj.env (h:aj K w ds vs) (n:Nat):bK K w (ds.map some++Ï (n-ds.length) none) (vs.map some++Ï (n-vs.length) none):=by
 have Y:=h.length;refine⟨by simp[Y],λi d e=>?_⟩;by_cases hi:i<ds.length
 ·rw[Õ (by simpa using hi),Ü] at e
  rw[Õ (by simp;omega),Ü]
  cases Z:ds[i]? with
  |none=>rw[Z] at e;cases e
  |some W =>
   rw[Z] at e;cases e;obtain⟨v,ev,X⟩:=h.get' i d Z;exact⟨v,by rw[ev];rfl,X⟩
 ·rw[æ (by simpa using ς hi),ī] at e
  split at e<;>cases e
end
def TU (F:oO K x qual st f fd) (S:rW N ps (gp st))
 (hb:∀(bQ:Ê) (A:Ă) (outer:List PySem.Env) (s:Æ) (H:Hp) (E:XK),bY k (A.deeper (PyProof.Rows.envOfC qual (gp st) s.heap.objs.size f bQ))->de (mS iz P w K mg base N qual (gp st) f bQ A outer s H E).qR (kq st) (tS K ck b)) :
  fT P w K mg base iz (k+1) f fd ps (qY K (aU ps.length N.length b)):=by
 refine F.ok S (λW H Q E h=>?_) (λbQ A outer s H W Q E V h=>?_)
 ·obtain⟨w,U,rfl,S,Y,h⟩:=h
  rw[<- Y.length];unfold aU at h;split at h
  ·assumption
  ·exact h.elim
 ·obtain⟨w,U,rfl,S,Y,h⟩:=h
  refine⟨_,hb bQ A outer s w.H E V,?_⟩;unfold aU at h;split at h
  ·rename_i T
   rw[<- T] at h;refine⟨w,_,rfl,S,Y.env N.length,(Out.aq h).mono λO R M X Z=>?_⟩
   cases R with
   |nx env=>intro L _;exact aD X Z _ rfl
   |rt d=>have q:=aD X Z;exact q
   |bk env=>exact Z.elim
   |ct env=>exact Z.elim
  ·exact h.elim
mutual
noncomputable def py:D->Zv
 | .au=>.none
 | .bl b=>.bool b
 | .int i=>.int i
 | .str x=>.str x
 | .tup Z=>.tuple (bT Z)
 | .lst Z=>.list (bT Z)
 | .bw Y=>.dict (Y.map λp=>(tN p.1,PyData.int p.2))
 | .ao _=>.none
 | .ty _=>.none
 | .aZ _=>.none
 | .exc _ _=>.none
 | .cC _ _ _=>.none
noncomputable def bT:List D->List Zv
 | []=>[]
 |d::Z=>py d::bT Z
end
mutual
noncomputable def plain:D->Bool
 | .au=>true
 | .bl _=>true
 | .int _=>true
 | .str _=>true
 | .tup Z=>lD Z
 | .lst Z=>lD Z
 | .bw _=>true
 | .ao _=>false
 | .ty _=>false
 | .aZ _=>false
 | .exc _ _=>false
 | .cC _ _ _=>false
noncomputable def lD:List D->Bool
 | []=>true
 |d::Z=>plain d&&lD Z
end
mutual
noncomputable def lay:D->Bool
 | .au=>true
 | .bl _=>true
 | .int _=>true
 | .str x=>PyData.strOk x
 | .tup Z=>cJ Z
 | .lst Z=>cJ Z
 | .bw _=>false
 | .ao _=>false
 | .ty _=>false
 | .aZ _=>false
 | .exc _ _=>false
 | .cC _ _ _=>false
noncomputable def cJ:List D->Bool
 | []=>true
 |d::Z=>lay d&&cJ Z
end
mutual
noncomputable def dep:D->Nat
 | .tup Z=>bM Z+1
 | .lst Z=>bM Z+1
 | .bw Y=>1
 | .au=>0
 | .bl _=>0
 | .int _=>0
 | .str _=>0
 | .ao _=>0
 | .ty _=>0
 | .aZ _=>0
 | .exc _ _=>0
 | .cC _ _ _=>0
noncomputable def bM:List D->Nat
 | []=>0
 |d::Z=>max (dep d) (bM Z)
end
mutual
noncomputable def beq:D->D->Bool
 | .au,.au=>true
 | .bl a,.bl b=>a==b
 | .bl a,.int j=>(if a then 1 else 0)==j
 | .int i,.bl b=>i==(if b then 1 else 0)
 | .int i,.int j=>i==j
 | .str x,.str y=>x==y
 | .tup Z,.tup Y=>iq Z Y
 | .lst Z,.lst Y=>iq Z Y
 |_,_=>false
noncomputable def iq:List D->List D->Bool
 | [],[]=>true
 |x::Z,y::Y=>beq x y&&iq Z Y
 |_,_=>false
end
mutual
theorem nL:∀(d:D),lay d=true->plain d=true
 | .au,_=>rfl
 | .bl _,_=>rfl
 | .int _,_=>rfl
 | .str _,_=>rfl
 | .tup Z,h=>by simp only[lay,plain] at h |-;exact nI Z h
 | .lst Z,h=>by simp only[lay,plain] at h |-;exact nI Z h
 | .bw _,h=>by simp[lay] at h
 | .ao _,h=>by simp[lay] at h
 | .ty _,h=>by simp[lay] at h
 | .aZ _,h=>by simp[lay] at h
 | .exc _ _,h=>by simp[lay] at h
 | .cC _ _ _,h=>by simp[lay] at h
theorem nI:∀(ds:List D),cJ ds=true->lD ds=true
 | [],_=>rfl
 |d::ds,h=>by
  simp only[cJ,lD,È] at h |-;exact⟨nL d h.1,nI ds h.2⟩
end
mutual
theorem jE:∀(d:D),lay d=true->(py d).canLay0=true/\(py d).depth=dep d
 | .au,_=>⟨rfl,by simp[py,dep,PyData.depth]⟩
 | .bl _,_=>⟨rfl,by simp[py,dep,PyData.depth]⟩
 | .int _,_=>⟨rfl,by simp[py,dep,PyData.depth]⟩
 | .str _,h=>⟨h,by simp[py,dep,PyData.depth]⟩
 | .tup Z,h=>by
  obtain⟨Y,X⟩:=rM Z (by simpa [lay] using h);simp only[py,dep,PyData.depth,PyData.canLay0];exact⟨Y,by rw[X]⟩
 | .lst Z,h=>by
  obtain⟨Y,X⟩:=rM Z (by simpa [lay] using h);simp only[py,dep,PyData.depth,PyData.canLay0];exact⟨Y,by rw[X]⟩
 | .bw _,h=>by simp[lay] at h
 | .ao _,h=>by simp[lay] at h
 | .ty _,h=>by simp[lay] at h
 | .aZ _,h=>by simp[lay] at h
 | .exc _ _,h=>by simp[lay] at h
 | .cC _ _ _,h=>by simp[lay] at h
theorem rM:∀(ds:List D),cJ ds=true->PyData.canLayAll0 (bT ds)=true/\Yx (bT ds)=bM ds
 | [],_=>⟨rfl,rfl⟩
 |d::ds,h=>by
  simp only[cJ,È] at h;obtain⟨a1,a2⟩:=jE d h.1;obtain⟨Z,Y⟩:=rM ds h.2;simp only[bT,bM,PyData.canLayAll0,Yx,a1,Z,a2,Y,Ķ,Ħ]
end
mutual
theorem qc:∀(d e:D),lay d=true->lay e=true->İ (py d) (py e)=beq d e
 | .tup Z,.tup Y,h,g=>by
  simp only[py,beq,İ];exact zk Z Y (by simpa [lay] using h) (by simpa [lay] using g)
 | .lst Z,.lst Y,h,g=>by
  simp only[py,beq,İ];exact zk Z Y (by simpa [lay] using h) (by simpa [lay] using g)
 | .au,e,_,g=>by cases e<;>simp_all [py,beq,İ,lay]
 | .bl _,e,_,g=>by cases e<;>simp_all [py,beq,İ,lay]
 | .int _,e,_,g=>by cases e<;>simp_all [py,beq,İ,lay]
 | .str _,e,_,g=>by cases e<;>simp_all [py,beq,İ,lay]
 | .tup _,.au,_,_=>by simp[py,beq,İ]
 | .tup _,.bl _,_,_=>by simp[py,beq,İ]
 | .tup _,.int _,_,_=>by simp[py,beq,İ]
 | .tup _,.str _,_,_=>by simp[py,beq,İ]
 | .tup _,.lst _,_,_=>by simp[py,beq,İ]
 | .lst _,.au,_,_=>by simp[py,beq,İ]
 | .lst _,.bl _,_,_=>by simp[py,beq,İ]
 | .lst _,.int _,_,_=>by simp[py,beq,İ]
 | .lst _,.str _,_,_=>by simp[py,beq,İ]
 | .lst _,.tup _,_,_=>by simp[py,beq,İ]
 | .bw _,_,h,_=>by simp[lay] at h
 | .ao _,_,h,_=>by simp[lay] at h
 | .ty _,_,h,_=>by simp[lay] at h
 | .aZ _,_,h,_=>by simp[lay] at h
 | .exc _ _,_,h,_=>by simp[lay] at h
 | .cC _ _ _,_,h,_=>by simp[lay] at h
 |_,.bw _,_,h=>by simp[lay] at h
 |_,.ao _,_,h=>by simp[lay] at h
 |_,.ty _,_,h=>by simp[lay] at h
 |_,.aZ _,_,h=>by simp[lay] at h
 |_,.exc _ _,_,h=>by simp[lay] at h
 |_,.cC _ _ _,_,h=>by simp[lay] at h
theorem zk:∀(ds es:List D),cJ ds=true->cJ es=true->PyData.eqvAll (bT ds) (bT es)=iq ds es
 | [],[],_,_=>rfl
 | [],_::_,_,_=>rfl
 |_::_,[],_,_=>rfl
 |d::ds,e::es,h,g=>by
  simp only[cJ,È] at h g;simp only[bT,iq,PyData.eqvAll,qc d e h.1 g.1,zk ds es h.2 g.2]
end
mutual
theorem DV.py:∀{d:D} {v:V},DV K w d v->plain d=true->L2.DV K (λ_=>False) w.H (DI.py d) v
 | .au,_,h,_=>h
 | .bl _,_,h,_=>h
 | .int _,_,h,_=>h
 | .str _,_,h,_=>h
 | .tup X,v,h,p=>by
  simp only[DV] at h;obtain⟨a,Y,e,Z,r⟩:=h;simp only[DI.py,L2.DV];exact⟨a,Y,e,Z,aj.py r (by simpa [plain] using p)⟩
 | .lst X,v,h,p=>by
  simp only[DV] at h;obtain⟨a,Y,e,Z,r⟩:=h;simp only[DI.py,L2.DV];exact⟨a,Y,e,not_false,Z.2,aj.py r (by simpa [plain] using p)⟩
 | .bw W,v,h,p=>by
  simp only[DV] at h;obtain⟨a,e,U,Z⟩:=h;simp only[DI.py,L2.DV];exact⟨a,_,e,not_false,Z,W,rfl,rfl⟩
 | .ao _,_,_,p=>by simp[plain] at p
 | .ty _,_,_,p=>by simp[plain] at p
 | .aZ _,_,_,p=>by simp[plain] at p
 | .exc _ _,_,_,p=>by simp[plain] at p
 | .cC _ _ _,_,_,p=>by simp[plain] at p
theorem aj.py:∀{ds:List D} {vs:List V},aj K w ds vs->lD ds=true->L2.aj K (λ_=>False) w.H (DI.bT ds) vs
 | [],_,h,_=>h
 |d::ds,vs,h,p=>by
  simp only[aj] at h;obtain⟨v,r,e,Z,Y⟩:=h;simp only[lD,È] at p;exact⟨v,r,e,DV.py Z p.1,aj.py Y p.2⟩
end
def res (d:D) (s:af):D:=match d with
 | .ao k=>match s[k]? with
  |some (.lst Z)=>.lst Z
  |_=>d
 |_=>d
theorem DV.res (S:aM K w) (h:DV K w d v) (p:plain (DI.res d w.aG)=true):L2.DV K (λ_=>False) w.H (DI.py (DI.res d w.aG)) v:=by
 cases d with
 |ao k =>
  unfold DI.res at p |-;simp only at p |-
  split at p<;>rename_i Z
  ·rename_i V
   obtain⟨a,e1,rfl⟩:=h;obtain⟨Y,X,W⟩:=S.cell k a _ e1 Z;simp only[DI.py,L2.DV];exact⟨a,Y,rfl,not_false,X,W.py (by simpa [plain] using p)⟩
  ·simp[plain] at p
 |_=>exact h.py p
noncomputable def nA:D->Bool
 | .str _=>true
 |_=>false
def R1 (h:nA d=true):∃x,d=.str x:=by cases d<;>first|exact⟨_,rfl⟩|cases h
def jJ (x y:D):Option Bool:=if (nA x&&nA y)=true then some (beq x y) else if (lay x&&lay y&&decide (min (dep x) (dep y)<=100))=true then some (beq x y) else none
def cP (x y:D) (s:af):Res D:=match jJ (res x s) (res y s) with
 |some b=>ok (.bl b) s
 |none=>none
def iu (x y:D) (s:af):Res D:=match jJ (res x s) (res y s) with
 |some b=>ok (.bl (!b)) s
 |none=>none
def G0 (S:aM K w) (hx:DV K w x v) (hy:DV K w y u) (h:jJ (res x w.aG) (res y w.aG)=some b) :
  (BA v u=true/\decide (v=u)=b)\/∃(d e:Zv),L2.DV K (λ_=>False) w.H d v/\L2.DV K (λ_=>False) w.H e u/\d.canLay0=true/\e.canLay0=true/\min d.depth e.depth<=100/\İ d e=b:=by
 have str:∀{d:D} {v:V},nA (res d w.aG)=true->DV K w d v->∃x,res d w.aG=.str x/\v=.str x:=λ{d v} hs W=>by
  obtain⟨x,e⟩:=R1 hs
  cases d with
  |str y=>cases e;exact⟨x,rfl,W⟩
  |ao k =>
   unfold res at e;simp only at e
   split at e<;>cases e
  |_=>cases e
 unfold jJ at h;split at h
 ·rename_i hs
  rw[È] at hs;obtain⟨a,U,rfl⟩:=str hs.1 hx;obtain⟨c,T,rfl⟩:=str hs.2 hy;rw[U,T] at h;exact .inl ⟨rfl,by rw[<- aam h];exact zK⟩
 split at h
 ·rename_i X
  right;simp only[È,Å] at X;obtain⟨⟨Z,Y⟩,R⟩:=X;obtain⟨Q,P⟩:=jE _ Z;obtain⟨O,N⟩:=jE _ Y;exact⟨_,_,hx.res S (nL _ Z),hy.res S (nL _ Y),Q,O,by rw[P,N];exact R,by rw[qc _ _ Z Y];exact aam h⟩
 ·cases h
section
variable {X:Cx} {Ξ:Wd->bg->Prop}
def iw (hr:bY k X.A):bh X (ĭ .Eq) (rO X.K Ξ cP):=by
 rintro W s σ H x y v u Q I V U ⟨w,J,G,rfl,S,T,R,h⟩;unfold cP at h;split at h
 ·rename_i b P
  rcases G0 S T R P with ⟨Z,Y⟩ | ⟨d,e,Z,Y,O,N,M,L⟩
  ·exact Te W s σ w.H x y v u Q I V U ⟨Z,by rw[Y];exact aD S h _ rfl⟩
  exact RP hr W s σ w.H x y v u Q I V U ⟨d,e,_,Z,Y,O,N,M,by simp only[Ã,ã];rw[L];exact aD S h _ rfl⟩
 ·exact h.elim
def tU (hr:bY k X.A):bh X (ĭ .NotEq) (rO X.K Ξ iu):=by
 rintro W s σ H x y v u Q I V U ⟨w,J,G,rfl,S,T,R,h⟩;unfold iu at h;split at h
 ·rename_i b P
  rcases G0 S T R P with ⟨Z,Y⟩ | ⟨d,e,Z,Y,O,N,M,L⟩
  ·exact Tf W s σ w.H x y v u Q I V U ⟨Z,by rw[Y];exact aD S h _ rfl⟩
  exact RQ hr W s σ w.H x y v u Q I V U ⟨d,e,_,Z,Y,O,N,M,by simp only[ø];rw[L];exact aD S h _ rfl⟩
 ·exact h.elim
end
end DI
namespace DI
open PySem L2
def bB (r:Option D) (s:af):Res D:=match r with
 |some d=>ok d s
 |none=>none
def eJ (h:Out K Ξ w (bB r w.aG) k):∃d,r=some d/\Out K Ξ w (ok d w.aG) k:=by
 unfold bB at h;split at h
 ·exact⟨_,rfl,h⟩
 ·exact h.elim
noncomputable def lR (xs ys:List D):Bool:=decide (xs.length+ys.length<=Û)
def kN:D->D->Option D
 | .int i,.int j=>some (.int (i+j))
 | .tup Z,.tup Y=>if lR Z Y=true then some (.tup (Z++Y)) else none
 | .lst Z,.lst Y=>if lR Z Y=true then some (.lst (Z++Y)) else none
 | .str x,.str y=>if decide (x.length+y.length<=Û)=true then some (.str (x++y)) else none
 |_,_=>none
def cN (x y:D) (s:af):Res D:=bB (kN (res x s) (res y s)) s
noncomputable def JX:D->D->Option D
 | .int i,.int j=>some (.int (i-j))
 |_,_=>none
def sZ (x y:D) (s:af):Res D:=bB (JX x y) s
noncomputable def tj (i j:Int):Bool:=(decide (-(2 ^ 64)<i)&&decide (i<2 ^ 64))||(decide (-(2 ^ 64)<j)&&decide (j<2 ^ 64))
def BU:D->D->Option D
 | .int i,.int j=>if tj i j=true then some (.int (i*j)) else none
 | .tup Z,.int k=>if (!Z.isEmpty&&decide (1<=k)&&decide (Z.length*k.toNat<=Û))=true then some (.tup (Ï k.toNat Z).flatten) else none
 | .lst Z,.int k=>if (decide (-(2 ^ 63)<=k)&&decide (k<2 ^ 63)&&decide (Z.length*k.toNat<=Û))=true then some (.lst (Ï k.toNat Z).flatten) else none
 |_,_=>none
def iI (x y:D) (s:af):Res D:=bB (BU x y) s
noncomputable def BV:D->D->Option D
 | .int i,.int j=>if decide (0<j)=true then some (.int (i % j)) else none
 |_,_=>none
def kG (x y:D) (s:af):Res D:=bB (BV x y) s
noncomputable def BW:D->D->Option D
 | .int i,.int j=>if (decide (0<j)&&decide (j<1073741824))=true then some (.int (i / j)) else none
 |_,_=>none
def tm (x y:D) (s:af):Res D:=bB (BW x y) s
noncomputable def BX:D->D->Option D
 | .int i,.int j=>if (decide (0<=j)&&decide (j<=1000000)&&decide (i.natAbs<2 ^ 64))=true then some (.int (i ^ j.toNat)) else none
 |_,_=>none
def xg (x y:D) (s:af):Res D:=bB (BX x y) s
noncomputable def JY:D->Option D
 | .int i=>some (.int (-i))
 |_=>none
def tu (x:D) (s:af):Res D:=bB (JY x) s
theorem aj.flat (h:aj K w ds vs):∀n:Nat,aj K w (Ï n ds).flatten (Ï n vs).flatten
 |0=>rfl
 |n+1=>by
  rw[Ŋ,Ŋ,Ŷ,Ŷ];exact aj.append h (aj.flat h n)
def jb (S:aM K w) (h:DV K w d v) (e:res d w.aG=.lst ds):∃a xs,v=.ref a/\w.H a=some (.lst xs)/\aj K w ds xs:=by
 unfold res at e;split at e
 ·rename_i k
  split at e
  ·rename_i V Z
   cases e;obtain⟨a,e1,rfl⟩:=h;obtain⟨xs,Y,X⟩:=S.cell k a _ e1 Z;exact⟨a,xs,rfl,Y,X⟩
  ·cases e
 ·subst e
  simp only[DV] at h;obtain⟨a,xs,e,W,r⟩:=h;exact⟨a,xs,e,W.2,r⟩
def dG (h:res d s=e) (hl:∀ds,e≠.lst ds):d=e:=by
 unfold res at h;split at h
 ·split at h
  ·exact absurd h.symm (hl _)
  ·exact h
 ·exact h
section
variable {X:Cx} {Ξ:Wd->bg->Prop}
def tO (S:aM K w) (ak:aj K w ds vs) (h:Out K Ξ w (ok (D.tup ds) w.aG) λw' d=>∀v,DV K w' d v->Q v w'.H):mT K w.H vs Q:=λa Z e Y =>
 h (w.same Z) (Fw.same e).le (S.same e) rfl (.ref a) ⟨a,vs,rfl,Y,(Fw.same e).le.all ak⟩
def qG {K:Ļ} {w:Wd} {ds:List D} {vs:List V} {Q:VK} (S:aM K w) (ak:aj K w ds vs) (h:Out K Ξ w (ok (D.lst ds) w.aG) λw' d=>∀v,DV K w' d v->Q v w'.H):∀p,w.H p=none->Q (.ref p) (upd w.H p (.lst vs)):=λp Y =>
 h (w.grow p (.lst vs)) (Fw.grow Y).le (S.grow Y) rfl (.ref p) ⟨p,vs,rfl,⟨(show ¬ w.Z p from mF S Y),cU⟩,(Fw.grow Y).le.all ak⟩
def R3 {K:Ļ} {w:Wd} {ds:List D} {vs:List V} {Q:VK} (S:aM K w) (ak:aj K w ds vs) (h:Out K Ξ w (ok (D.tup ds) w.aG) λw' d=>∀v,DV K w' d v->Q v w'.H):∀p,w.H p=none->Q (.ref p) (upd w.H p (.tup vs)):=λp Z =>
 h (w.grow p (.tup vs)) (Fw.grow Z).le (S.grow Z) rfl (.ref p) ⟨p,vs,rfl,aX.of cU,(Fw.grow Z).le.all ak⟩
def gL:bh X (Ō .Add) (rO X.K Ξ cN):=by
 rintro T s σ H x y v u Q I R P ⟨w,J,G,rfl,S,Z,Y,h⟩;obtain⟨d,e,h⟩:=eJ h;unfold kN at e;split at e
 ·rename_i i j e1 e2
  rw[dG e1 (by intro _ z;cases z)] at Z;rw[dG e2 (by intro _ z;cases z)] at Y;cases e;cases Z;cases Y;exact Rv T s σ w.H _ _ v u Q I R P ⟨i,j,rfl,rfl,aD S h _ rfl⟩
 ·rename_i M L e1 e2
  rw[dG e1 (by intro _ z;cases z)] at Z;rw[dG e2 (by intro _ z;cases z)] at Y;split at e
  ·rename_i W
   cases e;simp only[DV] at Z Y;obtain⟨a,as,rfl,O,V⟩:=Z;obtain⟨b,bs,rfl,N,U⟩:=Y;exact P2 T s σ w.H _ _ v u Q I R P ⟨a,b,as,bs,rfl,rfl,O,N,by rw[<- V.length,<- U.length];exact Ė W,tO S (V.append U) h⟩
  ·cases e
 ·rename_i M L e1 e2
  split at e
  ·rename_i W
   cases e;obtain⟨a,as,rfl,O,V⟩:=jb S Z e1;obtain⟨b,bs,rfl,N,U⟩:=jb S Y e2;exact RL T s σ w.H _ _ v u Q I R P ⟨a,b,as,bs,rfl,rfl,O,N,by rw[<- V.length,<- U.length];exact Ė W,qG S (V.append U) h⟩
  ·cases e
 ·rename_i i j e1 e2
  rw[dG e1 (by intro _ z;cases z)] at Z;rw[dG e2 (by intro _ z;cases z)] at Y;split at e
  ·rename_i W
   cases e;cases Z;cases Y;exact Mv T s σ w.H _ _ v u Q I R P ⟨i,j,rfl,rfl,Ė W,aD S h _ rfl⟩
  ·cases e
 ·cases e
def Ja:bh X (Ō .Sub) (rO X.K Ξ sZ):=by
 rintro Z s σ H x y v u Q I Y W ⟨w,T,R,rfl,S,V,U,h⟩;obtain⟨d,e,h⟩:=eJ h;unfold JX at e;split at e
 ·rename_i i j
  cases e;cases V;cases U;exact Rw Z s σ w.H _ _ v u Q I Y W ⟨i,j,rfl,rfl,aD S h _ rfl⟩
 ·cases e
def tw:bh X (Ō .Mult) (rO X.K Ξ iI):=by
 rintro V s σ H x y v u Q I U T ⟨w,M,L,rfl,S,Y,R,h⟩;obtain⟨d,e,h⟩:=eJ h;unfold BU at e;split at e
 ·rename_i i j
  split at e
  ·rename_i Z
   cases e;cases Y;cases R;refine Rx V s σ w.H _ _ v u Q I U T ⟨i,j,rfl,rfl,?_,aD S h _ rfl⟩;unfold xw;simpa [tj] using Z
  ·cases e
 ·rename_i O k
  split at e
  ·rename_i Z
   cases e;cases R;simp only[È,Å] at Z;simp only[DV] at Y;obtain⟨a,as,rfl,P,W⟩:=Y;have N:=W.length;refine Qg V s σ w.H _ _ v u Q I U T ⟨a,as,k,rfl,rfl,P,?_,Z.1.2,by rw[<- N];exact Z.2,tO S (W.flat _) h⟩;intro z;subst z
   cases O with
   |nil=>simp at Z
   |cons _ _=>cases N
  ·cases e
 ·rename_i O k
  split at e
  ·rename_i Z
   cases e;cases R;simp only[È,Å] at Z;simp only[DV] at Y;obtain⟨a,as,rfl,P,W⟩:=Y;exact RM V s σ w.H _ _ v u Q I U T ⟨a,k,as,rfl,rfl,P.2,Z.1.1,Z.1.2,by rw[<- W.length];exact Z.2,qG S (W.flat _) h⟩
  ·cases e
 ·cases e
def oo:bh X (Ō .Mod) (rO X.K Ξ kG):=by
 rintro Z s σ H x y v u Q I Y W ⟨w,R,P,rfl,S,V,U,h⟩;obtain⟨d,e,h⟩:=eJ h;unfold BV at e;split at e
 ·rename_i i j
  split at e
  ·rename_i T
   cases e;cases V;cases U;exact Ry Z s σ w.H _ _ v u Q I Y W ⟨i,j,rfl,rfl,Ė T,aD S h _ rfl⟩
  ·cases e
 ·cases e
def Jb:bh X (Ō .FloorDiv) (rO X.K Ξ tm):=by
 rintro Y s σ H x y v u Q I W V ⟨w,R,P,rfl,S,U,T,h⟩;obtain⟨d,e,h⟩:=eJ h;unfold BW at e;split at e
 ·rename_i i j
  split at e
  ·rename_i Z
   simp only[È,Å] at Z;cases e;cases U;cases T;exact PJ Y s σ w.H _ _ v u Q I W V ⟨i,j,rfl,rfl,Z,aD S h _ rfl⟩
  ·cases e
 ·cases e
def TV:bh X (Ō .Pow) (rO X.K Ξ xg):=by
 rintro Y s σ H x y v u Q I W V ⟨w,R,P,rfl,S,U,T,h⟩;obtain⟨d,e,h⟩:=eJ h;unfold BX at e;split at e
 ·rename_i i j
  split at e
  ·rename_i Z
   simp only[È,Å] at Z;cases e;cases U;cases T;exact Rz Y s σ w.H _ _ v u Q I W V ⟨i,j,rfl,rfl,⟨Z.1.1,Z.1.2,Z.2⟩,aD S h _ rfl⟩
  ·cases e
 ·cases e
def Jc:uG X (unaryOp .USub) (rU X.K Ξ tu):=by
 rintro Z s σ H x v Q I Y ⟨w,V,rfl,S,W,h⟩;obtain⟨d,e,h⟩:=eJ h;unfold JY at e;split at e
 ·rename_i i
  cases e;cases W;exact RA Z s σ w.H _ v Q I Y ⟨i,rfl,aD S h _ rfl⟩
 ·cases e
noncomputable def qH (p:Int->Int->Bool):D->D->Option D
 | .int i,.int j=>some (.bl (p i j))
 |_,_=>none
def tV (x y:D) (s:af):Res D:=bB (qH (λi j=>decide (i<=j)) x y) s
def tW (x y:D) (s:af):Res D:=bB (qH (λi j=>decide (j<i)) x y) s
def xI (x y:D) (s:af):Res D:=bB (qH (λi j=>decide (j<=i)) x y) s
def JZ:bh X (ĭ .LtE) (rO X.K Ξ tV):=by
 rintro Z s σ H x y v u Q I Y W ⟨w,T,R,rfl,S,V,U,h⟩;obtain⟨d,e,h⟩:=eJ h;unfold qH at e;split at e
 ·rename_i i j
  cases e;cases V;cases U;exact Th Z s σ w.H _ _ v u Q I Y W ⟨i,j,rfl,rfl,aD S h _ rfl⟩
 ·cases e
def J0:bh X (ĭ .Gt) (rO X.K Ξ tW):=by
 rintro Z s σ H x y v u Q I Y W ⟨w,T,R,rfl,S,V,U,h⟩;obtain⟨d,e,h⟩:=eJ h;unfold qH at e;split at e
 ·rename_i i j
  cases e;cases V;cases U;exact Ti Z s σ w.H _ _ v u Q I Y W ⟨i,j,rfl,rfl,aD S h _ rfl⟩
 ·cases e
def Vj:bh X (ĭ .GtE) (rO X.K Ξ xI):=by
 rintro Z s σ H x y v u Q I Y W ⟨w,T,R,rfl,S,V,U,h⟩;obtain⟨d,e,h⟩:=eJ h;unfold qH at e;split at e
 ·rename_i i j
  cases e;cases V;cases U;exact Tj Z s σ w.H _ _ v u Q I Y W ⟨i,j,rfl,rfl,aD S h _ rfl⟩
 ·cases e
def j8 (d i:D) (s:af):Option D:=match res d s,i with
 | .lst Z,.int i=>dS Z i
 | .tup Z,.int i=>dS Z i
 | .aZ Y,.int i=>(dS Y i).map D.int
 | .str x,.int i=>if decide (x.length<=Û)=true then (dS x.cps.toList i).map λc=>.str ⟨#[c]⟩ else none
 |_,_=>none
def aI (x y:D) (s:af):Res D:=bB (j8 x y s) s
theorem aj.at (h:aj K w ds vs) (e:dS ds i=some d):∃v,dS vs i=some v/\DV K w d v:=by
 unfold dS at e |-;rw[h.length] at e
 cases hi:fL vs.length i with
 |none=>rw[hi] at e;cases e
 |some j =>
  rw[hi] at e;exact h.get' j d e
def Vk:uM X (rO X.K Ξ aI):=by
 rintro value slice T s σ H x y v u Q I R P ⟨w,B,A,rfl,S,Z,O,h⟩ hs;obtain⟨d,e,N⟩:=eJ h;clear h;unfold j8 at e;split at e
 ·rename_i D i e1
  cases O;obtain⟨a,M,rfl,W,L⟩:=jb S Z e1;obtain⟨z,J,G⟩:=L.at e;exact GP value slice T s σ w.H _ _ v u Q I R P ⟨a,M,i,z,rfl,rfl,bo.of W,J,aD S N _ G⟩ hs
 ·rename_i D i e1
  cases O;rw[dG e1 (by intro _ z;cases z)] at Z;simp only[DV] at Z;obtain⟨a,M,rfl,W,L⟩:=Z;obtain⟨z,J,G⟩:=L.at e;exact RG value slice T s σ w.H _ _ v u Q I R P ⟨a,M,i,z,rfl,rfl,W,J,aD S N _ G⟩ hs
 ·rename_i U i e1
  cases O;rw[dG e1 (by intro _ z;cases z)] at Z;simp only[DV] at Z;obtain⟨a,rfl,W⟩:=Z
  cases Y:dS U i with
  |none=>rw[Y] at e;cases e
  |some n =>
   rw[Y] at e;cases e;refine GP value slice T s σ w.H _ _ v u Q I R P ⟨a,U.map V.int,i,.int n,rfl,rfl,W.sq,?_,aD S N _ rfl⟩ hs;unfold dS at Y |-;rw[Ä]
   cases E:fL U.length i with
   |none=>rw[E] at Y;cases Y
   |some j =>
    rw[E] at Y;show (U.map V.int)[j]?=some (.int n);rw[Ü,show U[j]?=some n from Y];rfl
 ·rename_i z i e1
  cases O;rw[dG e1 (by intro _ z;cases z)] at Z;cases Z;split at e
  ·rename_i C
   cases F:dS z.cps.toList i with
   |none=>rw[F] at e;cases e
   |some c =>
    rw[F] at e;cases e;exact RH value slice T s σ w.H _ _ v u Q I R P ⟨z,i,c,rfl,rfl,Ė C,F,aD S N _ rfl⟩ hs
  ·cases e
 ·cases e
def bF (ha:PE X a (tE X.K Ξ f)) (hb:PE X b (tE X.K Ξ g)) (hs:GO b:=by intro _ _;rfl):PE X (.Subscript a b pos) (tE X.K Ξ (e2 aI f g)):=cF (Tu Vk ha hb hs) wb
def xJ (d:D) (s:af):Option D:=match res d s with
 | .lst Z=>some (.int Z.length)
 | .tup Z=>some (.int Z.length)
 | .aZ Y=>some (.int Y.length)
 | .str x=>if decide (x.length<=Û)=true then some (.int x.length) else none
 |_=>none
def ix (ds:List D) (s:af):Res D:=match ds with
 | [d]=>bB (xJ d s) s
 |_=>none
def nY (h:aj K w [d] vs):∃v,vs=[v]/\DV K w d v:=by
 obtain⟨v,r,rfl,Z,dr⟩:=h;have e:r=[]:=dr;subst e;exact⟨v,rfl,Z⟩
def sI (h:aj K w [d,e] vs):∃v u,vs=[v,u]/\DV K w d v/\DV K w e u:=by
 obtain⟨v,r,rfl,Z,h⟩:=h;obtain⟨u,rfl,Y⟩:=nY h;exact⟨v,u,rfl,Z,Y⟩
def qp:bP X (.builtin "len") (rC X.K Ξ ix):=by
 rintro U s σ H T R Q I r ⟨w,M,rfl,S,Y,h⟩;unfold ix at h;split at h
 ·obtain⟨v,rfl,Z⟩:=nY Y
  obtain⟨d,e,h⟩:=eJ h;unfold xJ at e;split at e
  ·rename_i P e1
   cases e;obtain⟨a,T,rfl,W,Y⟩:=jb S Z e1;exact yB U s σ w.H _ R Q I r ⟨a,T,rfl,.inl (bo.of W),by rw[<- Y.length];exact aD S h _ rfl⟩
  ·rename_i P e1
   cases e;rw[dG e1 (by intro _ z;cases z)] at Z;simp only[DV] at Z;obtain⟨a,T,rfl,W,Y⟩:=Z;exact yB U s σ w.H _ R Q I r ⟨a,T,rfl,.inr W,by rw[<- Y.length];exact aD S h _ rfl⟩
  ·rename_i O e1
   cases e;rw[dG e1 (by intro _ z;cases z)] at Z;simp only[DV] at Z;obtain⟨a,rfl,W⟩:=Z;exact yB U s σ w.H _ R Q I r ⟨a,O.map V.int,rfl,.inl W.sq,by rw[Ä];exact aD S h _ rfl⟩
  ·rename_i z e1
   rw[dG e1 (by intro _ z;cases z)] at Z;cases Z;split at e
   ·rename_i N
    cases e;exact LK U s σ w.H _ R Q I r ⟨z,rfl,Ė N,aD S h _ rfl⟩
   ·cases e
  ·cases e
 ·exact h.elim
noncomputable def hU:List D->Option (List Bool)
 | []=>some []
 | .bl b::Z=>(hU Z).map λr=>b::r
 |_::_=>none
theorem Ax:∀{ds:List D} {bs:List Bool},hU ds=some bs->ds=bs.map D.bl
 | [],bs,h=>by cases h;rfl
 | .bl b::ds,bs,h=>by
  simp only[hU] at h
  cases Z:hU ds with
  |none=>rw[Z] at h;cases h
  |some r=>rw[Z] at h;cases h;rw[Ax Z];rfl
 | .au::_,_,h=>by cases h
 | .int _::_,_,h=>by cases h
 | .str _::_,_,h=>by cases h
 | .tup _::_,_,h=>by cases h
 | .lst _::_,_,h=>by cases h
 | .bw _::_,_,h=>by cases h
 | .ao _::_,_,h=>by cases h
 | .ty _::_,_,h=>by cases h
 | .aZ _::_,_,h=>by cases h
 | .exc _ _::_,_,h=>by cases h
 | .cC _ _ _::_,_,h=>by cases h
def Qn:hU (bs.map D.bl)=some bs:=by
 induction bs with
 |nil=>rfl
 |cons b bs ih=>simp only[Þ,hU,ih,ŷ]
def qI (ds:List D) (s:af):Res D:=match ds with
 | [d]=>match res d s with
  | .lst Z=>bB ((hU Z).map λbs=>.bl (bs.all id)) s
  |_=>none
 |_=>none
def qJ (ds:List D) (s:af):Res D:=match ds with
 | [d]=>match res d s with
  | .lst Z=>bB ((hU Z).map λbs=>.bl (bs.any id)) s
  |_=>none
 |_=>none
def A3 (hc:X.calm=true):bP X (.builtin "all") (rC X.K Ξ qI):=by
 rintro V s σ H U T Q I r ⟨w,O,rfl,S,Z,h⟩;unfold qI at h;split at h
 ·obtain⟨v,rfl,R⟩:=nY Z
  split at h
  ·rename_i P e1
   obtain⟨d,e,h⟩:=eJ h
   cases Y:hU P with
   |none=>rw[Y] at e;cases e
   |some bs =>
    rw[Y] at e;cases e;obtain⟨a,U,rfl,W,Z⟩:=jb S R e1;rw[Ax Y] at Z;rw[Z.zS] at W;exact Oi hc V s σ w.H _ T Q I r ⟨a,bs,rfl,bo.of W,aD S h _ rfl⟩
  ·exact h.elim
 ·exact h.elim
def Jd (hc:X.calm=true):bP X (.builtin "any") (rC X.K Ξ qJ):=by
 rintro V s σ H U T Q I r ⟨w,O,rfl,S,Z,h⟩;unfold qJ at h;split at h
 ·obtain⟨v,rfl,R⟩:=nY Z
  split at h
  ·rename_i P e1
   obtain⟨d,e,h⟩:=eJ h
   cases Y:hU P with
   |none=>rw[Y] at e;cases e
   |some bs =>
    rw[Y] at e;cases e;obtain⟨a,U,rfl,W,Z⟩:=jb S R e1;rw[Ax Y] at Z;rw[Z.zS] at W;exact Oj hc V s σ w.H _ T Q I r ⟨a,bs,rfl,bo.of W,aD S h _ rfl⟩
  ·exact h.elim
 ·exact h.elim
def qr (ds:List D) (s:af):Res D:=match ds with
 | [.int i,.int j]=>ok (.int (if j > i then j else i)) s
 |_=>none
def xh (ds:List D) (s:af):Res D:=match ds with
 | [.int i,.int j]=>ok (.int (if j<i then j else i)) s
 |_=>none
def HU (hc:X.calm=true):bP X (.builtin "max") (rC X.K Ξ qr):=by
 rintro Z s σ H T Y Q I r ⟨w,R,rfl,S,W,h⟩;unfold qr at h;split at h
 ·rename_i i j
  obtain⟨v,u,rfl,V,U⟩:=sI W;cases V;cases U;exact Nc hc Z s σ w.H _ Y Q I r ⟨i,j,rfl,aD S h _ rfl⟩
 ·exact h.elim
def R4 (hc:X.calm=true):bP X (.builtin "min") (rC X.K Ξ xh):=by
 rintro Z s σ H T Y Q I r ⟨w,R,rfl,S,W,h⟩;unfold xh at h;split at h
 ·rename_i i j
  obtain⟨v,u,rfl,V,U⟩:=sI W;cases V;cases U;exact Nd hc Z s σ w.H _ Y Q I r ⟨i,j,rfl,aD S h _ rfl⟩
 ·exact h.elim
def dw (ds:List D) (s:af):Res D:=match ds with
 | [d]=>match res d s with
  | .lst Z=>ok (.tup Z) s
  | .tup Z=>ok (.tup Z) s
  |_=>none
 |_=>none
def ku:bP X (.type "tuple") (rC X.K Ξ dw):=by
 rintro U s σ H Y T Q I r ⟨w,O,rfl,S,W,h⟩;unfold dw at h;split at h
 ·obtain⟨v,rfl,Z⟩:=nY W
  split at h
  ·rename_i R e1
   obtain⟨a,Y,rfl,V,W⟩:=jb S Z e1;exact Eo U s σ w.H _ T Q I r ⟨a,Y,rfl,.inl ⟨bo.of V,R3 S W h⟩⟩
  ·rename_i R e1
   rw[dG e1 (by intro _ z;cases z)] at Z;have P:=Z;simp only[DV] at Z;obtain⟨a,Y,rfl,V,W⟩:=Z;exact Eo U s σ w.H _ T Q I r ⟨a,Y,rfl,.inr ⟨V,aD S h _ P⟩⟩
  ·exact h.elim
 ·exact h.elim
def xi (ds:List D) (s:af):Res D:=match ds with
 | [d]=>match res d s with
  | .lst Z=>ok (.lst Z) s
  | .tup Z=>ok (.lst Z) s
  |_=>none
 |_=>none
def R5:bP X (.type "list") (rC X.K Ξ xi):=by
 rintro U s σ H Y T Q I r ⟨w,P,rfl,S,Z,h⟩;unfold xi at h;split at h
 ·obtain⟨v,rfl,W⟩:=nY Z
  split at h
  ·rename_i R e1
   obtain⟨a,Y,rfl,V,Z⟩:=jb S W e1;exact Er U s σ w.H _ T Q I r ⟨a,Y,rfl,.inl (bo.of V),qG S Z h⟩
  ·rename_i R e1
   rw[dG e1 (by intro _ z;cases z)] at W;simp only[DV] at W;obtain⟨a,Y,rfl,V,Z⟩:=W;exact Er U s σ w.H _ T Q I r ⟨a,Y,rfl,.inr V,qG S Z h⟩
  ·exact h.elim
 ·exact h.elim
end
def qt (n:Nat) (x:D) (ds:List D):Bool:=lay x&&cJ ds&&decide (dep x<=n)
def inD (x:D) (ds:List D):Option Bool:=if qt 100 x ds=true then some (ds.any λy=>beq y x) else none
def oq (d:D) (s:af):Option (List D):=match res d s with
 | .lst Z=>some Z
 | .tup Z=>some Z
 |_=>none
def eV (x y:D) (s:af):Res D:=match oq y s with
 |some Z=>bB ((inD x Z).map D.bl) s
 |none=>none
def dH (x y:D) (s:af):Res D:=match oq y s with
 |some Z=>bB ((inD x Z).map λb=>D.bl (!b)) s
 |none=>none
def F5 (S:aM K w) (h:DV K w d v) (e:oq d w.aG=some ds):∃a xs,v=.ref a/\(w.H a=some (.lst xs)\/aX K w.H a xs)/\aj K w ds xs:=by
 unfold oq at e;split at e
 ·rename_i X e1
  cases e;obtain⟨a,xs,rfl,Z,Y⟩:=jb S h e1;exact⟨a,xs,rfl,.inl Z,Y⟩
 ·rename_i X e1
  cases e;rw[dG e1 (by intro _ z;cases z)] at h;simp only[DV] at h;obtain⟨a,xs,rfl,Z,Y⟩:=h;exact⟨a,xs,rfl,.inr Z,Y⟩
 ·cases e
section
variable {X:Cx} {Ξ:Wd->bg->Prop} {π:List (à×Obj)} {σ:St} {s:Æ}
theorem Ay (lx:lay x=true):∀{ds:List D},cJ ds=true->((bT ds).any λy=>İ y (py x))=ds.any λy=>beq y x
 | [],_=>rfl
 |d::ds,h=>by
  simp only[cJ,È] at h;simp only[bT,List.any_cons,qc d x h.1 lx,Ay lx h.2]
def HV (h:inD x ds=some b):lay x=true/\cJ ds=true/\dep x<=100/\(ds.any λy=>beq y x)=b:=by
 unfold inD qt at h;split at h
 ·rename_i Z
  simp only[È,Å] at Z;exact⟨Z.1.1,Z.1.2,Z.2,aam h⟩
 ·cases h
def jQ (hr:bY k X.A):bh X (ĭ .In) (rO X.K Ξ eV):=by
 rintro π s σ H x y v u Q I J T ⟨w,W,B,rfl,S,G,F,h⟩;unfold eV at h;split at h
 ·rename_i Z E
  obtain⟨d,e,h⟩:=eJ h
  cases V:inD W Z with
  |none=>rw[V] at e;cases e
  |some b =>
   rw[V] at e;cases e;obtain⟨U,Y,z,D⟩:=HV V;obtain⟨R,C⟩:=jE _ U;obtain⟨P,t⟩:=rM _ Y;obtain⟨bs,O⟩:=(G.py (nL _ U)).reads I J;have N:X.A.units+1+min (Yx (bT Z)) (py W).depth<Zh:=by
    have:=hr.un;rw[C];omega
   obtain⟨a,M,rfl,ha,L⟩:=F5 S F E;have fin:EP X π σ Q (.bool ((bT Z).any λy=>İ y (py W))) s:=⟨.bl b,w.H,I,by rw[Ay U Y,D];rfl,aD S h _ rfl⟩
   rcases ha with ha|ha
   ·obtain⟨cs,rc⟩:=(show L2.DV X.K (λ_=>False) w.H (.list (bT Z)) (.ref a) by simp only[L2.DV];exact⟨a,M,rfl,not_false,ha,L.py (nI _ Y)⟩).reads I T
    exact SeqAt.in_list_reads rc O P R N fin
   ·obtain⟨cs,rc⟩:=(show L2.DV X.K (λ_=>False) w.H (.tuple (bT Z)) (.ref a) by simp only[L2.DV];exact⟨a,M,rfl,ha,L.py (nI _ Y)⟩).reads I T
    exact SeqAt.in_tuple_reads rc O P R N fin
 ·exact h.elim
def lA (hr:bY k X.A):bh X (ĭ .NotIn) (rO X.K Ξ dH):=by
 rintro π s σ H x y v u Q I J T ⟨w,W,B,rfl,S,G,F,h⟩;unfold dH at h;split at h
 ·rename_i Z E
  obtain⟨d,e,h⟩:=eJ h
  cases V:inD W Z with
  |none=>rw[V] at e;cases e
  |some b =>
   rw[V] at e;cases e;obtain⟨U,Y,z,D⟩:=HV V;obtain⟨R,C⟩:=jE _ U;obtain⟨P,t⟩:=rM _ Y;obtain⟨bs,O⟩:=(G.py (nL _ U)).reads I J;have N:X.A.units+1+min (Yx (bT Z)) (py W).depth<Zh:=by
    have:=hr.un;rw[C];omega
   obtain⟨a,M,rfl,ha,L⟩:=F5 S F E;have fin:EP X π σ Q (.bool (!(bT Z).any λy=>İ y (py W))) s:=⟨.bl (!b),w.H,I,by rw[Ay U Y,D];rfl,aD S h _ rfl⟩
   rcases ha with ha|ha
   ·obtain⟨cs,rc⟩:=(show L2.DV X.K (λ_=>False) w.H (.list (bT Z)) (.ref a) by simp only[L2.DV];exact⟨a,M,rfl,not_false,ha,L.py (nI _ Y)⟩).reads I T
    exact SeqAt.notIn_list_reads rc O P R N fin
   ·obtain⟨cs,rc⟩:=(show L2.DV X.K (λ_=>False) w.H (.tuple (bT Z)) (.ref a) by simp only[L2.DV];exact⟨a,M,rfl,ha,L.py (nI _ Y)⟩).reads I T
    exact SeqAt.notIn_tuple_reads rc O P R N fin
 ·exact h.elim
def tP (K:Ļ) (Ξ:Wd->bg->Prop) (f:aah (Option Int)):TO:=fun σ H Q=>∃w env,w.H=H/\aM K w/\bK K w env σ/\Out K Ξ w (f env w.aG) λZ i=>Q i Z.H
def oX:aah (Option Int):=λ_ s=>ok none s
def oA (f:aah D):aah (Option Int):=λenv s=>aq (f env s) λd s=>match d with
 | .int i=>ok (some i) s
 |_=>none
variable {e a b:ņ} {lo hi:Option ņ} {pos p2 p3 p4:Pos} {f g:aah D}
def HW (h:PO X lo t) (i:∀ σ H Q,t' σ H Q->t σ H Q):PO X lo t':=λπ s σ H Q I Z=>h π s σ H Q I (i σ H Q Z)
def J1:PO X none (tP X.K Ξ oX):=HW PU fun σ H Q Z=>by
 obtain⟨w,env,Y,S,W,h⟩:=Z;subst Y;exact aD S h
def Je (he:PE X e (tE X.K Ξ f)):PO X (some e) (tP X.K Ξ (oA f)):=HW (PV he) fun σ H Q Y=>by
 obtain⟨w,env,W,S,V,h⟩:=Y;subst W;refine⟨w,env,rfl,S,V,(Out.aq h).mono λR d P U Z v T=>?_⟩
 cases d with
 |int i=>exact⟨i,T,aD U Z⟩
 |_=>exact Z.elim
noncomputable def cutD (xs:List D) (lo hi:Option Int):List D:=(xs.drop (HT.aN xs.length 0 lo)).take (HT.aN xs.length xs.length hi-HT.aN xs.length 0 lo)
def nZ (d:D) (lo hi:Option Int) (s:af):Res D:=match res d s with
 | .tup Z=>ok (.tup (cutD Z lo hi)) s
 | .lst Z=>ok (.lst (cutD Z lo hi)) s
 |_=>none
def oY (f:aah D) (l h:aah (Option Int)):aah D:=λenv s=>aq (f env s) λd s=>aq (l env s) λlo s=>aq (h env s) λhi s=>nZ d lo hi s
def Wb (K:Ļ) (Ξ:Wd->bg->Prop):V->Option Int->Option Int->Hp->VK->Prop:=λx lo hi H Q=>∃w Z,w.H=H/\aM K w/\DV K w Z x/\Out K Ξ w (nZ Z lo hi w.aG) λY d=>∀v,DV K Y d v->Q v Y.H
def R6:uL X (Wb X.K Ξ):=by
 rintro π s σ H x v U T lo hi R Q I P hs O pu ⟨w,M,rfl,S,Y,h⟩;unfold nZ at h;split at h
 ·rename_i N e1
  rw[dG e1 (by intro _ z;cases z)] at Y;simp only[DV] at Y;obtain⟨a,W,rfl,V,Z⟩:=Y;refine P1 π s σ w.H _ v U T lo hi R Q I P hs O pu ⟨a,W,rfl,V,tO S ?_ h⟩;unfold cutD jO;rw[Z.length];exact(Z.drop _).take _
 ·rename_i N e1
  obtain⟨a,W,rfl,V,Z⟩:=jb S Y e1;refine PY π s σ w.H _ v U T lo hi R Q I P hs O pu ⟨a,W,rfl,bo.of V,qG S ?_ h⟩;unfold cutD jO;rw[Z.length];exact(Z.drop _).take _
 ·exact h.elim
def J2 (he:PE X e (tE X.K Ξ f)) (hl:PO X lo (tP X.K Ξ fl)) (hu:PO X hi (tP X.K Ξ fh)):PE X (.Subscript e (.Slice lo hi none p2) pos) (tE X.K Ξ (oY f fl fh)) :=
 cF (Of R6 he hl hu) fun σ H Q V=>by
  obtain⟨w,env,U,S,Z,h⟩:=V;subst U;exact⟨w,env,rfl,S,Z,(Out.aq h).mono λT d Y R P v O=>⟨T,env,rfl,R,Z.le Y,(Out.aq P).mono λN i W M L=>⟨N,env,rfl,M,Z.le (Y.trans W),(Out.aq L).mono λJ j I G F=>⟨J,d,rfl,G,(W.trans I) _ _ O,F⟩⟩⟩⟩
def iy (d x:D) (s:af):Res D:=match d with
 | .ao k=>match s[k]? with
  |some (.lst Z)=>if decide (Z.length<Û)=true then ok .au (s.set k (.lst (Z++[x]))) else none
  |_=>none
 |_=>none
def iL (d:D) (s:af):Bool:=match d with
 | .ao k=>match s[k]? with
  |some (.lst _)=>true
  |_=>false
 |_=>false
def gB (f g:aah D):aah D:=λenv s=>aq (f env s) λd s=>if iL d s=true then aq (g env s) λx s=>iy d x s else none
def Qo (S:aM K w) (dv:DV K w d v) (h:iL d w.aG=true):∃k a ds xs,d=.ao k/\v=.ref a/\w.ρ[k]?=some a/\w.aG[k]?=some (.lst ds)/\w.H a=some (.lst xs)/\aj K w ds xs:=by
 unfold iL at h;split at h
 ·rename_i k
  split at h
  ·rename_i ds Z
   obtain⟨a,e1,rfl⟩:=dv;obtain⟨xs,Y,X⟩:=S.cell k a _ e1 Z;exact⟨k,a,ds,xs,rfl,rfl,e1,Z,Y,X⟩
  ·cases h
 ·cases h
def R7 (S:aM K w) (dv:DV K w d v) (du:DV K w y u) (h:Out K Ξ w (iy d y w.aG) q):∃a xs,v=.ref a/\w.H a=some (.lst xs)/\xs.length<Û/\∃w',w'.H=upd w.H a (.lst (xs++[u]))/\q w' .au:=by
 unfold iy at h;split at h
 ·rename_i k
  split at h
  ·rename_i Z Y
   split at h
   ·rename_i V
    obtain⟨a,e1,rfl⟩:=dv;obtain⟨xs,U,X⟩:=S.cell k a _ e1 Y;have W:(Cell.lst Z)≠.dead:=by intro z;cases z
    have le:=(Fw.put (K:=K) (o:=.lst (xs++[u])) (c:=.lst (Z++[y])) S e1 Y W).le;refine⟨a,xs,rfl,U,by rw[<- X.length];exact Ė V,w.put k a (.lst (xs++[u])) (.lst (Z++[y])),rfl,?_⟩;exact h _ le (S.BO e1 Y W ⟨_,cU,le.all (X.append (aj.one du))⟩) rfl
   ·exact h.elim
  ·exact h.elim
 ·exact h.elim
def qu {o:ņ} {apos cY:Pos} (ho:PE X o (tE X.K Ξ f)) (ha:PE X a (tE X.K Ξ g))
  (AX:attributeBase o "append" X.env (Ž o X.env)=Ž o X.env:=by rfl)
  (BC:((Yt cY (Ý [a] X.env)).all (λx=>!x.1)&&(backToKw cY (keywordEach [] X.env)).all (λx=>x.1.isSome)
   && decide (([a]:List ņ).length+([]:List Keyword).length+(if ([]:List Keyword).isEmpty then 0 else 1)<30))=true:=by rfl)
  (AY:(apos.endLine==cY.line)=true:=by rfl) (hs:Ý [a] X.env=(false,Ž a X.env)::Ý [] X.env:=by rfl) (Au:(Yt cY (Ý [] X.env)).any (·.1)=false:=by rfl) :
  PE X (.Call (.Attribute o "append" apos) [a] [] cY) (tE X.K Ξ (gB f g)) :=
 cF (Tw PySem.F.plainAttrs_list PySem.F.slot_list_append PySem.F.type_list_append Ng ho (mx ha mE hs) AX BC AY hs Au) fun σ H Q T=>by
  obtain⟨w,env,Z,S,W,h⟩:=T;subst Z;refine⟨w,env,rfl,S,W,(Out.aq h).mono λR d P V Y v U=>?_⟩;split at Y
  ·rename_i O
   obtain⟨k,p,t,N,rfl,rfl,e1,e2,M,s⟩:=Qo V U O;refine⟨.inl ⟨rfl,N,bo.of M⟩,R,env,rfl,V,W.le P,(Out.aq Y).mono λr y L J I u G=>?_⟩;obtain⟨E,D,C,B,A,q,Z,z⟩:=R7 J (L _ _ U) G I;refine⟨E,D,u,C,rfl,B,A,?_⟩;rw[<- Z];exact z _ rfl
  ·exact Y.elim
def iM (d i x:D) (s:af):Option af:=match d,i with
 | .ao k,.int n=>match s[k]? with
  |some (.lst Z)=>(fL Z.length n).map λj=>s.set k (.lst (Z.set j x))
  |_=>none
 |_,_=>none
def mU (f o i:aah D):aah Fl:=λenv s=>aq (f env s) λx s=>aq (o env s) λd s=>aq (i env s) λn s=>match iM d n x s with
 |some Z=>ok (.nx env) Z
 |none=>none
def R8 (S:aM K w) (dv:DV K w d v) (dn:DV K w i n) (du:DV K w x u) (h:iM d i x w.aG=some s'):∃a xs k j,v=.ref a/\n=.int k/\w.H a=some (.lst xs)/\fL xs.length k=some j/\∃w',w'.H=upd w.H a (.lst (xs.set j u))/\w'.aG=s'/\Le K w w'/\aM K w':=by
 unfold iM at h;split at h
 ·rename_i k m
  split at h
  ·rename_i Z Y
   cases X:fL Z.length m with
   |none=>rw[X] at h;cases h
   |some j =>
    rw[X] at h;cases h;obtain⟨a,e1,rfl⟩:=dv;obtain⟨xs,U,W⟩:=S.cell k a _ e1 Y;have V:(Cell.lst Z)≠.dead:=by intro z;cases z
    have le:=(Fw.put (K:=K) (o:=.lst (xs.set j u)) (c:=.lst (Z.set j x)) S e1 Y V).le;exact⟨a,xs,m,j,rfl,dn,U,by rw[<- W.length];exact X,w.put k a (.lst (xs.set j u)) (.lst (Z.set j x)),rfl,rfl,le,S.BO e1 Y V ⟨_,cU,le.all (W.set du j)⟩⟩
  ·cases h
 ·cases h
def A4 (he:PE X e (tE X.K Ξ f)) (ho:PE X o (tE X.K Ξ fo)) (hi:PE X i (tE X.K Ξ fi))
 (ha:∀v,ZO (.Subscript o i gR) X.env v=(do
   let ov <- Zc [v] (Ž o X.env)
   let iv <- Zc [v,ov] (Ž i X.env)
   ZZ gR
   Zc [v,ov,iv] (setItem ov iv v)
   release [v,ov,iv] []):=by intro _;rfl)
 (hs:ε [.Subscript o i gR] e pos.line X.env=pure false:=by rfl) (hw:ζ [.Subscript o i gR] e X.env=pure none:=by rfl)
 (h1:(š [.Subscript o i gR] X.env).map (·.2)=[ZO (.Subscript o i gR) X.env]:=by rfl):PS X (.Assign [.Subscript o i gR] e pos) (tS X.K Ξ (mU f fo fi)) :=
 jD (As he (HD ho hi set_list ha) hs hw h1) λt σ H Q=>by
  obtain⟨w,env,W,S,Z,h⟩:=Q;subst W;refine⟨w,env,rfl,S,Z,(Out.aq h).mono λP x V O h1 u N=>?_⟩;refine⟨P,env,rfl,O,Z.le V,(Out.aq h1).mono λM d U L J v I=>?_⟩;refine⟨M,env,rfl,L,Z.le (V.trans U),(Out.aq J).mono λG n T F Y m E=>?_⟩
  cases R:iM d n x G.aG with
  |none=>rw[R] at Y;exact Y.elim
  |some s =>
   rw[R] at Y;obtain⟨a,D,k,j,e1,e2,C,B,A,W,z,le,y⟩:=R8 F (T _ _ I) E ((U.trans T) _ _ N) R;refine⟨a,D,k,j,e1,e2,C,B,?_⟩;rw[<- W];exact Y A le y z σ (Z.le (V.trans (U.trans (T.trans le))))
end
def kd (d:D) (s:af):Option Kn:=match res d s with
 | .au=>some .au
 | .bl _=>some .bl
 | .int _=>some .int
 | .str _=>some .str
 | .tup _=>some .tup
 | .lst _=>some .lst
 | .bw _=>some .bw
 |_=>none
def TX (S:aM K w) (h:DV K w d v) (e:kd d w.aG=some k):qU K w.H v k:=by
 unfold kd at e
 split at e<;>rename_i e1<;>first | (cases e;done) | (try cases e)
 ·rw[dG e1 (by intro _ z;cases z)] at h;cases h;trivial
 ·rw[dG e1 (by intro _ z;cases z)] at h;cases h;trivial
 ·rw[dG e1 (by intro _ z;cases z)] at h;cases h;trivial
 ·rw[dG e1 (by intro _ z;cases z)] at h;cases h;trivial
 ·rw[dG e1 (by intro _ z;cases z)] at h
  simp only[DV] at h;obtain⟨a,Y,rfl,Z,_⟩:=h;exact⟨Y,Z⟩
 ·obtain⟨a,Y,rfl,Z,_⟩:=jb S h e1
  exact⟨Y,bo.of Z⟩
 ·rw[dG e1 (by intro _ z;cases z)] at h
  simp only[DV] at h;obtain⟨a,rfl,_,Z⟩:=h;exact⟨_,Z⟩
noncomputable def Jf (T:String):Bool:=T=="int"||T=="bool"||T=="str"||T=="tuple"||T=="list"
def jl (ds:List D) (s:af):Res D:=match ds with
 | [d,.ty T]=>if Jf T=true then bB ((kd d s).map λk=>.bl (qD k T)) s else none
 |_=>none
section
variable {X:Cx} {Ξ:Wd->bg->Prop} {e a b:ņ} {es:List ņ} {pos:Pos} {f g:aah D} {fa:aah (List D)}
def qv:bP X (.builtin "isinstance") (rC X.K Ξ jl):=by
 rintro Z s σ H M Y Q I r ⟨w,L,rfl,S,R,h⟩;unfold jl at h;split at h
 ·rename_i d T
  obtain⟨v,u,rfl,P,O⟩:=sI R;have N:u=.ty T:=O;subst N;split at h
  ·rename_i U
   obtain⟨J,e,h⟩:=eJ h
   cases V:kd d w.aG with
   |none=>rw[V] at e;cases e
   |some k =>
    rw[V] at e;cases e;have W:=TX S P V;simp only[Jf,Ŝ,beq_iff_eq] at U
    rcases U with (((rfl|rfl)|rfl)|rfl)|rfl
    ·exact LM Z s σ w.H _ Y Q I r ⟨v,k,rfl,W,aD S h _ rfl⟩
    ·exact Lz Z s σ w.H _ Y Q I r ⟨v,k,rfl,W,aD S h _ rfl⟩
    ·exact LN Z s σ w.H _ Y Q I r ⟨v,k,rfl,W,aD S h _ rfl⟩
    ·exact Lq Z s σ w.H _ Y Q I r ⟨v,k,rfl,W,aD S h _ rfl⟩
    ·exact LA Z s σ w.H _ Y Q I r ⟨v,k,rfl,W,aD S h _ rfl⟩
  ·exact h.elim
 ·exact h.elim
def qK (hv:ā x=some (.type T)) (hg:Gl X x) (hm:X.mg x=none) (hn:x≠"__name__":=by decide) (hd:(x==("__debug__":Str))=false:=by decide):PE X (.Name x pos) (tE X.K Ξ (eC (.ty T))):=sX (v:=.ty T) (Py hg hm hv rfl hn hd) λ_=>rfl
def dC (g:∃t,X.mg x=some (.int i t)) (hg:Gl X x) (hd:(x==("__debug__":Str))=false:=by decide):PE X (.Name x pos) (tE X.K Ξ (eC (.int i))):=by
 obtain⟨t,e⟩:=g;exact sX (v:=.int i) (Px hg e ⟨t,rfl⟩ hd) λ_=>rfl
noncomputable def ot:List D->Option (List Int)
 | []=>some []
 | .int i::Z=>(ot Z).map λr=>i::r
 |_::_=>none
theorem F6:∀{ds:List D} {ns:List Int},ot ds=some ns->ds=ns.map D.int
 | [],ns,h=>by cases h;rfl
 | .int b::ds,ns,h=>by
  simp only[ot] at h
  cases Z:ot ds with
  |none=>rw[Z] at h;cases h
  |some r=>rw[Z] at h;cases h;rw[F6 Z];rfl
 | .au::_,_,h=>by cases h
 | .bl _::_,_,h=>by cases h
 | .str _::_,_,h=>by cases h
 | .tup _::_,_,h=>by cases h
 | .lst _::_,_,h=>by cases h
 | .bw _::_,_,h=>by cases h
 | .ao _::_,_,h=>by cases h
 | .ty _::_,_,h=>by cases h
 | .aZ _::_,_,h=>by cases h
 | .exc _ _::_,_,h=>by cases h
 | .cC _ _ _::_,_,h=>by cases h
def Nw:ot (ns.map D.int)=some ns:=by
 induction ns with
 |nil=>rfl
 |cons b bs ih=>simp only[Þ,ot,ih,ŷ]
noncomputable def kO (i:Int):List Int->List Int
 | []=>[i]
 |j::r=>if i<j then i::j::r else if i=j then j::r else j::kO i r
def fg:List Int->List Int
 | []=>[]
 |i::r=>kO i (fg r)
theorem zm:∀{l:List Int},k∈kO i l↔k=i\/k∈l
 | []=>by simp[kO]
 |j::r=>by
  unfold kO;split
  ·simp
  ·split
   ·rename_i h;subst h;simp
   ·rw[Ò,zm,Ò]
    constructor
    ·rintro (h|h|h)
     ·exact .inr (.inl h)
     ·exact .inl h
     ·exact .inr (.inr h)
    ·rintro (h|h|h)
     ·exact .inr (.inl h)
     ·exact .inl h
     ·exact .inr (.inr h)
theorem EG:∀{l:List Int},l.Pairwise (· < ·)->(kO i l).Pairwise (· < ·)
 | [],_=>by simp[kO]
 |j::r,h=>by
  obtain⟨Z,Y⟩:=ÿ.mp h;unfold kO;split
  ·rename_i X
   refine ÿ.mpr ⟨λk hk=>?_,h⟩
   rcases Ò.mp hk with rfl|hk
   ·exact X
   ·have:=Z k hk;omega
  ·split
   ·exact h
   ·refine ÿ.mpr ⟨λk hk=>?_,EG Y⟩
    rcases zm.mp hk with rfl|hk
    ·omega
    ·exact Z k hk
theorem nM:∀{l:List Int},k∈fg l↔k∈l
 | []=>by simp[fg]
 |i::r=>by simp[fg,zm,nM]
theorem Ey:∀(l:List Int),(fg l).Pairwise (· < ·)
 | []=>List.Pairwise.nil
 |i::r=>EG (Ey r)
theorem Ep:∀{l m:List Int},l.Pairwise (· < ·)->m.Pairwise (· < ·)->(∀k,k∈l↔k∈m)->l=m
 | [],[],_,_,_=>rfl
 | [],j::m,_,_,h=>by have:=(h j).mpr Î;cases this
 |i::l,[],_,_,h=>by have:=(h i).mp Î;cases this
 |i::l,j::m,W,V,h=>by
  obtain⟨Y,U⟩:=ÿ.mp W;obtain⟨X,T⟩:=ÿ.mp V;have e:i=j:=by
   rcases Ò.mp ((h i).mp Î) with e|e
   ·exact e
   ·rcases Ò.mp ((h j).mpr Î) with e'|e'
    ·exact e'.symm
    ·have:=X i e;have:=Y j e';omega
  subst e;congr 1;refine Ep U T λk=>?_;constructor
  ·intro Z
   rcases Ò.mp ((h k).mp (Ð _ Z)) with e|e
   ·subst e;have:=Y k Z;omega
   ·exact e
  ·intro Z
   rcases Ò.mp ((h k).mpr (Ð _ Z)) with e|e
   ·subst e;have:=X k Z;omega
   ·exact e
def yY (l:List Int):(fg l).length<=l.length:=by
 induction l with
 |nil=>exact aal _
 |cons x l ih =>
  have:(fg (x::l)).length<=(fg l).length+1:=by
   show (kO x (fg l)).length<=_;generalize fg l=m
   induction m with
   |nil=>exact aal _
   |cons y m Z =>
    unfold kO;split
    ·simp
    ·split
     ·simp
     ·simp only[á];omega
  simp only[á];omega
def OL (ns:List Int):(ns.foldl PyProof.Rows.step_dedup []).length<=(fg ns).length:=sub_len (yK ns [] ω) λk Z=>nM.mpr ((Fo ns k).mp Z)
def pU (d:D) (s:af):Res D:=match d with
 | .lst Y=>match ot Y with
  |some Z=>if decide ((fg Z).length<64)=true then ok (.lst ((fg Z).map D.int)) s else none
  |none=>none
 |_=>none
def ML {p p2 dZ:Pos} (ha:PE X a (tE X.K Ξ f)) (hc:X.calm=true) (hg:Gl X "sorted") (hm:X.mg "sorted"=none) (hv:ā "sorted"=some (.builtin "sorted")) (oZ:Gl X "set") (lZ:X.mg "set"=none) (C2:ā "set"=some (.type "set"))
  (he:Ý [a] X.env=(false,Ž a X.env)::Ý [] X.env:=by rfl) (bO:(Yt dZ (Ý [] X.env)).any (·.1)=false:=by rfl)
  (kY:Ý [.Call (.Name "set" p2) [a] [] dZ] X.env=(false,Ž (.Call (.Name "set" p2) [a] [] dZ) X.env)::Ý [] X.env:=by rfl) (tX:(Yt pos (Ý [] X.env)).any (·.1)=false:=by rfl) :
  PE X (.Call (.Name "sorted" p) [.Call (.Name "set" p2) [a] [] dZ] [] pos) (tE X.K Ξ (e1 pU f)) :=
 cF (zf (LP hc) hg hm hv (mx (pQ (MH hc) oZ lZ C2 (mx ha mE he) (by decide) (by decide) he bO) mE kY) (by decide) (by decide) kY tX) fun σ H Q J=>by
  obtain⟨w,env,I,S,G,h⟩:=J;subst I;refine⟨w,env,rfl,S,G,(Out.aq h).mono λU d A F W v P=>?_⟩;unfold pU at W;split at W
  ·rename_i z
   split at W
   ·rename_i Y E
    split at W
    ·rename_i T
     have T:=Ė T;simp only[DV] at P;obtain⟨p,y,rfl,O,N⟩:=P;rw[F6 E] at N;rw[N.F2] at O;have D:=Nat.lt_of_le_of_lt (OL Y) T;refine⟨p,Y,rfl,O.sq,by omega,λq M=>?_⟩;refine⟨q,Y,rfl,cU,D,λl x C hs B=>?_⟩;have e:=Ep hs (Ey Y) λk=>(B k).trans nM.symm;subst e;have R:(U.grow q (.ext (kL X.prog X.w q Y))).H l=none:=C;have L:=F.grow (o:=.ext (kL X.prog X.w q Y)) M;exact W ((U.grow q (.ext (kL X.prog X.w q Y))).grow l (.lst ((fg Y).map V.int))) ((Fw.grow M).le.trans (Fw.grow R).le) (L.grow R) rfl (.ref l) ⟨l,_,rfl,⟨(show ¬ (U.grow q (.ext (kL X.prog X.w q Y))).Z l from mF L R),cU⟩,aj.ints _⟩
    ·exact W.elim
   ·exact W.elim
  ·exact W.elim
def tY (i j:Nat) (fa:aah (List D)):aah Fl:=λenv s=>aq (fa env s) λZ s=>match Z with
 | [x,y]=>ok (.nx ((env.set i (some x)).set j (some y))) s
 |_=>none
def HX (i j:Nat) {x y:Str} {px py pt:Pos} {kt k2 gX} (hc:X.calm=true) (hN:X.N.Nodup) (ha:PA X [a,b] (tA X.K Ξ fa)) (hi:X.N[i]?=some x:=by rfl) (hj:X.N[j]?=some y:=by rfl) (dR:i≠j:=by decide)
  (hx:X.env.scope.names.lookup x=some .local:=by rfl) (hy:X.env.scope.names.lookup y=some .local:=by rfl)
  (hw:ζ [.Tuple [.Name x px,.Name y py] kt pt] (.Tuple [a,b] k2 gX) X.env=pure (some [x,y]):=by rfl)
  (hs:ε [.Tuple [.Name x px,.Name y py] kt pt] (.Tuple [a,b] k2 gX) pos.line X.env=pure false:=by rfl) :
  PS X (.Assign [.Tuple [.Name x px,.Name y py] kt pt] (.Tuple [a,b] k2 gX) pos) (tS X.K Ξ (tY i j fa)):=jD (Rr hc hN hi hj dR hx hy ha hw hs) λO σ H W=>by
 obtain⟨w,env,V,S,Y,h⟩:=W;subst V;refine⟨w,env,rfl,S,Y,(Out.aq h).mono λM L U T Z J R=>?_⟩;split at Z
 ·obtain⟨v,u,rfl,Q,P⟩:=sI R
  exact⟨v,u,rfl,aD T Z _ (((Y.le U).set Q i).set P j)⟩
 ·exact Z.elim
end
end DI
namespace L2
open PySem PySem.Spec PyProof.Rows
structure DS (Y:Cx) (D:à) (π:List (à×Obj)):Prop where
 loc:D≠Y.env.locals
 fs:D∉Y.fs
 new:Y.cH.heap.objs.size<=D
 cell:∀x c,Y.env.cells.lookup x=some c->c≠D
 pin:∀p∈Y.pn++π,p.1≠D
structure o7 (Y:Cx) (D:à) (nt:Nat) (caps:St) (π:List (à×Obj)) (o:St) (H:Hp) (s:Æ) (acc:List V):Prop where
 inv:Inv Y π (o++caps) H s
 len:o.length=nt
 lst:∃ys,s.heap.PlainList D ys/\Vals acc ys.toList
 free:H D=none
 kU:acc.length<=Û
abbrev jR:=St->Hp->List V->(St->List V->Hp->Prop)->Prop
def tZ (Y:Cx) (D:à) (nt:Nat) (caps:St) (c:Code) (m:Sem PySem.Fin) (ta:jR):Prop :=
 ∀(X:List (à×Obj)) (o:St) (H:Hp) (s:Æ) (Z:List V) (Q:St->List V->Hp->Prop),DS Y D X->o7 Y D nt caps X o H s Z->ta (o++caps) H Z Q ->
  Ú (î Y.prog Y.w) Y.A m (λfn S=>fn=.again c/\∃W U T,o7 Y D nt caps X W U S T/\Q (W++caps) T U) (λ_ _=>False) s
def CA (J:It) (g:TG) (tf:TT) (ta:jR) (τ:St) (acc:List V) (H:Hp) (Q:St->List V->Hp->Prop):Prop:=∃W:Nat->Nat->St->List V->Hp->Prop,(∃m,W 0 m τ acc H) /\
 ∀i m τ acc Z,W i m τ acc Z->(J.stop i Z/\Q τ acc Z) \/
  (J.go i Z/\∃N:St->List V->Hp->Prop,(∀ X U T,N X U T->∃S,S < m/\W (i+1) S X U T) /\
   ∀x R,J.uC i Z x R->g x τ R fun Y O=>tf Y O λb P=>if b=true then ta Y P acc N else N Y acc P)
def Jg (te:TE):jR:=fun Y H Z Q=>Z.length+1<=Û/\te Y H λv X=>Q Y (Z++[v]) X
def Jh (wi:TI) (g:TG) (tf:TT) (ta:jR):jR:=fun Y H Z Q=>wi Y H λJ X=>CA J g tf ta Y Z X Q
section
variable {Y:Cx} {D:à} {nt:Nat} {caps:St}
def DS.obj (ds:DS Y D π) (B:o7 Y D nt caps π o H s acc):∃oD ys nn,s.heap.get? D=some oD/\oD={ cls:=.type "list",data:=.seq ys nn }/\Vals acc ys.toList/\Inv Y (π++[(D,oD)]) (o++caps) H s:=by
 obtain⟨ys,⟨nn,Z⟩,X⟩:=B.lst;refine⟨_,ys,nn,Z,rfl,X,B.inv.lu λp W=>?_⟩
 rcases â.mp W with z|z
 ·exact B.inv.pin p (Í _ z)
 ·have e:p=(D,{ cls:=.type "list",data:=.seq ys nn }):=by simpa using z
  subst e;exact⟨Z,B.free,ds.loc,ds.fs,λv z=>by cases z⟩
def F7 (hx:Y.xe=λ_ _=>False) (hE:PE Y el te):tZ Y D nt caps c ((do let _ <- call (.builtin "list.append") [.ref D,<- Ž el Y.env]:Sem Unit) >>= λ_=>again c) (Jg te):=by
 intro S o H s W Q Z B h;obtain⟨O,h⟩:=h;obtain⟨N,V,nn,u,M,R,I⟩:=Z.obj B;have q:=hE _ s _ H _ I h;rw[hx] at q;refine À (À (aJ q λy X L=>?_));obtain⟨v,U,P,K,J⟩:=L;have T:=P.pin (D,N) (Í _ (Í _ (by simp)));have G:X.heap.PlainList D V:=⟨nn,by rw[<- M];exact T.1⟩;have F:V.size<=Û:=by
  have e:=R.length;simp only[ä] at e;omega
 refine À (wpAny_list_append_plain (hsz:=F) G λE C A=>Â (Â ⟨rfl,?_⟩));have z:Inv Y S (o++caps) U X:=P.lr
 have x:Inv Y S (o++caps) U { X with heap:=E,toks:=X.toks }:=z.turned (it:=D) (λb o w e=>(A.2 b w).trans e) T.2.1 Z.loc (.inr Z.new) Z.cell Z.pin
 refine⟨o,U,W++[v],⟨x,B.len,⟨V.push y,C,?_⟩,T.2.1,by rw[í];simpa using O⟩,J⟩;rw[YG];exact Vals.append R (.cons K .nil)
def EX (hx:Y.xe=λ_ _=>False) (hc:Y.calm=true)
 (T:Turn Y.prog Y.w Y.K tg J fp it tn) (We:tn 0 s.heap) (hf:∀b∈fp,fk Y π H b) (l6:D∉fp) (hG:PG Y tg g) (gb:lV g nt) (hF:PF Y tests tf) (hA:tZ Y D nt caps (.compLoop e d (.ref it) (.ref D) Y.env) act ta) (ds:DS Y D π) (B:o7 Y D nt caps π o H s acc) (hq:(Code.compLoop e d (.ref it) (.ref D) Y.env).quiet=true)
 (Vl:∀(M:Model) (A:Ă) (Q':Fin->Æ->Prop) (E':Ê->Æ->Prop) (s':Æ),Ú (î Y.prog Y.w) A (compTurn e d (.ref it) (.ref D) Y.env) Q' (λ_ _=>False) s'->Ú (î Y.prog Y.w) (A.under (.compLoop e d (.ref it) (.ref D) Y.env)) ((î Y.prog Y.w).den (.compLoop e d (.ref it) (.ref D) Y.env)) Q' E' s')
 (ht:compTurn e d (.ref it) (.ref D) Y.env=(do
   ZZ p0
   match <- ž (.ref it) with
   |none=>pure (.done .next)
   |some v =>
    Ř tg (.ref it) v
    ZO tg Y.env v
    let mut ok:=true
    for c in tests do
     if ok then ok <- isTrue c Y.env (Ž c Y.env)
    if ok then act else again (.compLoop e d (.ref it) (.ref D) Y.env)))
 (h:CA J g tf ta (o++caps) acc H Q) :
  YM (î Y.prog Y.w) Y.A (.compLoop e d (.ref it) (.ref D) Y.env) (λr s'=>r=.ok .next/\∃o' H' dP,o7 Y D nt caps π o' H' s' dP/\Q (o'++caps) dP H') s:=by
 obtain⟨W,⟨m0,w0⟩,turn⟩:=h;have F:∀{H':Hp} {pl:List (à×Obj)},(∀b∈fp,H' b=none)->(∀p∈pl,p.1∉fp)->∀b∈fp,fk Y (π++pl) H' b:=λ{H' pl} hn X b Z=>by
  obtain⟨_,f1,o9,f3,f4,f5⟩:=hf b Z;refine⟨hn b Z,f1,o9,f3,f4,λp u0=>?_⟩
  rcases â.mp u0 with z|z
  ·exact f5 p (Ć _ z)
  ·rcases â.mp z with z|z
   ·exact f5 p (Í _ z)
   ·exact λe=>X p z (e ▸ Z)
 refine codeAny_loop hq (λn s'=>∃i acc o H',o7 Y D nt caps π o H' s' acc/\tn i s'.heap/\(∀b∈fp,H' b=none)/\W i n (o++caps) acc H') (λn s3 hJ=>?_) m0 ⟨0,acc,o,H,B,We,λb Z=>(hf b Z).1,w0⟩;obtain⟨i,acc,o3,O,U,mZ,m7,w3⟩:=hJ;refine Vl (î Y.prog Y.w) _ _ _ _ ?_;rw[ht];obtain⟨N,L,nn,ho,eo,E,u4⟩:=ds.obj U;have C:∀p∈[(D,N)],p.1∉fp:=λp X=>by
  have e:p=(D,N):=by simpa using X
  subst e;exact l6
 have ra:∀{pl:List (à×Obj)} {R:St} {H':Hp} {s':Æ},Inv Y (π++[(D,N)]++pl) R H' s'->s'.heap.PlainList D L/\H' D=none:=λ{pl R H' s'} I=>by
  have q:=I.pin (D,N) (Í _ (Ć _ (Í _ (by simp))));exact⟨⟨nn,by rw[<- eo];exact q.1⟩,q.2.1⟩
 refine À (δ (À ?_))
 rcases turn i n _ acc O w3 with ⟨stop,q⟩ | ⟨go,N',hN,step⟩
 ·have y:=T.done Y rfl rfl rfl hc i _ s3 _ O (λ_ _=>False) u4 (F m7 C) mZ stop
  refine aJ y λr s4 P=>?_;obtain⟨t,I4⟩:=P;subst t;obtain⟨C7,n4⟩:=ra (pl:=[]) (by simpa using I4);exact Â ⟨rfl,o3,O,acc,⟨I4.lr,U.len,⟨L,C7,E⟩,n4,U.kU⟩,q⟩
 ·have y:=T.item Y rfl rfl rfl hc i _ s3 _ O (λ_ _=>False) u4 (F m7 C) mZ go
  refine aJ y λr s4 P=>?_;obtain⟨u,t,P⟩:=P;subst t;refine À (aJ P λ_ s5 h5=>?_);obtain⟨x,m,I5,r5,y5,l,uE⟩:=h5;have uF:=I5.pinned (F uE C) (T.obj _ _ l);have q5:=hG _ s5 _ m x u _ uF r5 (gb x o3 _ m _ U.len (step x m y5));rw[hx] at q5;refine À (aJ q5 λ_ s6 h6=>?_);obtain⟨rb,H6,I6,⟨k,u5,xK⟩,q6⟩:=h6;have V:=hF _ s6 rb H6 _ I6 q6;rw[hx] at V;refine À (aJ V λb s7 h7=>?_);obtain⟨j,G,V⟩:=h7;subst xK;obtain⟨yb,n7⟩:=ra G;have f:Inv Y (π++mC fp s5.heap) (k++caps) j s7:=G.lu λp X=>by
   rcases â.mp X with z|z
   ·exact G.pin p (Í _ (Ć _ (Ć _ z)))
   ·exact G.pin p (Í _ (Í _ z))
  have t4:∀{R:St} {H':Hp} {s':Æ},Inv Y (π++mC fp s5.heap) R H' s'->tn (i+1) s'.heap/\∀b∈fp,H' b=none:=λ{R H' s'} I=>by
   refine⟨T.keep _ _ _ l λb Z o e=>(I.pin (b,o) (Í _ (Í _ (pM Z e)))).1,λb Z=>?_⟩;obtain⟨o,e,_⟩:=T.obj _ _ l b Z;exact(I.pin (b,o) (Í _ (Í _ (pM Z e)))).2.1
  cases b with
  |false =>
   rw[ð Ö] at V;obtain⟨a,hm,w7⟩:=hN _ _ _ V;obtain⟨t7,f7⟩:=t4 f;exact Â ⟨rfl,a,hm,i+1,acc,k,j,⟨f.lr,u5,⟨L,yb,E⟩,n7,U.kU⟩,t7,f7,w7⟩
  |true =>
   rw[é rfl] at V;have Wf:DS Y D (π++mC fp s5.heap):=⟨ds.loc,ds.fs,ds.new,ds.cell,λp X=>by
    rcases â.mp X with z|z
    ·exact ds.pin p (Ć _ z)
    ·rcases â.mp z with z|z
     ·exact ds.pin p (Í _ z)
     ·exact λe=>l6 (e ▸ (E9 z).1)⟩
   refine aJ (hA _ k j s7 acc N' Wf ⟨f,u5,⟨L,yb,E⟩,n7,U.kU⟩ V) λfn s8 h8=>?_;obtain⟨Wg,o8,H8,Vm,S,q8⟩:=h8;subst Wg;obtain⟨a,hm,w8⟩:=hN _ _ _ q8;obtain⟨t8,f8⟩:=t4 S.inv;exact⟨rfl,a,hm,i+1,Vm,o8,H8,⟨S.inv.lr,S.len,S.lst,S.free,S.kU⟩,t8,f8,w8⟩
end
def HY (A:Ă) (Q':Fin->Æ->Prop) (E':Ê->Æ->Prop) (s':Æ)
 (h:Ú (î P w) A (compTurn (.ListComp el gens sc ps) d fZ av ce) Q' (λ_ _=>False) s'):Ú (î P w) (A.under (.compLoop (.ListComp el gens sc ps) d fZ av ce)) ((î P w).den (.compLoop (.ListComp el gens sc ps) d fZ av ce)) Q' E' s':=by
 show Ú _ A ((compTurn (.ListComp el gens sc ps) d fZ av ce).onRaise (λx=>do noteFrame x ce;theTreesLotGoes x)) _ _ s'
 exact wpAny_noted (ň h (λ_ _ q=>q) λ_ _ z=>z.elim)
def OM (hd:gens[d]?=some ⟨target,iter,ifs,0⟩)
 (h0:YM (î P w) A (.compLoop (.ListComp el gens sc ps) d it acc env) R s)
 (h:Ú (î P w) A (aag it) (λkZ s'=>YM (î P w) A (.compLoop (.ListComp el gens sc ps) d kZ acc env) R s') (λ_ _=>False) s) :
  YM (î P w) A (.compStart (.ListComp el gens sc ps) d it acc env) R s:=by
 refine Zk ?_
 show Ú _ _ ((compStart (.ListComp el gens sc ps) d it acc env).onRaise (λx=>do noteFrame x env;ZZ theWindowsPlace)) _ _ s
 refine wpAny_notedAt ?_;have Z:(clausesOf (.ListComp el gens sc ps))[d]?=some ⟨target,iter,ifs,0⟩:=hd;unfold compStart;rw[Z];show Ú _ _ (ask >>= _) _ _ s;refine À (ţ (wpAny_ite ?_));split
 ·first
   |exact À (Â (Â (And.intro rfl h0)))
   |exact Â (And.intro rfl h0)
 ·refine À (Ţ ?_)
  show Ú _ _ (ZZ iter.pos >>= _) _ _ s;exact À (δ (À (ň h (λkZ s' Y=>Â (And.intro rfl Y)) λ_ _ x=>x.elim)))
section
variable {Y:Cx} {D:à} {nt:Nat} {caps:St}
def zo {el tg src:ņ} {gens:List Comprehension} {sc:ZF} {ps:Pos} {tests:List ņ} {d:Nat} {wi:TI} {g:TG} {tf:TT} {ta:jR} {act:à->Sem PySem.Fin} {c:Code} (hx:Y.xe=λ_ _=>False) (hc:Y.calm=true) (hd:gens[d]?=some ⟨tg,src,tests,0⟩)
  (hi:PI Y tg src wi) (hG:PG Y tg g) (gb:lV g nt) (hF:PF Y tests tf) (hA:∀it:à,tZ Y D nt caps (.compLoop (.ListComp el gens sc ps) d (.ref it) (.ref D) Y.env) (act it) ta)
  (ht:∀it:à,compTurn (.ListComp el gens sc ps) d (.ref it) (.ref D) Y.env=(do
   ZZ src.pos
   match <- ž (.ref it) with
   |none=>pure (.done .next)
   |some v =>
    Ř tg (.ref it) v
    ZO tg Y.env v
    let mut ok:=true
    for c in tests do
     if ok then ok <- isTrue c Y.env (Ž c Y.env)
    if ok then act it else again (.compLoop (.ListComp el gens sc ps) d (.ref it) (.ref D) Y.env)))
  (hs:∀x,ć src Y.env x=pure x) :
  tZ Y D nt caps c (do
   let x <- Ž src Y.env
   ZZ src.pos
   let x <- ć src Y.env x
   let _ <- runOwn (.compStart (.ListComp el gens sc ps) d (<- Zc [x] (aag x)) (.ref D) Y.env) Y.env
   again c) (Jh wi g tf ta):=by
 intro X o H s Z Q W B h;obtain⟨V,M,nn,a,L,K,I⟩:=W.obj B;have q:=hi _ s _ H _ I h;rw[hx] at q;refine À (aJ q λv s1 G=>À (δ ?_));rw[hs];refine À (Â (À (ĝ (aJ G λfZ F E=>?_))));obtain⟨it,U,tn,J,S,e,R,T,P,f2,ca⟩:=E;subst e;have O:=R.pin (D,V) (Í _ (Í _ (by simp)));have C:D∉U:=λz=>(f2 D z).2.2.2.2.2 (D,V) (Í _ (Í _ (by simp))) rfl;have y:∀b∈U,fk Y X S b:=λb w=>by
  obtain⟨a1,a2,u,t,n,m⟩:=f2 b w;refine⟨a1,a2,u,t,n,λp l=>m p ?_⟩
  rcases â.mp l with z|z
  ·exact Ć _ z
  ·exact Í _ (Ć _ z)
 have k:o7 Y D nt caps X o S F Z:=⟨R.lr,B.len,⟨M,⟨nn,by rw[<- L];exact O.1⟩,K⟩,O.2.1,B.kU⟩;have loop:=EX (e:=.ListComp el gens sc ps) (d:=d) hx hc T P y C hG gb hF (hA it) W k rfl (λ_ A j i N h=>HY A j i N h) (ht it) ca;refine À (wpAny_runOwn ?_);refine Ŕ (OM hd loop (T.self _ _ _ _ _ P loop)) λr N f=>?_;obtain⟨e,q⟩:=f;subst e;exact Â ⟨rfl,q⟩
end
def H0 (wi:TI) (nt:Nat) (cap:List Nat) (g:TG) (tf:TT) (ta:jR):TE:=fun σ H Q=>wi σ H λJ X=>CA J g tf ta (Ï nt none++lH cap σ) [] X λ_ Z Y=>∀D,Y D=none->Q (.ref D) (upd Y D (.lst Z))
section
variable {X:Cx}
def F8 {el tg src:ņ} {tests:List ņ} {rest:List Comprehension} {sc:ZF} {ps:Pos} {N:List Str} {nt:Nat} {cap:List Nat} {wi:TI} {g:TG} {tf:TT} {ta:jR} {act:Env->à->à->Sem PySem.Fin} (hc:X.calm=true) (S:sC X sc N nt cap) (gb:lV g nt) (hi:PI X tg src wi)
  (hY:∀(cl:List (Str×à)) (C:à) (s:Æ) (H:Hp) (ex:List à) (pn:List (à×Obj)),PG (df X N sc cl C s H ex pn) tg g/\PF (df X N sc cl C s H ex pn) tests tf/\∀D caps it,tZ (df X N sc cl C s H ex pn) D nt caps (.compLoop (.ListComp el (⟨tg,src,tests,0⟩::rest) sc ps) 0 (.ref it) (.ref D) (compEnvC sc cl C X.env)) (act (compEnvC sc cl C X.env) D it) ta)
  (ht:∀(it D:à) (ce:Env),compTurn (.ListComp el (⟨tg,src,tests,0⟩::rest) sc ps) 0 (.ref it) (.ref D) ce=(do
   ZZ src.pos
   match <- ž (.ref it) with
   |none=>pure (.done .next)
   |some v =>
    Ř tg (.ref it) v
    ZO tg ce v
    let mut ok:=true
    for c in tests do
     if ok then ok <- isTrue c ce (Ž c ce)
    if ok then act ce D it else again (.compLoop (.ListComp el (⟨tg,src,tests,0⟩::rest) sc ps) 0 (.ref it) (.ref D) ce)))
  (hs:∀x,ć src X.env x=pure x:=by intro _;rfl):PE X (.ListComp el (⟨tg,src,tests,0⟩::rest) sc ps) (H0 wi nt cap g tf ta):=by
 intro π s σ H Q I h;obtain⟨cl,A5,j⟩:=HJ (env:=X.env) (sc:=sc) λn F=>I.ok.has n (S.frees _ F rfl).2;rw[eval_ListComp];refine wpAny_comprehension_free (use:=none) rfl hs A5 S.kind S.names (aJ (hi π s σ H _ I h) λxv s1 h1=>aJ h1 λfZ Z h2=>?_);obtain⟨it,R,tn,J,E,e,U,T,i,f2,ca⟩:=h2;subst e;refine ö (wpAny_newFunctionEnv S.HK (by intro y hy;simp at hy) (λh3 B L=>?_) S.kind);dsimp only at B L |-;generalize f:Z.heap.objs.size=D at B L |-;generalize a:Z.heap.push { cls:=.type "list",dict:=none,data:=.seq ([]:List Ê).toArray }=G at B L |-;generalize C9:G.objs.size=C at B L |-;have hC:C=D+1:=by rw[<- C9,<- a,Ą,f]
 have pf:D≠C:=by omega
 have P:Z.heap.objs.size<=D:=Nat.le_of_eq f;have t:Z.heap.objs.size<=C:=by omega
 have old:∀b o,Z.heap.get? b=some o->h3.get? b=some o:=λb o e=>L.extBut b o (ç (Ë (Ñ e) t)) (Á _ (a ▸ Á _ e));have kK:h3.PlainList D #[]:=⟨_,L.extBut _ _ pf (Á _ (a ▸ f ▸ Ì _ rfl))⟩;have iX:∀b∈R,b<Z.heap.objs.size:=λb O=>by
  obtain⟨o,e,_⟩:=T.obj _ _ i b O;exact Ñ e
 have IB:=U.block (t':=Z.toks+([]:List (Str×Ê)).length) S j f2 iX old t ⟨_,B⟩;have Dc:D∉gC X.stack:=λz=>by
  rcases Ò.mp (U.lC D z) with e|e
  ·exact absurd (Ë U.lt P) (by rw[e];exact ù _)
  ·exact U.tL P e
 have l6:D∉R:=λz=>absurd (Ë (iX D z) P) (ù _);have Az:∀x c,cl.lookup x=some c->c≠D:=λx c e z=>by
  obtain⟨v,o,ho,_⟩:=U.cell x c ((j x c).mp e).2;exact absurd (Ë (Ñ ho) (by rw[z];exact P)) (ù _)
 have A6:∀p∈X.pn++π,p.1≠D:=λp hp z=>absurd (Ë (Ñ (U.pin p hp).1) (by rw[z];exact P)) (ù _);have fin:∀(s':Æ) (τ:St) (W:Hp) (acc:List V) (M:Array Ê),Inv (df X N sc cl C Z E R (X.pn++π)) [] τ W s'->s'.heap.PlainList D M->Vals acc M.toList->W D=none->acc.length<=Û->(∀D,W D=none->Q (.ref D) (upd W D (.lst acc))) ->
   compPost (î X.prog X.w) X.A X.xe none (EP X π σ Q) (.ref D) C (.ok .next) s':=by
  intro s' τ W acc M K pl rv F hz q;obtain⟨m,hm,_⟩:=id K.loc;refine⟨m,hm,λl sb=>?_⟩;have BY:bZ X.prog X.w W l:=K.aC.but K.free sb;obtain⟨n,ho⟩:=pl;have dQ:l.get? D=some { cls:=.type "list",data:=.seq M n }:=(sb.2 D pf).trans ho;have new:cL X.prog X.w (upd W D (.lst acc)) l D (.lst acc):=⟨hz,M.toList,n,rv,by simpa using dQ⟩;have u:=(K.base.but t sb).adopt (o:=.lst acc) P F
  refine⟨.ref D,upd W D (.lst acc),U.w9 (s':={ s' with heap:=l }) (ch:=R) K.os u (BY.adopt F new) K.bare (λb O=>?_),rfl,q D F⟩
  obtain⟨_,f1,_,f3,f4,f5⟩:=f2 b O;exact⟨f3,f1,f4,f5⟩
 have l7:∀b∈R,fk (df X N sc cl C Z E R (X.pn++π)) [] E b:=λb O=>by
  obtain⟨f0,f1,o9,f3,f4,f5⟩:=f2 b O;refine⟨f0,ç (Ë (iX b O) t),λz=>?_,.inl O,λx c e=>f4 x c ((j x c).mp e).2,λp u0=>?_⟩
  ·rcases Ò.mp (U.lC b z) with e|e
   ·exact f1 e
   ·exact o9 e
  ·exact f5 p (by simpa using u0)
 obtain⟨Dd,De,Wh⟩:=hY cl C Z E R (X.pn++π);have loop:=EX (Y:=df X N sc cl C Z E R (X.pn++π)) (D:=D) (nt:=nt) (caps:=lH cap σ) (e:=.ListComp el (⟨tg,src,tests,0⟩::rest) sc ps) (d:=0) (π:=[]) (o:=Ï nt none) (acc:=[]) rfl hc T
  (T.keep _ _ _ i λb _ o e=>old b o e) l7 l6 Dd gb De (Wh D _ it) ⟨pf,Dc,P,Az,λp hp=>A6 p (by simpa using hp)⟩ ⟨IB,by simp,⟨#[],kK,.nil⟩,U.aC.fresh P,ď _⟩ rfl (λ_ A Q' E' s' h=>HY A Q' E' s' h) (ht it D _) ca
 have Ji:=Ŕ loop (R':=compPost (î X.prog X.w) X.A X.xe none (EP X π σ Q) (.ref D) C) λr s' hr=>by
  obtain⟨e,o',W,dP,k,q'⟩:=hr;subst e;obtain⟨M,pl,rv⟩:=k.lst;exact fin s' _ W dP M k.inv pl rv k.free k.kU q'
 exact codeAny_compStart_list Ji (T.self _ _ _ _ _ (T.keep _ _ _ i λb _ o e=>old b o e) Ji)
end
end L2
namespace DI
open PySem L2
def pJ:ā "isinstance"=some (.builtin "isinstance"):=by decide +kernel
def TY:ā "int"=some (.type "int"):=by decide +kernel
def R9:ā "bool"=some (.type "bool"):=by decide +kernel
def ic:ā "tuple"=some (.type "tuple"):=by decide +kernel
def H9:ā "list"=some (.type "list"):=by decide +kernel
def Jj:ā "set"=some (.type "set"):=by decide +kernel
def A7:ā "all"=some (.builtin "all"):=by decide +kernel
def Jk:ā "any"=some (.builtin "any"):=by decide +kernel
def qw:ā "len"=some (.builtin "len"):=by decide +kernel
def Jl:ā "max"=some (.builtin "max"):=by decide +kernel
def TZ:ā "min"=some (.builtin "min"):=by decide +kernel
def zp:ā "sorted"=some (.builtin "sorted"):=by decide +kernel
structure Gd (K:Ļ) (mg:Str->Option Ê) (x:Str) (st:Stmt) (ps:List Str) (f:à) (fd:ű):Prop where
 mg:mg x=some (.ref f)
 fn:oO K x x st f fd
 b:Binds K fd ps []
def xj (K:Ļ):Sp:=λY H Q _=>∃(a:à) (Z:List Int),Y=[.ref a]/\bo K H a (Z.map V.int)/\Z.length<=63/\∀X,Q (.bl true) X
def Sa (F:fT P w K mg base iz k f fd [x] (qY K g))
 (h:∀ns:List Int,ns.length<=63->∃s,g [.aZ ns] []=some (.ok (.bl true),s)):fT P w K mg base iz k f fd [x] (xj K):=F.imp λV H Q E ⟨a,ns,e,hS,Y,q⟩=>by
 subst e;obtain⟨s,hs⟩:=h ns Y;have X:∀b,¬ (⟨[],[],H⟩:Wd).Z b:=λb ⟨k,c,e1,_,_⟩=>by simp at e1
 refine⟨⟨[],[],H⟩,[.aZ ns],rfl,⟨rfl,ω,λk a e=>by simp at e,λk a c e=>by simp at e⟩,aj.one ⟨a,rfl,?_⟩,?_⟩
 ·rcases hS with hS|hS
  ·exact .inl ⟨X a,hS⟩
  ·exact .inr hS
 ·show Out K ck _ (g [.aZ ns] []) _
  rw[hs];intro U _ _ _ v W;have e:v=.bl true:=W;subst e;exact q _
def gU (g:D->Env->Option Env) (t:aah Bool) (act:aah (List D)) (lP:Env):List D->af->Res (List D)
 | [],s=>ok [] s
 |d::Z,s=>match g d lP with
  |none=>none
  |some env=>aq (ne (t env s)) λb s=>if b=true then aq (ne (act env s)) λY s=>aq (gU g t act lP Z s) λX s=>ok (Y++X) s
   else gU g t act lP Z s
def emit (f:aah D):aah (List D):=λenv s=>aq (f env s) λx s=>ok [x] s
def more (it:aah (List D)) (g:D->Env->Option Env) (t:aah Bool) (act:aah (List D)):aah (List D):=λenv s=>aq (it env s) λZ s=>gU g t act env Z s
def sJ (nt:Nat) (cap:List Nat) (it:aah (List D)) (g:D->Env->Option Env) (t:aah Bool) (act:aah (List D)):aah D:=λenv s =>
 aq (it env s) λY s=>aq (ne (gU g t act (Ï nt none++gv cap env) Y s)) λZ s=>iF Z (ok (.lst Z) s)
def Sl (g:D->Env->Option Env) (sl:List Nat):Prop:=∀d env Z,g d env=some Z->Z.length=env.length/\∀i,i∉sl->Z[i]?=env[i]?
def rY (i:Nat):Sl (gN i) [i]:=λd env Z h=>by
 have e:env.set i (some d)=Z:=aam h;subst e;refine⟨ġ ..,λj Y=>?_⟩;rw[Ù (λz=>Y (by simp[z]))]
theorem Jm:∀(is:List Nat) (ds:List D) (env ay:Env),gA (is.map gN) ds env=some ay->ay.length=env.length/\∀i,i∉is->ay[i]?=env[i]?
 | [],[],env,ay,h=>by
  have e:env=ay:=aam h;rw[e];exact⟨rfl,λ_ _=>rfl⟩
 | [],_::_,_,_,h=>by cases h
 |_::_,[],_,_,h=>by cases h
 |j::is,d::ds,env,ay,h=>by
  have Z:gA (is.map gN) ds (env.set j (some d))=some ay:=h;obtain⟨Y,X⟩:=Jm is ds _ ay Z;refine⟨by rw[Y,ġ],λi hi=>?_⟩;rw[X i (λz=>hi (Ð _ z)),Ù (λz=>hi (by rw[z];exact Î ..))]
def wB (is:List Nat):Sl (gT (is.map gN)) is:=λd env Z h=>by
 cases d with
 |tup Y=>exact Jm is Y env Z h
 |_=>cases h
def len_same {g:D->Env->Option Env} {sl:List Nat} {d:D} {env ay:Env} (hs:Sl g sl) (hg:g d env=some ay):ay.length=env.length:=(hs d env ay hg).1
def gF (sl:List Nat) (env:Env):Prop:=∀i∈sl,∀d,env[i]?≠some (some d)
def bK.back {K:Ļ} {w:Wd} {env ay:Env} {σ:St} {g:D->Env->Option Env} {sl:List Nat} {d:D} (hs:Sl g sl) (hf:gF sl env) (hg:g d env=some ay) (hl:env.length=σ.length) (h:bK K w ay σ):bK K w env σ :=
 ⟨hl,λi x e=>by
  by_cases hi:i∈sl
  ·exact absurd e (hf i hi x)
  ·exact h.val i x (by rw[(hs d env ay hg).2 i hi];exact e)⟩
def tB (K:Ļ) (Pre:Env->Prop) (ta:jR) (act:aah (List D)):Prop:=∀(w:Wd) (env:Env) (U:St) (Y:List V) (Z W:List D) (T:af) (Q:St->List V->Hp->Prop),Pre env->aM K w->bK K w env U->aj K w Z Y ->
 act env w.aG=some (.ok W,T)->Y.length+W.length<=Û->(∀X S R,Le K w X->aM K X->X.aG=T->bK K X env S->aj K X (Z++W) R->Q S R X.H)->ta U w.H Y Q
def pV {α β:Type} {r:Res α} {k:α->af->Res β} {b:β} {s':af} (h:aq r k=some (.ok b,s')):∃a s,r=some (.ok a,s)/\k a s=some (.ok b,s'):=by
 match r,h with
 |some (.ok a,s),h=>exact⟨a,s,rfl,h⟩
def zV {α:Type} {r:Res α} {a:α} {s:af} (h:ne r=some (.ok a,s)):r=some (.ok a,s):=by
 match r,h with
 |some (.ok b,Z),h=>exact h
def EH {K:Ļ} {f:aah D}:tB K (λ_=>True) (Jg (tE K ck f)) (emit f):=by
 intro w env W Z Y J I Q _ S X V h U T;obtain⟨x,H,R,P⟩:=pV h;cases P;refine⟨by simpa using U,w,env,rfl,S,X,?_⟩;rw[R];intro O le N M v L;exact T O W (Z++[v]) le N M (X.le le) (aj.append (le.all V) (aj.one L))
def Fq {K:Ļ} {Pre:Env->Prop} {g0:TG} {g:D->Env->Option Env} {nt:Nat} {sl:List Nat} {t:aah Bool} {act:aah (List D)} {ta:jR} {env:Env} {w1:Wd} {J:It} {ds xs accD:List D} {s':af} {τ:St} {acc:List V} {Q:St->List V->Hp->Prop}
  (T:Tg K g0 g nt) (hs:Sl g sl) (hf:gF sl env) (hp:∀d ay,g d env=some ay->Pre ay) (hA:tB K Pre ta act) (hJ:ny K w1 J ds) (S1:aM K w1) (eo:bK K w1 env τ) (da:aj K w1 accD acc)
  (h:gU g t act env ds w1.aG=some (.ok xs,s')) (hl:acc.length+xs.length<=Û) (hQ:∀w' cq vs,Le K w1 w'->aM K w'->w'.aG=s'->bK K w' env cq->aj K w' (accD++xs) vs->Q cq vs w'.H) :
  CA J g0 (tT K ck t) ta τ acc w1.H Q:=by
 refine⟨λi m τ acc r=>m=ds.length-i/\i<=ds.length/\∃w' accD xs,w'.H=r/\Le K w1 w'/\aM K w'/\bK K w' env τ/\aj K w' accD acc/\gU g t act env (ds.drop i) w'.aG=some (.ok xs,s')/\acc.length+xs.length<=Û /\
   (∀Z cq vs,Le K w' Z->aM K Z->Z.aG=s'->bK K Z env cq->aj K Z (accD++xs) vs->Q cq vs Z.H),
  ⟨ds.length,rfl,ď _,w1,accD,xs,rfl,Le.refl _,S1,eo,da,h,hl,hQ⟩,?_⟩
 rintro i m τ acc r ⟨rfl,hi,w',accD,xs,rfl,P,L,p,O,Y,I,G⟩;by_cases F:i<ds.length
 ·right
  obtain⟨gb,hy⟩:=(hJ w' P L i).1 _ (É F);rw[YW F] at Y;simp only[gU] at Y
  cases X:g ds[i] env with
  |none=>rw[X] at Y;cases Y
  |some S =>
   rw[X] at Y;obtain⟨b,s2,E,N⟩:=pV Y;have E:=zV E;refine⟨gb,fun τ acc o=>∃w' accD xs,w'.H=o/\Le K w1 w'/\aM K w'/\bK K w' env τ/\aj K w' accD acc/\gU g t act env (ds.drop (i+1)) w'.aG=some (.ok xs,s')/\acc.length+xs.length<=Û /\
    (∀Z cq vs,Le K w' Z->aM K Z->Z.aG=s'->bK K Z env cq->aj K Z (accD++xs) vs->Q cq vs Z.H),fun oP xH o q=>⟨ds.length-(i+1),by omega,rfl,F,q⟩,λx H3 y=>?_⟩
   obtain⟨Z,rfl,U,n,es,dv⟩:=hy x H3 y;refine T.imp _ _ _ _ ⟨Z,env,ds[i],S,rfl,n,p.le U,dv,X,fun l R=>⟨Z,S,rfl,n,R,?_⟩⟩;have k:∀{j:St},j.length=l.length->S.length=j.length:=λe=>by rw[R.len,e]
   have el:env.length=S.length\/True:=.inr trivial;rw[es,E];intro f W c a
   cases b with
   |true =>
    rw[é rfl] at N |-;obtain⟨ys,s3,M,h3⟩:=pV N;have M:=zV M;obtain⟨zs,s4,hz,h4⟩:=pV h3;cases h4;rw[<- a] at M;refine hA f S l acc accD ys s3 _ (hp _ _ X) c (R.le W) ((U.trans W).all O) M (by rw[í] at I;omega) λw4 Ya vs l4 S4 e4 KL J3=>?_;have lv:=J3.length;refine⟨w4,accD++ys,zs,rfl,P.trans (U.trans (W.trans l4)),S4,KL.back hs hf X ?_,J3,by rw[e4];exact hz,?_,λC B A z w v u s=>G C B A (U.trans (W.trans (l4.trans z))) w v u (by rw[<- ĕ];exact s)⟩
    ·rw[<- KL.len]
     exact(len_same hs X).symm
    ·rw[í] at I lv
     have:=O.length;omega
   |false =>
    rw[ð Ö] at N |-;exact⟨f,accD,xs,rfl,P.trans (U.trans W),c,(R.le W).back hs hf X (by rw[<- R.len];exact(len_same hs X).symm),(U.trans W).all O,by rw[a];exact N,I,λC B A z w v u s=>G C B A (U.trans (W.trans z)) w v u s⟩
 ·left
  have e:i=ds.length:=by omega
  subst e;rw[List.drop_length] at Y;cases Y;exact⟨(hJ w' P L _).2 (aal _),G w' τ acc (Le.refl _) L rfl p (by rw[ĸ];exact O)⟩
def yL {K:Ļ} {Pre Pre':Env->Prop} {g0:TG} {g:D->Env->Option Env} {nt:Nat} {sl:List Nat} {it:aah (List D)} {t:aah Bool} {act:aah (List D)} {ta:jR} (T:Tg K g0 g nt) (hs:Sl g sl) (hA:tB K Pre ta act)
  (h1:∀env,Pre' env->gF sl env) (h2:∀d env ay,Pre' env->g d env=some ay->Pre ay):tB K Pre' (Jh (ef K ck it) g0 (tT K ck t) ta) (more it g t act):=by
 intro w env y V Y x v Q X S W U h R P;obtain⟨u,s,O,N⟩:=pV h;refine⟨w,env,rfl,S,W,?_⟩;rw[O];intro r Z M e1 J L;exact Fq T hs (h1 env X) (λd ay I=>h2 d env ay X I) hA L M (W.le Z) (Z.all U) (by rw[e1];exact N) R λH G F E C B A z=>P H G F (Z.trans E) C B A z
def Fs (T:Tg K g0 g nt) (hs:Sl g sl) (u6:∀i∈sl,i<nt) (hA:tB K Pre ta act)
 (hp:∀d caps ay,g d (Ï nt none++caps)=some ay->Pre ay) (σ:St) (H:Hp) (Q:VK) :
  tE K Ξ (sJ nt cap it g t act) σ H Q->H0 (ef K Ξ it) nt cap g0 (tT K ck t) ta σ H Q:=by
 rintro ⟨w,env,rfl,S,U,h⟩;refine⟨w,env,rfl,S,U,(Out.aq h).mono λR M L I Y J G=>?_⟩
 cases V:gU g t act (Ï nt none++gv cap env) M R.aG with
 |none=>rw[V] at Y;exact Y.elim
 |some r =>
  obtain⟨r,F⟩:=r;rw[V] at Y
  cases r with
  |error x=>exact Y.elim
  |ok P =>
   have Y:Out K Ξ R (iF P (ok (D.lst P) F)) (λX d=>∀v,DV K X d v->Q v X.H):=Y;obtain⟨E,Y⟩:=rL Y;have C:=(U.le L).block nt cap (Ï nt none) (by simp);refine Fq T hs (λi hi d e=>?_) (λd ay B=>hp d _ ay B) hA G I C (accD:=[]) rfl V (by simpa using E) λX u O A N z s y p W=>?_
   ·rw[Õ (by simpa using u6 i hi),ī,é (u6 i hi)] at e
    cases e
   ·exact Y (X.grow p (.lst O)) (A.trans (Fw.grow W).le) (N.grow W) z (.ref p) ⟨p,O,rfl,⟨(show ¬ X.Z p from mF N W),cU⟩,(Fw.grow W).le.all y⟩
def gF.of {nt:Nat} {g:D->Env->Option Env} {sl cK:List Nat} (hs:Sl g sl) (hd:∀i∈cK,i<nt/\i∉sl) {d:D} {caps ay:Env} (hg:g d (Ï nt none++caps)=some ay):gF cK ay:=λi hi x e=>by
 obtain⟨Z,Y⟩:=hd i hi;rw[(hs _ _ _ hg).2 i Y,Õ (by simpa using Z),ī,é Z] at e;cases e
def gF.on (hs:Sl g sl) (hd:∀i∈cK,i∉sl) (hf:gF cK env) (hg:g d env=some ay):gF cK ay:=λi hi x e=>by
 rw[(hs _ _ _ hg).2 i (hd i hi)] at e;exact hf i hi x e
section
variable {X:Cx} {Ξ:Wd->bg->Prop} {el tg src j9 iN rf oB:ņ} {tests lE sL:List ņ} {sc:ZF} {ps pos:Pos} {N:List Str} {nt:Nat} {cap:List Nat} {it iZ yf:aah (List D)} {gd rg Dj:D->Env->Option Env} {g0 yg KN:TG} {sl cK u7:List Nat} {ft j6 KO:aah Bool} {f:aah D}
abbrev AA (nt:Nat) (cap:List Nat) (it:aah (List D)) (g:D->Env->Option Env) (t:aah Bool) (iZ:aah (List D)) (g2:D->Env->Option Env) (t2:aah Bool) (f:aah D):aah D:=sJ nt cap it g t (more iZ g2 t2 (emit f))
abbrev Ia (nt:Nat) (cap:List Nat) (it:aah (List D)) (g:D->Env->Option Env) (t:aah Bool) (iZ:aah (List D)) (g2:D->Env->Option Env) (t2:aah Bool) (yf:aah (List D)) (g3:D->Env->Option Env) (t3:aah Bool) (f:aah D):aah D:=sJ nt cap it g t (more iZ g2 t2 (more yf g3 t3 (emit f)))
noncomputable def apart (nt:Nat) (sl cK:List Nat):Bool:=cK.all (λi=>decide (i<nt)&&!sl.contains i)
def pW (h:apart nt sl cK=true):∀i∈cK,i<nt/\i∉sl:=λi hi=>by
 have:=ë.mp h i hi;simp only[È,Å,ě,List.contains_eq_mem,decide_eq_false_iff_not] at this;exact this
noncomputable abbrev J4 (e el:ņ) (d:Nat):PySem.Env->à->à->Sem PySem.Fin:=λce D it=>(do let _ <- call (.builtin "list.append") [.ref D,<- Ž el ce]:Sem Unit) >>= λ_=>again (.compLoop e d (.ref it) (.ref D) ce)
noncomputable abbrev B0 (e src:ņ) (d:Nat):PySem.Env->à->à->Sem PySem.Fin:=λce D it=>do
 let x <- Ž src ce
 ZZ src.pos
 let x <- ć src ce x
 let _ <- runOwn (.compStart e (d+1) (<- Zc [x] (aag x)) (.ref D) ce) ce
 again (.compLoop e d (.ref it) (.ref D) ce)
def G1 (hc:X.calm=true) (S:sC X sc N nt cap) (T:Tg X.K g0 gd nt) (fb:Sl gd sl) (T2:Tg X.K yg rg nt) (eY:Sl rg cK) (hi:PI X tg src (ef X.K Ξ it))
  (hY:∀(cl:List (Str×à)) (C:à) (s:Æ) (H:Hp) (ex:List à) (pn:List (à×Obj)),PG (df X N sc cl C s H ex pn) tg g0/\PF (df X N sc cl C s H ex pn) tests (tT X.K ck ft)/\PI (df X N sc cl C s H ex pn) j9 iN (ef X.K ck iZ)/\PG (df X N sc cl C s H ex pn) j9 yg/\PF (df X N sc cl C s H ex pn) lE (tT X.K ck j6)/\PE (df X N sc cl C s H ex pn) el (tE X.K ck f))
  (lW:apart nt sl cK=true:=by rfl) (kT:apart nt [] sl=true:=by rfl)
  (hs:∀x,ć src X.env x=pure x:=by intro _;rfl) (u9:∀ce x,ć iN ce x=pure x:=by intro _ _;rfl):PE X (.ListComp el [⟨tg,src,tests,0⟩,⟨j9,iN,lE,0⟩] sc ps) (tE X.K Ξ (AA nt cap it gd ft iZ rg j6 f)) :=
 cF (F8 (act:=B0 (.ListComp el [⟨tg,src,tests,0⟩,⟨j9,iN,lE,0⟩] sc ps) iN 0) hc S T.kX hi (λcl C s H ex pn=>by
   obtain⟨y1,y2,y3,y4,y5,W⟩:=hY cl C s H ex pn;exact⟨y1,y2,λD Z it=>zo (d:=1) (act:=λY=>J4 (.ListComp el [⟨tg,src,tests,0⟩,⟨j9,iN,lE,0⟩] sc ps) el 1 _ D Y) rfl hc rfl y3 y4 T2.kX y5 (λY=>F7 rfl W) (λ_=>rfl) (u9 _)⟩) (λ_ _ _=>rfl) hs)
  (Fs (Pre:=gF cK) T fb (λi hi=>(pW kT i hi).1) (yL T2 eY EH (λ_ h=>h) (λ_ _ _ _ _=>trivial)) λd Z U V=>gF.of fb (pW lW) V)
def Qp (hc:X.calm=true) (S:sC X sc N nt cap) (T:Tg X.K g0 gd nt) (fb:Sl gd sl) (T2:Tg X.K yg rg nt) (eY:Sl rg cK) (T3:Tg X.K KN Dj nt) (Wi:Sl Dj u7) (hi:PI X tg src (ef X.K Ξ it))
  (hY:∀(cl:List (Str×à)) (C:à) (s:Æ) (H:Hp) (ex:List à) (pn:List (à×Obj)),PG (df X N sc cl C s H ex pn) tg g0/\PF (df X N sc cl C s H ex pn) tests (tT X.K ck ft)/\PI (df X N sc cl C s H ex pn) j9 iN (ef X.K ck iZ)/\PG (df X N sc cl C s H ex pn) j9 yg/\PF (df X N sc cl C s H ex pn) lE (tT X.K ck j6) /\
   PI (df X N sc cl C s H ex pn) rf oB (ef X.K ck yf)/\PG (df X N sc cl C s H ex pn) rf KN/\PF (df X N sc cl C s H ex pn) sL (tT X.K ck KO)/\PE (df X N sc cl C s H ex pn) el (tE X.K ck f))
  (lW:apart nt sl cK=true:=by rfl) (va:apart nt sl u7=true:=by rfl) (Wj:apart nt cK u7=true:=by rfl) (kT:apart nt [] sl=true:=by rfl)
  (hs:∀x,ć src X.env x=pure x:=by intro _;rfl) (u9:∀ce x,ć iN ce x=pure x:=by intro _ _;rfl) (Wk:∀ce x,ć oB ce x=pure x:=by intro _ _;rfl):PE X (.ListComp el [⟨tg,src,tests,0⟩,⟨j9,iN,lE,0⟩,⟨rf,oB,sL,0⟩] sc ps) (tE X.K Ξ (Ia nt cap it gd ft iZ rg j6 yf Dj KO f)) :=
 cF (F8 (act:=B0 (.ListComp el [⟨tg,src,tests,0⟩,⟨j9,iN,lE,0⟩,⟨rf,oB,sL,0⟩] sc ps) iN 0) hc S T.kX hi (λcl C s H ex pn=>by
   obtain⟨y1,y2,y3,y4,y5,V,U,R,Q⟩:=hY cl C s H ex pn;exact⟨y1,y2,λD Z it=>zo (d:=1) (act:=λW=>B0 (.ListComp el [⟨tg,src,tests,0⟩,⟨j9,iN,lE,0⟩,⟨rf,oB,sL,0⟩] sc ps) oB 1 _ D W) rfl hc rfl y3 y4 T2.kX y5 (λW=>zo (d:=2) (act:=λiZ=>J4 (.ListComp el [⟨tg,src,tests,0⟩,⟨j9,iN,lE,0⟩,⟨rf,oB,sL,0⟩] sc ps) el 2 _ D iZ) rfl hc rfl V U T3.kX R (λiZ=>F7 rfl Q) (λ_=>rfl) (Wk _)) (λ_=>rfl) (u9 _)⟩) (λ_ _ _=>rfl) hs)
  (Fs (Pre:=λenv=>gF cK env/\gF u7 env) T fb (λi hi=>(pW kT i hi).1) (yL T2 eY (yL (Pre':=gF u7) T3 Wi EH (λ_ h=>h) (λ_ _ _ _ _=>trivial)) (λ_ h=>h.1) (λd env P h Y=>gF.on eY (λi hi=>(pW Wj i hi).2) h.2 Y)) λd Z P Y=>⟨gF.of fb (pW lW) Y,gF.of fb (pW va) Y⟩)
end
end DI
namespace L2
open PySem PySem.Spec PyProof.Rows
end L2
namespace HT
open PySem PyProof.Rows
def B7 (A:Ă) (s:Æ) (y x:Ê) (b:Bool):Prop:=∀(prog:ô) (w:Ĉ) (E:Ê->Æ->Prop) (Q:Ê->Æ->Prop),Q (.bool b) s->Ú (î prog w) A (richCompare .Lt y x) Q E s
inductive iE (A:Ă) (s:Æ):List Ê->List Ê->Bool->Prop where
 |nn:iE A s [] [] false
 |nc (y:Ê) (ys:List Ê):iE A s [] (y::ys) true
 |cn (x:Ê) (xs:List Ê):iE A s (x::xs) [] false
 |eq {x y:Ê} {xs ys:List Ê} {b:Bool}:SeqAt.EqAt A s x y true->iE A s xs ys b->iE A s (x::xs) (y::ys) b
 |lt {x y:Ê} {xs ys:List Ê} {b:Bool}:SeqAt.EqAt A s x y false->B7 A s x y b->iE A s (x::xs) (y::ys) b
section
open PySem.SeqAt
open PySem.AutoSeq1 (wpAny_loadPart')
open PySem.MeetsSeq PySem.MeetsSeq2 PySem.MeetsSeq3
def MN (l b:à) (items mH:Array Ê) (n n2:Nat) (dd ng:Option à) (sl cK:Array (Option Ê)) (l8:Bool) :
  Meets (Œ.«tuple.__lt__» ⟨[.ref l,.ref b],[]⟩)
   (λA R s=>s.heap.get? l=some { cls:=.type "tuple",dict:=dd,data:=.seq items n,slots:=sl }/\s.heap.get? b=some { cls:=.type "tuple",dict:=ng,data:=.seq mH n2,slots:=cK } /\
    iE A.in1 s items.toList mH.toList l8/\R (.ok (.ret (.bool l8))) s) :=
 .of_wp λprog w A R s h=>by
  obtain⟨N,g,d,M,os⟩:=s;obtain⟨K,J,I,h⟩:=h;have f2:=AutoSeq1.sub_tuple_tuple
  wp_walk using wpAny_loadPart' K,wpAny_loadPart' J,ψ _ (λrest b W=>b.1=none/\W=⟨N,g,d,M,os⟩/\∃(X ws:List Ê),rest=X.zip ws /\
   iE A.in1 ⟨N,g,d,M,os⟩ X ws l8/\X.length+mH.size=ws.length+items.size) _
  case turn =>
   rintro ⟨y,x⟩ rest b W ⟨V,rfl,X,ws,Y,U,Z⟩
   cases U with
   |nn=>cases Y
   |nc _ _=>cases Y
   |cn _ _=>cases Y
   |eq T S =>
    rw[ķ] at Y
    injection Y with Q L
    injection Q with P O
    subst P O;simp only[á] at Z;refine À (T prog w _ _ ?_)
    wp_walk
    exact⟨rfl,rfl,_,_,L,S,by omega⟩
   |lt T S =>
    rw[ķ] at Y
    injection Y with Q L
    injection Q with P O
    subst P O;refine À (T prog w _ _ ?_);have H:=S prog w
    wp_walk using H
    exact⟨_,rfl,by simpa using h⟩
  case fin =>
   rintro ⟨F,E⟩ W ⟨V,rfl,X,ws,Y,U,Z⟩;simp only at V;subst V;have G:l8=decide (items.size<mH.size):=by
    cases U with
    |nn=>simp only[û] at Z;exact(ñ (by omega)).symm
    |nc _ _=>simp only[û,á] at Z;exact(ß (by omega)).symm
    |cn _ _=>simp only[û,á] at Z;exact(ñ (by omega)).symm
    |eq _ _=>rw[ķ] at Y;cases Y
    |lt _ _=>rw[ķ] at Y;cases Y
   rw[G] at h
   wp_walk
   exact⟨_,rfl,by simpa [Builtin.Tuple.tupleCompareSizes] using h⟩
  case h =>
   exact⟨rfl,rfl,items.toList,mH.toList,rfl,I,by simp only[ä];omega⟩
end
open PySem.SeqAt PySem.MeetsSeq
section
variable {prog:ô} {w:Ĉ} {A:Ă} {E:Ê->Æ->Prop} {s:Æ}
def G2 (hl:IsTup s.heap l items) (hb:IsTup s.heap b mH) (hA:∀A':Ă,A'.units<=A.units+4->iE A' s items.toList mH.toList l8)
 (hu:A.units<Zh) (h:Q (.bool l8) s):Ú (î prog w) A (richCompare .Lt (.ref l) (.ref b)) Q E s:=by
 obtain⟨⟨cls,U,data,T⟩,Z,Y,n,X⟩:=id hl;obtain⟨⟨O,S,data2,R⟩,W,V,P,hd2⟩:=id hb;simp only at Y X V hd2;subst Y X V hd2;refine richCompare_meets_room (op:=.Lt) ⟨_,Z,rfl⟩ ⟨_,W,rfl⟩ PySem.F.slot_tuple_lt PySem.F.entry_tuple_lt (PySem.F.args_tuple_lt_2 _ _) (MN l b items mH n P U S T R l8)
  ⟨Z,W,hA _ ?_,show Value.bool l8≠Value.notImplemented/\Q (.bool l8) s from ⟨(λx=>nomatch x),h⟩⟩ hu
 show A.units+1<=A.units+4;omega
end
end HT
namespace DI
open PySem L2 HT
mutual
noncomputable def iB:D->D->Option Bool
 | .int i,.int j=>some (decide (i<j))
 | .str x,.str y=>some (decide (x.cps.toList<y.cps.toList))
 | .tup Z,.tup Y=>iO Z Y
 |_,_=>none
noncomputable def iO:List D->List D->Option Bool
 | [],[]=>some false
 | [],_::_=>some true
 |_::_,[]=>some false
 |x::Z,y::Y=>if beq x y=true then iO Z Y else iB x y
end
section
variable {X:Cx} {Ξ:Wd->bg->Prop} {π:List (à×Obj)} {σ:St} {s:Æ} {w:Wd}
def T4 (I:Inv X π σ w.H s) (A:Ă) (lx:lay x=true) (ly:lay y=true) (hu:A.units+dep x<Zh) (hx:DV X.K w x v) (hy:DV X.K w y u) (rx:RelV v vx) (ry:RelV u vy):SeqAt.EqAt A s vx vy (beq x y):=by
 obtain⟨as,Z⟩:=(hx.py (nL _ lx)).reads I rx;obtain⟨bs,Y⟩:=(hy.py (nL _ ly)).reads I ry;obtain⟨W,V⟩:=jE _ lx;obtain⟨U,T⟩:=jE _ ly;have:=SeqAt.eqAt_reads _ _ A s vx vy as bs Z Y W U (by rw[V];omega);rw[qc _ _ lx ly] at this;exact this
mutual
theorem Jo (I:Inv X π σ w.H s):∀(A:Ă) (x y:D) (b:Bool) (v u:V) (vx vy:Ê),iB x y=some b->lay x=true->lay y=true->A.units+5*dep x+5<Zh->DV X.K w x v->DV X.K w y u->RelV v vx->RelV u vy->B7 A s vx vy b
 |A,.int i,.int j,b,v,u,vx,vy,h,_,_,_,Z,Y,W,U=>by
  cases h;cases Z;cases Y;obtain⟨t,rfl⟩:=W;obtain⟨T,rfl⟩:=U;intro prog w E Q q;exact FV A s i t j T prog w E Q q
 |A,.str i,.str j,b,v,u,vx,vy,h,_,_,S,Z,Y,W,U=>by
  cases h;cases Z;cases Y;obtain⟨t,rfl⟩:=W;obtain⟨T,rfl⟩:=U;intro prog w E Q q;exact(PyProof.Rows.lt_str q:Ú (î prog w) A (ĭ .Lt (.str i t) (.str j T)) Q E s)
 |A,.tup R,.tup P,b,v,u,vx,vy,h,O,N,S,Z,Y,W,U=>by
  simp only[iB] at h;simp only[DV] at Z Y;obtain⟨a,as,rfl,M,L⟩:=Z;obtain⟨c,cs,rfl,J,G⟩:=Y;cases W;cases U;obtain⟨its,F,C,_⟩:=I.tuple M;obtain⟨B,z,r,_⟩:=I.tuple J;intro prog o E Q q;simp only[dep] at S;exact G2 C r (λp n=>by
   have:=Ib I p R P b as cs its B h (by simpa [lay] using O) (by simpa [lay] using N) (by omega) L G F z;simpa using this) (by omega) q
 |_,.au,_,_,_,_,_,_,h,_,_,_,_,_,_,_=>by cases h
 |_,.bl _,_,_,_,_,_,_,h,_,_,_,_,_,_,_=>by cases h
 |_,.lst _,_,_,_,_,_,_,h,_,_,_,_,_,_,_=>by cases h
 |_,.bw _,_,_,_,_,_,_,h,_,_,_,_,_,_,_=>by cases h
 |_,.ao _,_,_,_,_,_,_,h,_,_,_,_,_,_,_=>by cases h
 |_,.ty _,_,_,_,_,_,_,h,_,_,_,_,_,_,_=>by cases h
 |_,.aZ _,_,_,_,_,_,_,h,_,_,_,_,_,_,_=>by cases h
 |_,.exc _ _,_,_,_,_,_,_,h,_,_,_,_,_,_,_=>by cases h
 |_,.cC _ _ _,_,_,_,_,_,_,h,_,_,_,_,_,_,_=>by cases h
 |_,.int _,.au,_,_,_,_,_,h,_,_,_,_,_,_,_=>by cases h
 |_,.int _,.bl _,_,_,_,_,_,h,_,_,_,_,_,_,_=>by cases h
 |_,.int _,.str _,_,_,_,_,_,h,_,_,_,_,_,_,_=>by cases h
 |_,.int _,.tup _,_,_,_,_,_,h,_,_,_,_,_,_,_=>by cases h
 |_,.int _,.lst _,_,_,_,_,_,h,_,_,_,_,_,_,_=>by cases h
 |_,.int _,.bw _,_,_,_,_,_,h,_,_,_,_,_,_,_=>by cases h
 |_,.int _,.ao _,_,_,_,_,_,h,_,_,_,_,_,_,_=>by cases h
 |_,.int _,.ty _,_,_,_,_,_,h,_,_,_,_,_,_,_=>by cases h
 |_,.int _,.aZ _,_,_,_,_,_,h,_,_,_,_,_,_,_=>by cases h
 |_,.int _,.exc _ _,_,_,_,_,_,h,_,_,_,_,_,_,_=>by cases h
 |_,.int _,.cC _ _ _,_,_,_,_,_,h,_,_,_,_,_,_,_=>by cases h
 |_,.str _,.au,_,_,_,_,_,h,_,_,_,_,_,_,_=>by cases h
 |_,.str _,.bl _,_,_,_,_,_,h,_,_,_,_,_,_,_=>by cases h
 |_,.str _,.int _,_,_,_,_,_,h,_,_,_,_,_,_,_=>by cases h
 |_,.str _,.tup _,_,_,_,_,_,h,_,_,_,_,_,_,_=>by cases h
 |_,.str _,.lst _,_,_,_,_,_,h,_,_,_,_,_,_,_=>by cases h
 |_,.str _,.bw _,_,_,_,_,_,h,_,_,_,_,_,_,_=>by cases h
 |_,.str _,.ao _,_,_,_,_,_,h,_,_,_,_,_,_,_=>by cases h
 |_,.str _,.ty _,_,_,_,_,_,h,_,_,_,_,_,_,_=>by cases h
 |_,.str _,.aZ _,_,_,_,_,_,h,_,_,_,_,_,_,_=>by cases h
 |_,.str _,.exc _ _,_,_,_,_,_,h,_,_,_,_,_,_,_=>by cases h
 |_,.str _,.cC _ _ _,_,_,_,_,_,h,_,_,_,_,_,_,_=>by cases h
 |_,.tup _,.au,_,_,_,_,_,h,_,_,_,_,_,_,_=>by cases h
 |_,.tup _,.bl _,_,_,_,_,_,h,_,_,_,_,_,_,_=>by cases h
 |_,.tup _,.int _,_,_,_,_,_,h,_,_,_,_,_,_,_=>by cases h
 |_,.tup _,.str _,_,_,_,_,_,h,_,_,_,_,_,_,_=>by cases h
 |_,.tup _,.lst _,_,_,_,_,_,h,_,_,_,_,_,_,_=>by cases h
 |_,.tup _,.bw _,_,_,_,_,_,h,_,_,_,_,_,_,_=>by cases h
 |_,.tup _,.ao _,_,_,_,_,_,h,_,_,_,_,_,_,_=>by cases h
 |_,.tup _,.ty _,_,_,_,_,_,h,_,_,_,_,_,_,_=>by cases h
 |_,.tup _,.aZ _,_,_,_,_,_,h,_,_,_,_,_,_,_=>by cases h
 |_,.tup _,.exc _ _,_,_,_,_,_,h,_,_,_,_,_,_,_=>by cases h
 |_,.tup _,.cC _ _ _,_,_,_,_,_,h,_,_,_,_,_,_,_=>by cases h
theorem Ib (I:Inv X π σ w.H s):∀(A:Ă) (xs ys:List D) (b:Bool) (vs us:List V) (ps qs:List Ê),iO xs ys=some b->cJ xs=true->cJ ys=true->A.units+5*bM xs+5<Zh->aj X.K w xs vs->aj X.K w ys us->Vals vs ps->Vals us qs->iE A s ps qs b
 |A,[],[],b,vs,us,ps,qs,h,_,_,_,W,U,Z,Y=>by
  cases h;cases W;cases U;cases Z;cases Y;exact .nn
 |A,[],y::ys,b,vs,us,ps,qs,h,_,_,_,W,U,Z,Y=>by
  cases h;cases W;cases Z;obtain⟨u,r,rfl,_,_⟩:=U;cases Y;exact .nc _ _
 |A,x::xs,[],b,vs,us,ps,qs,h,_,_,_,W,U,Z,Y=>by
  cases h;cases U;cases Y;obtain⟨u,r,rfl,_,_⟩:=W;cases Z;exact .cn _ _
 |A,x::xs,y::ys,b,vs,us,ps,qs,h,T,S,N,W,U,Z,Y=>by
  obtain⟨v,r,rfl,P,dr⟩:=W;obtain⟨u,G,rfl,O,M⟩:=U;simp only[cJ,È] at T S;simp only[bM] at N;have F:=Nat.le_max_left (dep x) (bM xs);have E:=ZL (dep x) (bM xs)
  cases Z with
  |cons Z L =>
   cases Y with
   |cons Y J =>
    have R:=T4 I A T.1 S.1 (by omega) P O Z Y;simp only[iO] at h;split at h
    ·rename_i Q
     rw[Q] at R;exact .eq R (Ib I A xs ys b _ _ _ _ h T.2 S.2 (by omega) dr M L J)
    ·rename_i Q
     rw[υ] at Q;rw[Q] at R;exact .lt R (Jo I A x y b _ _ _ _ h T.1 S.1 (by omega) P O Z Y)
end
def jm (x y:D) (s:af):Res D:=if (lay x&&lay y&&decide (dep x<=30))=true then bB ((iB x y).map D.bl) s else none
def t6 (hr:bY k X.A):bh X (ĭ .Lt) (rO X.K Ξ jm):=by
 rintro O s σ H x y v u Q I U T ⟨w,W,V,rfl,S,R,P,h⟩;unfold jm at h;split at h
 ·rename_i Z
  simp only[È,Å] at Z;obtain⟨d,e,h⟩:=eJ h
  cases Y:iB W V with
  |none=>rw[Y] at e;cases e
  |some b =>
   rw[Y] at e;cases e;exact Jo I X.A W V b x y v u Y Z.1.1 Z.1.2 (by have:=hr.un;have:=Z.2;have:Zh=9900:=rfl;omega) R P U T _ _ _ _ ⟨.bl b,w.H,I,rfl,aD S h _ rfl⟩
 ·exact h.elim
end
end DI
namespace DI
open PySem L2
section
variable {X:Cx} {Ξ:Wd->bg->Prop} {e:ņ} {p pos Yc Yd UW XZ:Pos} {f:aah D}
end
def rA:List D->af->Res D:=aU 2 2 (ax (bS (aV (e2 jm (aa 1) (eB ix (ae (aa 0) ah)))) (aP (e2 aI (aa 0) (aa 1))) cf) (aP (eC (.int 0))))
def vU:List D->af->Res D:=aU 2 3 (ax (aR (ar rA (ae (aa 0) (ae (aa 1) ah))) (gN 2)) (aP (eNew (ae (eB qr (ae (eC (.int 0)) (ae (e2 sZ (aa 2) (e2 xg (eC (.int 10)) (eC (.int 18)))) ah))) (ae (e2 kG (aa 2) (eC (.int 2147483647))) ah)))))
def bJ:List D->af->Res D:=aU 2 4 (ax (bS (aV (e2 tW (e2 aI (aa 0) (eC (.int 0))) (eC (.int 0)))) (ax (aR (e2 kG (e2 aI (aa 0) (eC (.int 0))) (aa 1)) (gN 2)) (ax (mU (e2 tm (e2 aI (aa 0) (eC (.int 0))) (aa 1)) (aa 0) (eC (.int 0))) (aP (aa 2)))) cf) (ax (mU (e2 kG (e2 cN (e2 iI (e2 aI (aa 0) (eC (.int 1))) (eC (.int 48271))) (eC (.int 29))) (eC (.int 2147483647))) (aa 0) (eC (.int 1))) (ax (aR (e2 kG (e2 cN (e2 cN (e2 iI (e2 aI (aa 0) (eC (.int 1))) (e2 aI (aa 0) (eC (.int 1)))) (e2 iI (eC (.int 39373)) (e2 aI (aa 0) (eC (.int 1))))) (eC (.int 7))) (eC (.int 2147483629))) (gN 3)) (ax (aR (e2 kG (e2 cN (e2 iI (aa 3) (aa 3)) (e2 iI (eC (.int 16807)) (aa 3))) (eC (.int 2147483587))) (gN 3)) (aP (e2 kG (e2 tm (aa 3) (eC (.int 8))) (aa 1)))))))
def rN:List D->af->Res D:=aU 2 3 (ax (aR (e2 cN (eC (.int 1)) (ar bJ (ae (aa 0) (ae (eC (.int 4)) ah)))) (gN 2)) (aP (eB dw (ae (bC 1 [0,2] (cb (ae (aa 1) ah)) (gN 0) (aV (e2 cP (ar bJ (ae (aa 1) (ae (e2 cN (aa 2) (eC (.int 1))) ah))) (eC (.int 0)))) (aa 0)) ah))))
def nJ:List D->af->Res D:=aU 1 1 (aP (eB qI (ae (bC 2 [] (qF (ae (aa 0) (ae (oY (aa 0) (oA (eC (.int 1))) oX) ah))) (gT [gN 0,gN 1]) cR (e2 jm (aa 0) (aa 1))) ah)))
def yM:List D->af->Res D:=aU 1 1 (aP (eT (eB jl (ae (aa 0) (ae (eC (.ty "int")) ah))) (eT (tQ (eB jl (ae (aa 0) (ae (eC (.ty "bool")) ah)))) (e2 xI (aa 0) (eC (.int 0))))))
def pN:List D->af->Res D:=aU 2 2 (aP (eT (ar yM (ae (aa 0) ah)) (e2 jm (aa 0) (aa 1))))
def rH:List D->af->Res D:=aU 1 1 (aP (ar pN (ae (aa 0) (ae (eC (.int (8))) ah))))
def rq:List D->af->Res D:=aU 1 1 (aP (eT (eB jl (ae (aa 0) (ae (eC (.ty "tuple")) ah))) (eT (eB qI (ae (bC 1 [] (bG (aa 0)) (gN 0) cR (ar rH (ae (aa 0) ah))) ah)) (ar nJ (ae (aa 0) ah)))))
end DI
namespace ST
open PySem PySem.W PyProof.Rows
structure Ord (α:Type) where
 lt:α->α->Bool
 Dk:∀a,lt a a=false
 tr:∀a b c,lt a b=true->lt b c=true->lt a c=true
 vc:∀a b,lt a b=false->lt b a=false->a=b
section
variable {α:Type} (O:Ord α)
def Ord.le (a b:α):Prop:=O.lt b a=false
variable {O}
def Ord.le_refl (a:α):O.le a a:=O.Dk a
def Ord.le_of_lt (h:O.lt a b=true):O.le a b:=by
 unfold Ord.le
 cases Z:O.lt b a with
 |false=>rfl
 |true=>have:=O.tr _ _ _ h Z;rw[O.Dk] at this;cases this
def Ord.qx (h:O.le a b) (g:O.le b c):O.le a c:=by
 unfold Ord.le at *
 cases Z:O.lt c a with
 |false=>rfl
 |true =>
  cases Y:O.lt a b with
  |true=>have:=O.tr _ _ _ Z Y;rw[g] at this;cases this
  |false =>
   have e:=O.vc a b Y h;subst e;rw[g] at Z;cases Z
def Ord.Jp (h:O.le a b) (g:O.le b a):a=b:=O.vc _ _ g h
end
def ok {β:Type} (c:Nat->Nat->Bool) (n:Nat):KasT β->(β->Prop)->Prop
 | .ret a,Q=>Q a
 | .ask i j k,Q=>i<n/\j<n/\ok c n (k (c i j)) Q
theorem jB {β:Type} {c:Nat->Nat->Bool} {n:Nat} {Q R:β->Prop}:∀{t:KasT β},ok c n t Q->(∀a,Q a->R a)->ok c n t R
 | .ret a,h,i=>i a h
 | .ask _ _ k,h,i=>⟨h.1,h.2.1,jB (t:=k _) h.2.2 i⟩
theorem p9 {β γ:Type} {c:Nat->Nat->Bool} {n:Nat} {f:β->KasT γ} {Q:γ->Prop}:∀{t:KasT β},ok c n t (λa=>ok c n (f a) Q)->ok c n (t.bind f) Q
 | .ret _,h=>h
 | .ask _ _ k,h=>⟨h.1,h.2.1,p9 (t:=k _) h.2.2⟩
theorem Jq {β:Type} {c:Nat->Nat->Bool} {n:Nat} {cmp:Nat->Nat->(Bool->Æ->Prop)->Æ->Prop} (hc:∀i j C,i<n->j<n->C (c i j) s->cmp i j C s) {Q:β->Æ->Prop}:∀{t:KasT β},ok c n t (λa=>Q a s)->t.kasWp cmp Q s
 | .ret _,h=>h
 | .ask _ _ k,h=>hc _ _ _ h.1 h.2.1 (Jq hc (t:=k _) h.2.2)
section
variable {α:Type} {O:Ord α} {x:Nat->α} {n:Nat}
noncomputable def ky (x:Nat->α) (p:Array Nat) (i:Nat):α:=x (p.getD i 0)
def Pm (n:Nat) (p:Array Nat):Prop:=p.size=n/\p.toList.Perm (Ó n)
def Up (O:Ord α) (f:Nat->α) (k:Nat):Prop:=∀i j,i<j->j<k->O.le (f i) (f j)
def Dn (O:Ord α) (f:Nat->α) (k:Nat):Prop:=∀i j,i<j->j<k->O.le (f j) (f i)
def Up.more (h:Up O f k) (hk:1<=k) (h1:O.le (f (k-1)) (f k)):Up O f (k+1):=λi j Z X=>by
 by_cases e:j=k
 ·subst e
  by_cases Y:i=j-1
  ·subst Y;exact h1
  ·exact Ord.qx (h i (j-1) (by omega) (by omega)) h1
 ·exact h i j Z (by omega)
def Dn.more (h:Dn O f k) (hk:1<=k) (h1:O.le (f k) (f (k-1))):Dn O f (k+1):=λi j Z X=>by
 by_cases e:j=k
 ·subst e
  by_cases Y:i=j-1
  ·subst Y;exact h1
  ·exact Ord.qx h1 (h i (j-1) (by omega) (by omega))
 ·exact h i j Z (by omega)
def Pm.lt (h:Pm n p) (hi:i<n):p.getD i 0<n:=by
 have hs:i<p.size:=by rw[h.1];exact hi
 have:p[i]∈p.toList:=by simp
 have e:p.getD i 0=p[i]:=by simp[aad,hs]
 rw[e];exact ò.mp (h.2.mem_iff.mp this)
def Pm.rev (h:Pm n p) (i j:Nat):Pm n (kas_rev p i j):=⟨by rw[kas_rev_size];exact h.1,(Array.perm_iff_toList_perm.mp (mirror_perm p i j _)).trans h.2⟩
def Pm.Wr (h:Pm n p) (i j:Nat):Pm n (bubble p i j):=⟨by rw[bubble_size];exact h.1,(Array.perm_iff_toList_perm.mp (bubble_perm p i j)).trans h.2⟩
def rZ {p q:Array Nat} {i j:Nat} (h:p[i]?=q[j]?):p.getD i 0=q.getD j 0:=by
 rw[Ĕ,Ĕ,h]
def AB {p:Array Nat} {i j:Nat} (hj:j<=p.size) (k:Nat):ky x (kas_rev p i j) k=if i<=k/\k<j then ky x p (i+j-1-k) else ky x p k:=by
 have e:=getElem?_mirror_all (i:=i) hj k;unfold ky kas_rev
 split<;>rename_i h
 ·rw[é h] at e;rw[rZ e]
 ·rw[ð h] at e;rw[rZ e]
def Ic {p:Array Nat} {k d:Nat} (hk:k<p.size) (hd:d<=k) (i:Nat):ky x (bubble p k d) i=if i=k-d then ky x p k else if k-d<i/\i<=k then ky x p (i-1) else ky x p i:=by
 have e:=getElem?_bubble hk d hd i;by_cases h:i=k-d
 ·rw[é h] at e |-;exact ļ x (rZ e)
 ·rw[ð h] at e |-
  by_cases Z:k-d<i/\i<=k
  ·rw[é Z] at e |-;exact ļ x (rZ e)
  ·rw[ð Z] at e |-;exact ļ x (rZ e)
def G3 (hj:j<=p.size) (he:∀k,i<=k->k<j->ky x p k=ky x p (j-1)):ky x (kas_rev p i j)=ky x p:=funext λk=>by
 rw[AB hj];split
 ·rw[he _ (by omega) (by omega),he k (by omega) (by omega)]
 ·rfl
noncomputable abbrev asks (O:Ord α) (x:Nat->α) (i j:Nat):Bool:=O.lt (x i) (x j)
theorem AD {p:Array Nat} (hp:Pm n p):∀(f m:Nat),1<=m->m+f<=n->Up O (ky x p) m->ok (asks O x) n (kas_asc p f m) λr=>m<=r/\r<=m+f/\Up O (ky x p) r/\(r<m+f->O.lt (ky x p r) (ky x p (r-1))=true)
 |0,m,Y,V,Z=>⟨aal _,aal _,Z,λz=>absurd z (ù _)⟩
 |f+1,m,Y,V,Z=>by
  refine⟨hp.lt (by omega),hp.lt (by omega),?_⟩
  show ok _ _ (if O.lt (ky x p m) (ky x p (m-1))=true then _ else _) _
  cases X:O.lt (ky x p m) (ky x p (m-1)) with
  |true =>
   rw[é rfl];exact⟨aal _,by omega,Z,λ_=>X⟩
  |false =>
   rw[ð Ö];refine jB (AD hp f (m+1) (by omega) (by omega) (Z.more Y X)) λr W=>⟨by omega,by omega,W.2.2.1,λz=>W.2.2.2 (by omega)⟩
structure DS (O:Ord α) (x:Nat->α) (n:Nat) (p:Array Nat) (m q:Nat):Prop where
 pm:Pm n p
 q1:q+1<=m
 mn:m<=n
 dn:Dn O (ky x p) m
 bl:∀k,m-(q+1)<=k->k<m->ky x p k=ky x p (m-1)
def DS.turn (D:DS O x n p m q):Pm n (kas_rev p (m-(q+1)) m)/\ky x (kas_rev p (m-(q+1)) m)=ky x p :=
 ⟨D.pm.rev _ _,G3 (by rw[D.pm.1];exact D.mn) D.bl⟩
theorem wc:∀(f:Nat) (p:Array Nat) (m q:Nat),m+f<=n->DS O x n p m q->ok (asks O x) n (kas_desc f p m q) λr=>m<=r.2.1/\DS O x n r.1 r.2.1 r.2.2
 |0,p,m,q,_,D=>⟨aal _,D⟩
 |f+1,p,m,q,P,D=>by
  have q1:=D.q1;refine⟨D.pm.lt (by omega),D.pm.lt (by omega),?_⟩
  show ok _ _ (if O.lt (ky x p m) (ky x p (m-1))=true then _ else _) _
  cases X:O.lt (ky x p m) (ky x p (m-1)) with
  |true =>
   rw[é rfl];have one:∀Y,Pm n Y->ky x Y=ky x p->DS O x n Y (m+1) 0:=λY V U=>⟨V,by omega,by omega,by rw[U];exact D.dn.more (by omega) (Ord.le_of_lt X),λk T S=>by rw[show k=m+1-1 by omega]⟩;by_cases W:q > 0
   ·rw[é W]
    exact jB (wc f _ (m+1) 0 (by omega) (one _ D.turn.1 D.turn.2)) λr Z=>⟨by omega,Z.2⟩
   ·rw[ð W]
    exact jB (wc f _ (m+1) 0 (by omega) (one _ D.pm rfl)) λr Z=>⟨by omega,Z.2⟩
  |false =>
   rw[ð Ö];refine⟨D.pm.lt (by omega),D.pm.lt (by omega),?_⟩
   show ok _ _ (if O.lt (ky x p (m-1)) (ky x p m)=true then _ else _) _
   cases R:O.lt (ky x p (m-1)) (ky x p m) with
   |true =>
    rw[é rfl];exact⟨aal _,D⟩
   |false =>
    rw[ð Ö];have e:ky x p m=ky x p (m-1):=O.vc _ _ X R;refine jB (wc f p (m+1) (q+1) (by omega) ⟨D.pm,by omega,by omega,D.dn.more (by omega) (by rw[e];exact Ord.le_refl _),λk T S=>?_⟩) λr Z=>⟨by omega,Z.2⟩;show _=ky x p m;by_cases Q:k=m
    ·rw[Q]
    ·rw[D.bl k (by omega) (by omega),e]
def G4 {p:Array Nat} {m:Nat} (hp:Pm n p) (h1:1<=m) (hm:m<=n) (hd:Dn O (ky x p) m):ok (asks O x) n (kas_tail3 m n p) λr=>1<=r.1/\r.1<=n/\Pm n r.2/\Up O (ky x r.2) r.1:=by
 refine p9 ?_;have Z:Up O (ky x (kas_rev p 0 m)) m:=λi j W Y=>by
  rw[AB (by rw[hp.1];exact hm),AB (by rw[hp.1];exact hm),é ⟨by omega,by omega⟩,é ⟨by omega,Y⟩];exact hd _ _ (by omega) (by omega)
 exact jB (AD (hp.rev 0 m) (n-m) m h1 (by omega) Z) λr X=>⟨by show 1<=r;omega,by show r<=n;omega,hp.rev 0 m,X.2.2.1⟩
def EI {p:Array Nat} {m:Nat} (hp:Pm n p) (h1:1<=m) (hm:m+1<=n) (hd:Dn O (ky x p) (m+1)):ok (asks O x) n (kas_descPart m n p) λr=>1<=r.1/\r.1<=n/\Pm n r.2/\Up O (ky x r.2) r.1:=by
 refine p9 (jB (wc (n-(m+1)) p (m+1) 0 (by omega) ⟨hp,by omega,hm,hd,λk Y X=>by rw[show k=m+1-1 by omega]⟩) λr Z=>?_);obtain⟨W,D⟩:=Z;split
 ·exact G4 D.turn.1 (by have:=D.q1;omega) D.mn (by rw[D.turn.2];exact D.dn)
 ·exact G4 D.pm (by have:=D.q1;omega) D.mn D.dn
def ON {p:Array Nat} (hp:Pm n p) (hn:1<=n):ok (asks O x) n (kas_count n p) λr=>1<=r.1/\r.1<=n/\Pm n r.2/\Up O (ky x r.2) r.1:=by
 refine p9 (jB (AD hp (n-1) 1 (aal _) (by omega) λi j U X=>by omega) λm S=>?_);obtain⟨Z,Q,Y,R⟩:=S;split
 ·rename_i e
  rw[beq_iff_eq] at e;exact⟨Z,by omega,hp,Y⟩
 ·rename_i e
  have P:m≠n:=λz=>e (by rw[z];exact Ĝ n);have hs:=R (by omega);split
  ·refine⟨hp.lt (by omega),hp.lt (by omega),?_⟩
   show ok _ _ (if O.lt (ky x p 0) (ky x p (m-1))=true then _ else _) _
   cases T:O.lt (ky x p 0) (ky x p (m-1)) with
   |true =>
    rw[é rfl];exact⟨Z,by omega,hp,Y⟩
   |false =>
    rw[ð Ö];have W:∀k,0<=k->k<m->ky x p k=ky x p (m-1):=λk _ V=>by
     have a1:O.le (ky x p k) (ky x p (m-1)):=by
      by_cases e:k=m-1
      ·rw[e];exact Ord.le_refl _
      ·exact Y k (m-1) (by omega) (by omega)
     have a2:O.le (ky x p (m-1)) (ky x p k):=by
      by_cases e:k=0
      ·rw[e];exact T
      ·exact Ord.qx T (Y 0 k (by omega) V)
     exact Ord.Jp a1 a2
    have V:=G3 (x:=x) (p:=p) (i:=0) (j:=m) (by rw[hp.1];omega) W;refine EI (hp.rev 0 m) Z (by omega) ?_;rw[V];refine Dn.more (λi j U X=>?_) Z (Ord.le_of_lt hs);rw[W i (by omega) (by omega),W j (by omega) X];exact Ord.le_refl _
  ·refine EI hp Z (by omega) (Dn.more (λi j U X=>by omega) Z (Ord.le_of_lt hs))
theorem zq (hp:Pm n p) (hk:k<n) (hu:Up O (ky x p) k):∀(f l r:Nat),r-l<=f->l<=r->r<=k->(∀i,i<l->O.le (ky x p i) (ky x p k))->(∀i,r<=i->i<k->O.le (ky x p k) (ky x p i)) ->
  ok (asks O x) n (kas_place p k f l r) λm=>m<=k/\(∀i,i<m->O.le (ky x p i) (ky x p k))/\(∀i,m<=i->i<k->O.le (ky x p k) (ky x p i))
 |0,l,r,X,W,Y,a,b=>⟨by omega,a,λi hi=>b i (by omega)⟩
 |f+1,l,r,X,W,Y,a,b=>by
  unfold kas_place;by_cases h:l ≥ r
  ·rw[é h]
   exact⟨by omega,a,λi hi=>b i (by omega)⟩
  ·rw[ð h]
   refine⟨hp.lt hk,hp.lt (by omega),?_⟩
   show ok _ _ (if O.lt (ky x p k) (ky x p ((l+r) / 2))=true then _ else _) _
   cases Z:O.lt (ky x p k) (ky x p ((l+r) / 2)) with
   |true =>
    rw[é rfl];refine zq hp hk hu f l ((l+r) / 2) (by omega) (by omega) (by omega) a λi hi V=>?_;by_cases e:i=(l+r) / 2
    ·rw[e];exact Ord.le_of_lt Z
    ·exact Ord.qx (Ord.le_of_lt Z) (hu _ _ (by omega) V)
   |false =>
    rw[ð Ö];refine zq hp hk hu f ((l+r) / 2+1) r (by omega) (by omega) Y (λi hi=>?_) b;by_cases e:i=(l+r) / 2
    ·rw[e];exact Z
    ·exact Ord.qx (hu _ _ (by omega) (by omega)) Z
theorem Ie:∀(f:Nat) (p:Array Nat) (k:Nat),Pm n p->k+f=n->Up O (ky x p) k->ok (asks O x) n (kas_bin f p k) λq=>Pm n q/\Up O (ky x q) n
 |0,p,k,Y,X,Z=>⟨Y,by rw[<- X];exact Z⟩
 |f+1,p,k,Y,X,Z=>by
  refine p9 (jB (zq Y (by omega) Z k 0 k (by omega) (ď _) (aal _) (λi hi=>by omega) λi Q W=>by omega) λm P=>?_);obtain⟨Q,W,N⟩:=P;refine Ie f _ (k+1) (Y.Wr _ _) (by omega) λi j M K=>?_;have V:k<p.size:=by rw[Y.1];omega
  have L:k-(k-m)=m:=by omega
  rw[Ic V (by omega),Ic V (by omega),L];by_cases U:i=m
  ·rw[é U,ð (by omega),é (by omega)]
   exact N _ (by omega) (by omega)
  ·rw[ð U]
   by_cases T:m<i/\i<=k
   ·rw[é T,ð (by omega),é (by omega)]
    exact Z _ _ (by omega) (by omega)
   ·rw[ð T]
    by_cases S:j=m
    ·rw[é S];exact W _ (by omega)
    ·rw[ð S]
     by_cases R:m<j/\j<=k
     ·rw[é R]
      by_cases e:i=j-1
      ·rw[e];exact Ord.le_refl _
      ·exact Z _ _ (by omega) (by omega)
     ·rw[ð R];exact Z _ _ M (by omega)
def Qq (hn:1<=n):ok (asks O x) n (kas_sort n) λq=>Pm n q/\Up O (ky x q) n:=by
 refine p9 (jB (ON (p:=ZH (Ó n)) ⟨by simp,by simp⟩ hn) λr X=>?_);obtain⟨W,V,Y,Z⟩:=X;split
 ·rw[Nat.max_eq_left W]
  exact Ie _ _ _ Y (by omega) Z
 ·rw[show r.1=n by omega] at Z
  exact⟨Y,Z⟩
end
section
variable {α:Type} {O:Ord α} {x:Nat->α} {prog:ô} {w:Ĉ} {A:Ă} {E:Ê->Æ->Prop} {s:Æ}
def xM (prog:ô) (w:Ĉ) (A:Ă) (O:Ord α) (x:Nat->α) (us:List Ê) (t:Æ):Prop :=
 Ú (î prog w) A (keyKind' us.toArray) (fun Z Y=>Y=t/\∀i j (C:Bool->Æ->Prop),i<us.length->j<us.length->C (O.lt (x i) (x j)) t->Ú (î prog w) A (keyLt' Z (us.getD i Value.none) (us.getD j Value.none)) C (λ_ _=>False) t) (λ_ _=>False) t
def kU (us:List Ê) (h:us.length<2):(us.toArray.zip us.toArray).map (·.2)=((ZH (Ó us.length)).toList.map λi=>us.getD i Value.none).toArray:=by
 rcases us with _ | ⟨u,_ | ⟨v,r⟩⟩
 ·exact Array.toList_inj.mp (by simp)
 ·exact Array.toList_inj.mp (by simp)
 ·(simp at h;omega)
def Ez (hb:s.heap.get? b=some (ZK "list" us.toArray m)) (hz:us.length<64)
 (hk:2<=us.length->∀h1,(∀c o,c≠b->s.heap.get? c=some o->h1.get? c=some o)->xM prog w A O x us { s with heap:=h1 })
 (hR:∀(q:Array Nat) h' e,Pm us.length q->Up O (ky x q) us.length->(∀c o,c≠b->s.heap.get? c=some o->h'.get? c=some o)->h'.get? b=some (ZK "list" (q.toList.map λi=>us.getD i Value.none).toArray e)->R (.done (.ret .none)) { s with heap:=h' }) :
  Ú (î prog w) A (Œ.«list.sort» ⟨[.ref b],[]⟩) R E s:=by
 have B:b<s.heap.objs.size:=Ñ hb;have line:us.length<=Û:=by rw[ŏ];omega
 obtain⟨e1,N⟩:∃e1,(s.heap.update b (ŗ λ_=>(#[]:Array Ê))).get? b=some (ZK "list" #[] e1):=⟨_,get?_update_seq hb λ_=>#[]⟩;generalize U:((s.heap.update b (ŗ λ_=>(#[]:Array Ê))).push (ZK "tuple" us.toArray 0)).push (ZK "list" #[] 0)=Z;have X:Z.get? b=some (ZK "list" #[] e1):=by rw[<- U];exact Á _ (Á _ N)
 have old:∀c o,c≠b->s.heap.get? c=some o->Z.get? c=some o:=λc o W e=>by
  rw[<- U];exact Á _ (Á _ (by rw[Z3 _ _ _ _ W];exact e))
 have last:∀(q:Array Nat),Pm us.length q->Up O (ky x q) us.length->R (.done (.ret .none)) { s with heap:=Z.update b (ŗ λ_=>(q.toList.map λi=>us.getD i Value.none).toArray) }:=λq h1 T =>
  hR q _ _ h1 T (λc o W e=>by rw[Z3 _ _ _ _ W];exact old c o W e) (get?_update_seq X λ_=>(q.toList.map λi=>us.getD i Value.none).toArray)
 rw[list_sort_plain];refine À (listItems_at hb rfl (À (listUpdate_at hb rfl ?_ (by rw[Ô];exact line) (ď _))));refine À (seqEpoch_at N rfl (À (wpAny_newTuple (À (wpAny_newList (ĝ ?_) (ď _))) (by show us.length<=_;exact line))))
 show Ú (î prog w) A _ R E { s with heap:=_ }
 rw[U];dsimp only;by_cases Y:us.toArray.size<2
 ·rw[é Y,é Y]
  refine À (Â ?_);rw[StateT.run_pure];refine À (Â ?_);dsimp only;have L:(us.toArray.zip us.toArray).map (·.2)=((ZH (Ó us.length)).toList.map λi=>us.getD i Value.none).toArray:=by
   exact kU us (by rw[<- Ô];exact Y)
  refine À (seqEpoch_at X rfl (À (listUpdate_at X rfl ?_ (ď _) ?_)))
  ·simp only[ğ,Ã,ã]
   show Ú _ _ _ _ _ { s with heap:=Z.update b (ŗ λ_=>(us.toArray.zip us.toArray).map (·.2)) }
   rw[L];refine Â (last _ ⟨by simp,by simp⟩ λi j y M=>?_);rw[Ô] at Y;omega
  ·show ((us.toArray.zip us.toArray).map (·.2)).size<=Û+1
   simp;omega
 ·rw[ð Y,ð Y]
  rw[Ô] at Y;refine À (ň (hk (by omega) Z old) (fun K t S=>?_) λ_ _ z=>z.elim);obtain⟨rfl,S⟩:=S
  have tree:(kas_sort us.length).kasWp (kas_ask prog w A K us) (λq t=>t={ s with heap:=Z }/\Pm us.length q/\Up O (ky x q) us.length) { s with heap:=Z } :=
   Jq (c:=asks O x) (n:=us.length) (λi j C hi M J=>S i j C hi M J) (jB (Qq (by omega)) λq P=>⟨rfl,P⟩)
  refine À (ň (kat_run (Q:=λV t=>∃q:Array Nat,q.size=us.length/\arrOf V=q.map (kas_item (us.toArray.zip us.toArray))/\failedOf V=none/\t={ s with heap:=Z }/\Pm us.length q/\Up O (ky x q) us.length)
   rfl (by omega) hz (λq V t a1 a2 I H=>⟨q,a1,a2,I,H⟩) tree) ?_ λ_ _ z=>z)
  rintro ⟨⟨⟩,V⟩ t ⟨q,P,G,F,rfl,T,D⟩;dsimp only;rw[kat_snds rfl G];refine À (seqEpoch_at X rfl (À (listUpdate_at X rfl ?_ (ď _) ?_)))
  ·rw[F]
   simp only[ğ,Ã,ã];exact Â (last q T D)
  ·show ((q.toList.map λi=>us.getD i Value.none).toArray).size<=Û+1
   rw[Ô,Ä,ä,P];omega
def Nx (hl:s.heap.IsList l us.toArray) (hz:us.length<64)
 (hk:2<=us.length->∀h1,(∀c o,s.heap.get? c=some o->h1.get? c=some o)->xM prog w A.in1.in1 O x us { s with heap:=h1 })
 (hQ:∀(q:Array Nat) h' b e,Pm us.length q->Up O (ky x q) us.length->(∀c o,s.heap.get? c=some o->h'.get? c=some o)->s.heap.objs.size<=b->h'.get? b=some (ZK "list" (q.toList.map λi=>us.getD i Value.none).toArray e)->Q (.ref b) { s with heap:=h' }) :
  Ú (î prog w) A (call (.builtin "sorted") [.ref l]) Q E s:=by
 have line:us.length<=Û:=by rw[ŏ];omega
 refine YV kind_sorted plain_sorted entry_sorted (args_sorted1 _) ?_;unfold Œ.«sorted»;refine À (m:=checkCount "sorted" 1 1 _) (Â (À (collect_list hl (À (wpAny_newList ?_ line)) line)));generalize X:((s.heap.push (ZK "list" #[] 0)).update s.heap.objs.size (ŗ (·++us.toArray)))=h1;have W:h1.objs.size=s.heap.objs.size+1:=by rw[<- X,Heap.size_update,size_push']
 have U:∀c o,s.heap.get? c=some o->h1.get? c=some o:=λc o e=>by
  have Z:c<s.heap.objs.size:=Ñ e;rw[<- X,Z3 _ _ _ _ (ç Z)];exact Á _ e
 show Ú _ _ _ _ _ { s with heap:=h1.push (ZK "list" us.toArray 0) }
 have V:(h1.push (ZK "list" us.toArray 0)).get? h1.objs.size=some (ZK "list" us.toArray 0):=Ì _ rfl;have old:∀c o,s.heap.get? c=some o->c≠h1.objs.size/\(h1.push (ZK "list" us.toArray 0)).get? c=some o:=λc o e=>by
  have Z:c<s.heap.objs.size:=Ñ e;exact⟨ç (by rw[W];exact Ġ Z),Á _ (U c o e)⟩
 refine À (ĝ (ý slot_list_sort ⟨_,V,rfl⟩ entry_list_sort (Ez V hz (λz h' Y=>hk z h' λc o e=>Y c o (old c o e).1 (old c o e).2) λq h' e T S Y R=>⟨_,rfl,?_⟩) (args_list_sort _)));exact Â ⟨_,rfl,hQ q h' _ e T S (λc o e=>Y c o (old c o e).1 (old c o e).2) (by show _<=h1.objs.size;rw[W];exact Y4 _) R⟩
end
open HT
def zW:∀a:List Int,lexLt a a=false:=λa=>by
 induction a with
 |nil=>rfl
 |cons i r ih=>rw[i7,é rfl];exact ih
def Sb:∀a b c:List Int,lexLt a b=true->lexLt b c=true->lexLt a c=true:=λa=>by
 induction a with
 |nil =>
  intro b c h g
  cases b with
  |nil=>cases h
  |cons j s=>cases c with
   |nil=>cases g
   |cons k t=>rfl
 |cons i r ih =>
  intro b c h g
  cases b with
  |nil=>cases h
  |cons j s =>
   cases c with
   |nil=>cases g
   |cons k t =>
    rw[i7] at h g |-;by_cases e1:i=j
    ·subst e1
     rw[é rfl] at h;by_cases e2:i=k
     ·rw[é e2] at g |-;exact ih s t h g
     ·rw[ð e2] at g |-;exact g
    ·rw[ð e1] at h
     have h:=Ė h;by_cases e2:j=k
     ·subst e2
      rw[ð e1];exact ß h
     ·rw[ð e2] at g
      have g:=Ė g;rw[ð (by omega)];exact ß (by omega)
def Qr:∀a b:List Int,lexLt a b=false->lexLt b a=false->a=b:=λa=>by
 induction a with
 |nil =>
  intro b h g
  cases b with
  |nil=>rfl
  |cons j s=>cases h
 |cons i r ih =>
  intro b h g
  cases b with
  |nil=>cases g
  |cons j s =>
   rw[i7] at h g;by_cases e:i=j
   ·subst e
    rw[é rfl] at h g;rw[ih s h g]
   ·rw[ð e] at h
    rw[ð (ų e)] at g;have h:=of_decide_eq_false h;have g:=of_decide_eq_false g;omega
section
variable {prog:ô} {w:Ĉ} {A:Ă} {E:Ê->Æ->Prop} {s:Æ}
inductive mV (h:ō):List Ê->List (List Int)->Prop where
 |nil:mV h [] []
 |cons {a:à} {its:Array Ê} {ns:List Int} {us:List Ê} {jv:List (List Int)}:IsTup h a its->Zx its.toList ns->mV h us jv->mV h (.ref a::us) (ns::jv)
def mV.keep (k:∀c o,h.get? c=some o->h'.get? c=some o) (t:mV h us jv):mV h' us jv:=by
 induction t with
 |nil=>exact .nil
 |cons a b _ ih =>
  obtain⟨o,Z,r⟩:=a;exact .cons ⟨o,k _ _ Z,r⟩ b ih
theorem mV.at (t:mV h us jv):∀i,i<us.length->∃a its,us.getD i Value.none=.ref a/\IsTup h a its/\Zx its.toList (jv.getD i []):=by
 induction t with
 |nil=>intro i hi;simp at hi
 |cons a b _ ih =>
  intro i hi
  cases i with
  |zero=>exact⟨_,_,rfl,a,b⟩
  |succ i =>
   obtain⟨c,its,e,r⟩:=ih i (by simpa using hi);exact⟨c,its,by simpa using e,r⟩
inductive vd:List (Option Ê)->List (List Int)->Prop where
 |nil:vd [] []
 |au {fs:List (Option Ê)} {jv:List (List Int)}:vd fs jv->vd (none::fs) ([]::jv)
 |one {fs:List (Option Ê)} {jv:List (List Int)} {n:Int} {t:Tok} {r:List Int}:vd fs jv->vd (some (.int n t)::fs) ((n::r)::jv)
noncomputable def ins {α:Type} (O:Ord α) (a:α):List α->List α
 | []=>[a]
 |b::r=>if O.lt b a=true then b::ins O a r else a::b::r
def eR {α:Type} (O:Ord α):List α->List α
 | []=>[]
 |a::r=>ins O a (eR O r)
end
section
variable {α:Type} {O:Ord α}
def F9 (a:α) (l:List α):(ins O a l).Perm (a::l):=by
 induction l with
 |nil=>exact .refl _
 |cons b r ih =>
  unfold ins;split
  ·exact(List.Perm.cons b ih).trans (List.Perm.swap a b r)
  ·exact .refl _
def lp (l:List α):(eR O l).Perm l:=by
 induction l with
 |nil=>exact .refl _
 |cons a r ih=>exact(F9 a _).trans (ih.cons a)
def Sd (a:α) (l:List α) (h:l.Pairwise O.le):(ins O a l).Pairwise O.le:=by
 induction l with
 |nil=>exact Zm _ _
 |cons b r ih =>
  obtain⟨X,W⟩:=ÿ.mp h;unfold ins
  split<;>rename_i Z
  ·refine ÿ.mpr ⟨λc Y=>?_,ih W⟩
   rcases Ò.mp ((F9 a r).mem_iff.mp Y) with e|e
   ·rw[e];exact Ord.le_of_lt Z
   ·exact X c e
  ·have Z:O.le a b:=by rw[υ] at Z;exact Z
   refine ÿ.mpr ⟨λc Y=>?_,h⟩
   rcases Ò.mp Y with e|e
   ·rw[e];exact Z
   ·exact Ord.qx Z (X c e)
def vV (l:List α):(eR O l).Pairwise O.le:=by
 induction l with
 |nil=>exact .nil
 |cons a r ih=>exact Sd a _ ih
def Fu:∀{l m:List α},l.Perm m->l.Pairwise O.le->m.Pairwise O.le->l=m:=by
 intro l
 induction l with
 |nil=>intro m h _ _;exact h.nil_eq
 |cons a r ih =>
  intro m h Z Y
  cases m with
  |nil=>exact absurd h.length_eq (by simp)
  |cons b t =>
   obtain⟨a1,a2⟩:=ÿ.mp Z;obtain⟨X,W⟩:=ÿ.mp Y;have e:a=b:=by
    rcases Ò.mp (h.mem_iff.mp Î) with e|e
    ·exact e
    ·rcases Ò.mp (h.mem_iff.mpr Î) with e'|e'
     ·exact e'.symm
     ·exact Ord.Jp (a1 b e') (X a e)
   subst e;rw[ih h.cons_inv a2 W]
def Ga (h:l.Perm m):eR O l=eR O m:=Fu ((lp l).trans (h.trans (lp m).symm)) (vV l) (vV m)
def Ny (hp:Pm xs.length q) (hu:Up O (ky (λi=>xs.getD i d) q) xs.length):q.toList.map (λi=>xs.getD i d)=eR O xs:=by
 refine Fu ?_ ?_ (vV xs)
 ·refine(hp.2.map _).trans ?_
  have:(Ó xs.length).map (λi=>xs.getD i d)=xs:=by
   apply Ÿ;intro i;by_cases hi:i<xs.length
   ·simp[hi]
   ·simp[hi,ς hi]
  rw[this];exact(lp xs).symm
 ·rw[List.pairwise_iff_getElem]
  intro i j hi W Z;have V:(q.toList.map λi=>xs.getD i d).length=xs.length:=by rw[Ä,ä,hp.1]
  have Y:j<q.size:=by rw[hp.1];omega
  have X:i<q.size:=by omega
  have:=hu i j Z (by omega);unfold ky at this;simpa [aad,X,Y] using this
end
end ST
namespace DI
open PySem L2
section
variable {X:Cx} {Ξ:Wd->bg->Prop} {a e tg:ņ} {p pos:Pos} {f:aah D} {fa:aah (List D)}
noncomputable def qy (n:Nat):List D:=(Ó n).map λi:Nat=>D.int ((n:Int)-1-i)
def Nz (n:Nat):(qy n).length=n:=by simp[qy]
def NA (n i:Nat):(qy n)[i]?=if i<n then some (.int ((n:Int)-1-i)) else none:=by
 unfold qy;rw[Ü];split
 ·rename_i h;rw[ĥ h];rfl
 ·rename_i h;rw[Ģ (by simp;omega)];rfl
def Se:ny K w (BN n) (qy n):=λX V W i=>by
 refine⟨λd Z=>?_,λY=>by rw[Nz] at Y;exact Y⟩;rw[NA] at Z;split at Z
 ·cases Z
  exact⟨by assumption,λx U ⟨e1,e2⟩=>⟨X,e1.symm,Le.refl _,W,rfl,e2⟩⟩
 ·cases Z
def Dm (fa:aah (List D)):aah (List D):=λenv s=>aq (fa env s) λZ s=>match Z with
 | [.int j]=>if (jg j&&decide (0<=j))=true then ok (qy j.toNat) s else none
 |_=>none
def T5 {p2 dZ:Pos} (hg:Gl X "reversed") (hm:X.mg "reversed"=none) (oZ:Gl X "range") (lZ:X.mg "range"=none) (ha:PA X [a] (tA X.K Ξ fa))
  (he:Ý [a] X.env=(false,Ž a X.env)::Ý [] X.env:=by rfl) (bO:(Yt dZ (Ý [] X.env)).any (·.1)=false:=by rfl)
  (hs:Ý [.Call (.Name "range" p2) [a] [] dZ] X.env=[(false,Ž (.Call (.Name "range" p2) [a] [] dZ) X.env)]:=by rfl)
  (kY:Ý [.Call (.Name "range" p2) [a] [] dZ] X.env=(false,Ž (.Call (.Name "range" p2) [a] [] dZ) X.env)::Ý [] X.env:=by rfl) :
  PI X tg (.Call (.Name "reversed" p) [.Call (.Name "range" p2) [a] [] dZ] [] pos) (ef X.K Ξ (Dm fa)) :=
 sG (RU hg hm (mx (pQ Mh oZ lZ (by decide +kernel) ha (by decide) (by decide) he bO) mE kY) hs) fun σ H R V=>by
  obtain⟨w,env,U,S,T,h⟩:=V;subst U;refine⟨w,env,rfl,S,T,(Out.aq h).mono λQ M L P Z J O=>?_⟩;split at Z
  ·rename_i j
   split at Z
   ·rename_i Y
    simp only[jg,È,Å] at Y;obtain⟨v,r,rfl,N,dr⟩:=O;have e1:v=.int j:=N;have e2:r=[]:=dr;subst e1 e2;refine⟨j,rfl,λq W=>?_⟩;refine⟨q,j.toNat,rfl,?_,by omega,?_⟩
    ·rw[cU,Z4 Y.2]
    ·exact Z (Q.grow q (.bc 0 j)) (Fw.grow W).le (P.grow W) rfl _ Se
   ·exact Z.elim
  ·exact Z.elim
end
end DI
namespace L2
open PySem PySem.Spec PyProof.Rows
structure Ig (sc:ZF) (cl gg:List (Str×à)) (C:Nat) (h:ō):Prop where
 old:∀n c,gg.lookup n=some c->(C<c/\(n,NameKind.cell)∈sc.names/\∃v,h.IsCell c v)\/cl.lookup n=some c
 own:∀n,sc.names.lookup n=some .cell\/(cl.lookup n).isSome=true->∃c,gg.lookup n=some c
 inj:(∀x y c,cl.lookup x=some c->cl.lookup y=some c->x=y)->(∀x c,cl.lookup x=some c->c<C)->∀x y c,gg.lookup x=some c->gg.lookup y=some c->x=y
theorem yZ:∀(names:List (Str×YE)) (n:Nat) (acc:List (Str×à)),(YO n names acc).lookup x=some c->((x,NameKind.cell)∈names/\n<=c)\/acc.lookup x=some c
 | [],n,acc,h=>.inr h
 |(y,k)::r,n,acc,h=>by
  unfold YO at h;split at h
  ·rename_i Z
   have Z:k=.cell:=by simpa using Z
   subst Z
   rcases yZ r (n+1) _ h with ⟨h1,Y⟩|h1
   ·exact .inl ⟨Ð _ h1,by omega⟩
   ·rw[Ň] at h1
    split at h1
    ·rename_i e
     have e:x=y:=by simpa using e
     subst e;cases h1;exact .inl ⟨Î,aal _⟩
    ·exact .inr h1
  ·rcases yZ r n acc h with ⟨h1,Y⟩|h1
   ·exact .inl ⟨Ð _ h1,Y⟩
   ·exact .inr h1
theorem y0:∀(names:List (Str×YE)) (n:Nat) (acc:List (Str×à)),(∀x y c,acc.lookup x=some c->acc.lookup y=some c->x=y)->(∀x c,acc.lookup x=some c->c<n)->∀x y c,(YO n names acc).lookup x=some c->(YO n names acc).lookup y=some c->x=y
 | [],n,acc,hi,X=>hi
 |(z,k)::r,n,acc,hi,X=>by
  unfold YO;split
  ·refine y0 r (n+1) _ (λx y c Z Y=>?_) λx c Z=>?_
   ·rw[Ň] at Z Y
    split at Z
    ·rename_i e1
     split at Y
     ·rename_i e2
      exact(by simpa using e1:x=z).trans (by simpa using e2:y=z).symm
     ·cases Z
      exact absurd (X y _ Y) (ù _)
    ·split at Y
     ·cases Y
      exact absurd (X x _ Z) (ù _)
     ·exact hi x y c Z Y
   ·rw[Ň] at Z
    split at Z
    ·cases Z;exact Ť _
    ·exact Ġ (X x c Z)
  ·exact y0 r n acc hi X
theorem zr {lo:Nat}:∀(names:List (Str×YE)) (h:ō) (acc:List (Str×à)),lo<=h.objs.size->(∀x c,acc.lookup x=some c->lo<=c->h.IsCell c none)->(YO h.objs.size names acc).lookup x=some c->lo<=c->(pushCells h names).IsCell c none
 | [],h,acc,_,Z,e,Y=>Z x c e Y
 |(z,k)::r,h,acc,V,Z,e,Y=>by
  unfold YO at e;unfold pushCells;split at e
  ·rename_i W
   rw[é W];have U:(h.push { cls:=.type "cell",data:=.cell none }).objs.size=h.objs.size+1:=Ą ..;refine zr (lo:=lo) r _ ((z,h.objs.size)::acc) (by omega) (λy d X T=>?_) (by rw[U];exact e) Y;rw[Ň] at X;split at X
   ·cases X
    exact⟨_,Ì _ rfl,rfl⟩
   ·exact(Z y d X T).keeps λb o q=>Á _ q
  ·rename_i W
   rw[ð W];exact zr r h acc V Z e Y
def LF {E:Ê->Æ->Prop} {Q:Env->Æ->Prop}
 (hQ:∀gg h3,((∀x c,cl.lookup x=some c->c<s.heap.objs.size)->Ig scope cl gg s.heap.objs.size h3)->h3.Ns s.heap.objs.size (λ_=>none)->(∀b o,s.heap.get? b=some o->h3.get? b=some o)->Q (newEnv scope s.heap.objs.size globals gg qual none .none (some env) bi) { s with heap:=h3 }) :
  Ú M A (newFunctionEnv scope globals cl [] qual none .none (some env) bi) Q E s:=by
 simp only[newFunctionEnv,Option.isSome_some,ø];refine À (wpAny_alloc ?_)
 refine À (wpAny_layCells _ (λname kind cells=>by cases Z:kind==NameKind.cell<;>simp[Z]) _ _ _ _ ?_)
 rw[show ({ s with heap:=s.heap.push { cls:=.type "dict",data:=.dict #[] } }:Æ).heap.objs.size=s.heap.objs.size+1 from Ą ..]
 simp only[List.forIn_nil];refine À (Â (Â ?_));have Y:(s.heap.push { cls:=.type "dict",data:=.dict #[] }).objs.size=s.heap.objs.size+1:=Ą ..;refine hQ (YO (s.heap.objs.size+1) scope.names cl) _ (λX=>⟨λn c e=>?_,λn W=>?_,λhi V=>y0 _ _ _ hi λx c e=>Ġ (V x c e)⟩) ((Heap.Ns.new s.heap (.type "dict")).keeps (pushCells_keeps _ _)) λb o e=>pushCells_keeps _ _ b o (Á _ e)
 ·rcases yZ _ _ _ e with ⟨h1,U⟩|h1
  ·exact .inl ⟨by omega,h1,none,zr (lo:=s.heap.objs.size+1) scope.names _ cl (by omega) (λx d q T=>absurd (X x d q) (Nat.not_lt.mpr (Nat.le_of_succ_le T))) (by rw[Y];exact e) U⟩
  ·exact .inr h1
 ·exact Option.isSome_iff_exists.mp (Zt scope.names _ cl W)
abbrev eD (X:Cx) (N:List Str) (sc:ZF) (cl:List (Str×à)) (C:à) (s:Æ) (H:Hp) (ex:List à) (pn:List (à×Obj)):Cx:={ df X N sc cl C s H ex pn with fn:=λx=>sc.names.lookup x==some .cell }
structure n0 (X:Cx) (sc:ZF) (N:List Str) (nt:Nat) (cap:List Nat):Prop where
 kind:sc.kind=.function
 names:∀x∈sc.names,x.2=.local->sc.names.lookup x.1=some .local
 cells:∀x∈sc.names,x.2=.cell->sc.names.lookup x.1=some .cell
 frees:∀x∈sc.names,x.2=.free->sc.names.lookup x.1=some .free/\(X.env.scope.names.lookup x.1=some .cell\/X.env.scope.names.lookup x.1=some .free)
 len:N.length=nt+cap.length
 BF:∀(k:Nat) j,cap[k]?=some j->∃x,X.N[j]?=some x/\N[nt+k]?=some x/\(x,NameKind.free)∈sc.names
section
variable {X:Cx} {sc:ZF} {N:List Str} {nt:Nat} {cap:List Nat} {cl gg:List (Str×à)} {s:Æ} {h1:ō} {H:Hp} {σ:St} {π:List (à×Obj)} {fp:List à} {C:à} {t':Nat}
def Inv.Sf (I:Inv X π σ H s) (S:n0 X sc N nt cap) (cQ:∀n c,cl.lookup n=some c↔((n,NameKind.free)∈sc.names/\X.env.cells.lookup n=some c)) (iW:Ig sc cl gg C h1) (hf:∀b∈fp,fk X π H b) (iX:∀b∈fp,b<s.heap.objs.size)
  (hk:∀b o,s.heap.get? b=some o->h1.get? b=some o) (hC:s.heap.objs.size<=C) (qT:∃m,h1.Ns C m):Inv (eD X N sc gg C s H fp (X.pn++π)) [] (kB nt cap σ) H { s with heap:=h1,toks:=t' }:=by
 have O:∀b∈gC X.stack,b∈X.env.locals::X.fs:=I.lC;have J:∀x c,cl.lookup x=some c->c<s.heap.objs.size:=λx c e=>by
  obtain⟨v,o,V,_⟩:=I.cell x c ((cQ x c).mp e).2;exact Ñ V
 have G:∀x,(relabel sc X.env).names.lookup x=some .cell\/(relabel sc X.env).names.lookup x=some .free->(x,NameKind.free)∈sc.names\/sc.names.lookup x=some .cell:=λx Z=>by
  rw[vz] at Z
  cases e:sc.names.lookup x with
  |none=>rw[e] at Z;rcases Z with z|z<;>cases z
  |some k =>
   have hm:(x,k)∈sc.names:=by
    obtain⟨l1,l2,e1,_⟩:=List.lookup_eq_some_iff.mp e;rw[e1];simp
   rw[e] at Z
   cases k with
   |free=>exact .inl hm
   |cell=>exact .inr rfl
   |_=>exfalso;revert Z;simp
 have F:∀x,(x,NameKind.free)∈sc.names->∃c,X.env.cells.lookup x=some c:=λx Z=>I.ok.has x (S.frees _ Z rfl).2;have M:∀x c,(x,NameKind.free)∈sc.names->X.env.cells.lookup x=some c->gg.lookup x=some c:=λx c Z R=>by
  have e:=(cQ x c).mpr ⟨Z,R⟩;obtain⟨d,hd⟩:=iW.own x (.inr (by rw[e];rfl))
  rcases iW.old x d hd with ⟨_,q,_⟩|q
  ·have T:=S.cells _ q rfl
   have W:=(S.frees _ Z rfl).1;dsimp only at T W;rw[T] at W;cases W
  ·rw[e] at q
   cases q;exact hd
 have ok:Cx.Ok (eD X N sc gg C s H fp (X.pn++π)):=by
  refine⟨I.ok.mod,?_,I.ok.glob,I.ok.blt,hC,?_,?_,?_,I.ok.hd,I.ok.frames,.inl rfl,?_,I.bs,è I.ok.jo I.sz,?_,?_,I.stack,I.zJ⟩
  ·exact S.kind
  ·exact iW.inj (λx y c Z E=>I.ok.inj x y c ((cQ x c).mp Z).2 ((cQ y c).mp E).2) λx c e=>Ë (J x c e) hC
  ·intro x Z
   rcases G x Z with hm|hm
   ·obtain⟨c,e⟩:=F x hm
    exact⟨c,M x c hm e⟩
   ·exact iW.own x (.inl hm)
  ·intro x c Z e
   rcases iW.old x c e with ⟨q,_,_⟩|q
   ·exact è hC (Nat.le_of_lt q)
   ·have W:=(S.frees _ ((cQ x c).mp q).1 rfl).1
    have T:sc.names.lookup x=some .cell:=by simpa using Z
    dsimp only at W;rw[T] at W;cases W
  ·intro b Y
   refine⟨ç (Ë (iX b Y) hC),λx c e=>?_⟩
   rcases iW.old x c e with ⟨q,_,_⟩|q
   ·exact ŧ (Ë (iX b Y) (è hC (Nat.le_of_lt q)))
   ·exact(hf b Y).2.2.2.2.1 x c ((cQ x c).mp q).2
  ·intro b o e Y
   rcases(hf b Y).2.2.2.1 with z|z
   ·exact I.ok.mR b o e z
   ·exact absurd (Ë (Ñ e) (è I.ok.jo z)) (ù _)
  ·intro b Y z
   rcases Ò.mp (O b z) with e|e
   ·exact(hf b Y).2.1 e
   ·exact(hf b Y).2.2.1 e
 obtain⟨m,hm⟩:=qT;obtain⟨mX,VS,D⟩:=I.loc;refine⟨ok,rfl,I.bare,Un.kept hk,⟨m,hm,λi x v e1 e2 e3=>?_⟩,λx c e=>?_,I.aC.fresh hC,λx c e=>?_,λp B=>?_,I.aC.kept hk,?_⟩
 ·
  have hi:nt<=i:=by
   apply ς;intro L;have:(kB nt cap σ)[i]?=some none:=by
    unfold kB;rw[Õ (by simpa using L),ī,é L]
   rw[this] at e2;cases e2
  have U:(cap.map λj=>(σ[j]?).getD none)[i-nt]?=some (some v):=by
   have e:=e2;unfold kB at e;rw[æ (by simpa using hi)] at e;simpa using e
  rw[Ü] at U
  cases Q:cap[i-nt]? with
  |none=>rw[Q] at U;cases U
  |some j =>
   rw[Q] at U;have ev:(σ[j]?).getD none=some v:=aam U;have A:σ[j]?=some (some v):=by
    cases q:σ[j]? with
    |none=>rw[q] at ev;cases ev
    |some z=>rw[q] at ev;exact ļ some ev
   obtain⟨y,f1,f2,K⟩:=S.BF _ _ Q;rw[Nat.add_sub_cancel' hi] at f2;have w:y=x:=aam (f2.symm.trans e1);subst w;obtain⟨g1,g2⟩:=S.frees _ K rfl;have t:uw X.env.scope y:=.inr g2;obtain⟨u,r,l⟩:=D j y v f1 A t;refine⟨u,r,.inr ⟨?_,?_⟩⟩
   ·show (relabel sc X.env).names.lookup y=some .cell\/(relabel sc X.env).names.lookup y=some .free
    rw[vz,g1];simp only[ŷ];split
    ·exact .inl rfl
    ·exact .inr rfl
   ·rcases l with ⟨k,_⟩ | ⟨_,c,R,h⟩
    ·exfalso
     have g:X.env.scope.names.lookup y=some .local:=k;dsimp only at g2;rw[g] at g2
     rcases g2 with z|z<;>cases z
    ·obtain⟨P,V,hd⟩:=h
     exact⟨c,M y c K R,P,hk _ _ V,hd⟩
 ·rcases iW.old x c e with ⟨_,_,q⟩|q
  ·exact q
  ·obtain⟨v,P,V,hd⟩:=I.cell x c ((cQ x c).mp q).2
   exact⟨v,P,hk _ _ V,hd⟩
 ·rcases iW.old x c e with ⟨q,_,_⟩|q
  ·exact I.aC.fresh (by omega)
  ·exact I.je x c ((cQ x c).mp q).2
 ·have f:p∈X.pn++π:=by simpa using B
  obtain⟨e,n,ne,a,d⟩:=I.pin p f;refine⟨hk _ _ e,n,ç (Ë (Ñ e) hC),λz=>?_,d⟩
  rcases Ò.mp (O p.1 z) with q|q
  ·exact ne q
  ·exact a q
 ·unfold kB
  rw[í,Yu,Ä];exact S.len.symm
end
structure Jr (P:ô) (w:Ĉ) (E el tg src:ņ) (tests:List ņ) (new:Sem Ê) (ap:String) (mk:à->List V->HO) (jZ:List V->Prop) where
 o0:Obj
 live:o0.isFreed=false
 Ac:à->List V->ō->Prop
 clauses:clausesOf E=[⟨tg,src,tests,0⟩]
 turns:∀{A:Ă} {R:Result->Æ->Prop} {s:Æ} {fZ av:Ê} {ce:Env} (J:Nat->Æ->Prop)
  (turn:∀n s,J n s->Ú (î P w) A (ž fZ) (λr s1=>match r with
   |none=>R (.ok .next) s1
   |some v=>Ú (î P w) A (Ř tg fZ v) (λ_ s2=>Ú (î P w) A (ZO tg ce v) (λ_ s3 =>
     Ú (î P w) A (forIn tests true λc r=>if r=true then do let ok <- isTrue c ce (Ž c ce);pure (ř ok) else pure (ř r)) (λok s4 =>
      if ok=true then Ú (î P w) A (Ž el ce) (λy s5=>Ú (î P w) A (call (.builtin ap) [av,y]) (λ_ s6=>∃m,m<n/\J m s6) (λ_ _=>False) s5) (λ_ _=>False) s4
      else ∃m,m<n/\J m s4) (λ_ _=>False) s3) (λ_ _=>False) s2) (λ_ _=>False) s1) (λ_ _=>False) s)
  (n:Nat) (_:J n s),YM (î P w) A (.compLoop E 0 fZ av ce) R s
 new:∀{A:Ă} {X:Ê->Æ->Prop} {s:Æ} {Q:Ê->Æ->Prop},Q (.ref s.heap.objs.size) { s with heap:=s.heap.push o0 }->Ú (î P w) A new Q X s
 start:∀{A:Ă} {R:Result->Æ->Prop} {s:Æ} {it acc:Ê} {env:Env},YM (î P w) A (.compLoop E 0 it acc env) R s->Ú (î P w) A (aag it) (λkZ s'=>YM (î P w) A (.compLoop E 0 kZ acc env) R s') (notedBy (î P w) A env λx s'=>R (.error x) s') s->YM (î P w) A (.compStart E 0 it acc env) R s
 init:∀{D:à} {h:ō},h.get? D=some o0->Ac D [] h
 obj:∀{D:à} {acc:List V} {h:ō},Ac D acc h->∃o,h.get? D=some o/\∀v,o.data≠.cell v
 dB:∀{D:à} {acc:List V} {h h':ō},Ac D acc h->(∀o,h.get? D=some o->h'.get? D=some o)->Ac D acc h'
 Ih:∀{D:à} {acc:List V} {h:ō} {H:Hp},jZ acc->Ac D acc h->cL P w (upd H D (mk D acc)) h D (mk D acc)
 add:∀{A:Ă} {s:Æ} {D:à} {acc:List V} {v:V} {y:Ê} {Q:Ê->Æ->Prop},Ac D acc s.heap->RelV v y->jZ acc->jZ (acc++[v])->(∀h' tk,Ĵ D s.heap h'->Ac D (acc++[v]) h'->Q .none { s with heap:=h',toks:=tk })->Ú (î P w) A (call (.builtin ap) [.ref D,y]) Q (λ_ _=>False) s
section
variable {X:Cx}
def EY {E el tg src:ņ} {tests:List ņ} {sc:ZF} {N:List Str} {nt:Nat} {cap:List Nat} {wi:TI} {g:TG} {tf:TT} {te:TE} {p1:Pos} {use:Option (Ê->Sem Unit)} {R:Ê->Æ->Prop} {π:List (à×Obj)} {s:Æ} {σ:St} {H:Hp} {Q:VK} {new:Sem Ê} {ap:String} {mk:à->List V->HO} {jZ:List V->Prop} (B:Jr X.prog X.w E el tg src tests new ap mk jZ) (hc:X.calm=true) (S:n0 X sc N nt cap) (gb:lV g nt) (hi:PI X tg src wi)
  (hY:∀(cl:List (Str×à)) (C:à) (s:Æ) (H:Hp) (ex:List à) (pn:List (à×Obj)),PG (eD X N sc cl C s H ex pn) tg g/\PF (eD X N sc cl C s H ex pn) tests tf/\PE (eD X N sc cl C s H ex pn) el te)
  (hs:∀x,ć src X.env x=pure x) (I:Inv X π σ H s) (h:wi σ H λJ H1=>Kt mk jZ J nt (lH cap σ) g tf te H1 Q)
  (BS:∀(s':Æ) (H1:Hp) (D C:à) (m:Str->Option Ê),(∀h',Ĵ C s'.heap h'->Inv X π σ H1 { s' with heap:=h' })->s'.heap.Ns C m->H1 C=none->C≠X.env.locals->C∉X.fs->X.cH.heap.objs.size<=C->(∀x c,X.env.cells.lookup x=some c->c≠C)->(∀p∈X.pn++π,p.1≠C)->Q (.ref D) H1->compPost (î X.prog X.w) X.A X.xe use R (.ref D) C (.ok .next) s') :
  Ú (î X.prog X.w) X.A (comprehension E sc X.env p1 new false (Ž src X.env) use) R X.xe s:=by
 obtain⟨cl,A5,cQ⟩:=HJ (env:=X.env) (sc:=sc) λn hn=>I.ok.has n (S.frees _ hn rfl).2;refine wpAny_comprehension_free (use:=use) B.clauses hs A5 S.kind S.names (aJ (hi π s σ H _ I h) λxv s1 h1=>aJ h1 λfZ k h2=>?_);obtain⟨it,t,tn,J,H2,e,M,T,jq,f2,W,⟨m0,w0⟩,turn⟩:=h2;subst e;refine B.new (LF λgg h3 j jS nq=>?_);dsimp only at j jS nq |-;generalize hD:k.heap.objs.size=D at j jS nq |-;generalize hG:k.heap.push B.o0=G at j jS nq |-;generalize C9:G.objs.size=C at j jS nq |-;have hC:C=D+1:=by rw[<- C9,<- hG,Ą,hD]
 have pf:D≠C:=by omega
 have d:k.heap.objs.size<=D:=Nat.le_of_eq hD;have l:k.heap.objs.size<=C:=by omega
 have old:∀b o,k.heap.get? b=some o->h3.get? b=some o:=λb o e=>nq b o (hG ▸ Á _ e);have kK:B.Ac D [] h3:=B.init (nq _ _ (hG ▸ hD ▸ Ì _ B.live));have iX:∀b∈t,b<k.heap.objs.size:=λb P=>by
  obtain⟨o,e,_⟩:=T.obj _ _ jq b P;exact Ñ e
 have j:=j λx c e=>by
  obtain⟨v,o,ho,_⟩:=M.cell x c ((cQ x c).mp e).2;exact Ë (Ñ ho) l
 have IB:=M.Sf (t':=k.toks) S cQ j f2 iX old l ⟨_,jS⟩;have Dc:D∉gC X.stack:=λz=>by
  rcases Ò.mp (M.lC D z) with e|e
  ·exact absurd (Ë M.lt d) (by rw[e];exact ù _)
  ·exact M.tL d e
 have l6:D∉t:=λz=>absurd (Ë (iX D z) d) (ù _);have Az:∀x c,gg.lookup x=some c->c≠D:=λx c e z=>by
  rcases j.old x c e with ⟨q,_,_⟩|e
  ·rw[z] at q
   exact absurd q (by rw[hC];exact Nat.not_lt.mpr (Y4 D))
  ·obtain⟨v,o,ho,_⟩:=M.cell x c ((cQ x c).mp e).2
   exact absurd (Ë (Ñ ho) (by rw[z];exact d)) (ù _)
 have A6:∀p∈X.pn++π,p.1≠D:=λp L z=>absurd (Ë (Ñ (M.pin p L).1) (by rw[z];exact d)) (ù _);generalize O:eD X N sc gg C k H2 t (X.pn++π)=Y at IB;have l7:∀{U:Hp} {pl:List (à×Obj)},(∀b∈t,U b=none)->(∀p∈pl,p.1∉t)->∀b∈t,fk Y pl U b:=λ{U pl} hn L b P=>by
  subst O;obtain⟨_,f1,o9,f3,f4,f5⟩:=f2 b P;refine⟨hn b P,ç (Ë (iX b P) l),λz=>?_,.inl P,λx c e=>(j.old x c e).elim (λq z=>ŧ (Ë (iX b P) (è l (Nat.le_of_lt q.1))) z) λe=>f4 x c ((cQ x c).mp e).2,λp u0=>?_⟩
  ·rcases Ò.mp (M.lC b z) with e|e
   ·exact f1 e
   ·exact o9 e
  ·rcases â.mp u0 with z|z
   ·exact f5 p z
   ·exact λe=>L p z (e ▸ P)
 have Dd:PG Y tg g:=by subst O;exact(hY _ _ _ _ _ _).1
 have De:PF Y tests tf:=by subst O;exact(hY _ _ _ _ _ _).2.1
 have Wu:PE Y el te:=by subst O;exact(hY _ _ _ _ _ _).2.2
 have eP:Y.prog=X.prog:=by subst O;rfl
 have eW:Y.w=X.w:=by subst O;rfl
 have eA:Y.A=X.A:=by subst O;rfl
 have eK:Y.K=X.K:=by subst O;rfl
 have eE:Y.env=compEnvC sc gg C X.env:=by subst O;rfl
 have eX:Y.xe=λ_ _=>False:=by subst O;rfl
 have eC:Y.calm=true:=by subst O;exact hc
 have eS:Y.cH.heap.objs.size<=D:=by subst O;exact d
 have eF:D∉Y.fs:=by subst O;exact Dc
 have eL:D≠Y.env.locals:=by subst O;exact pf
 have Wv:∀x c,Y.env.cells.lookup x=some c->c≠D:=by subst O;exact Az
 have eN:∀p∈Y.pn,p.1≠D:=by subst O;exact A6
 have fin:∀(s':Æ) (a:St) (U:Hp) (Z:List V),Inv Y [] a U s'->B.Ac D Z s'.heap->U D=none->jZ Z->(∀D,U D=none->Q (.ref D) (upd U D (mk D Z))) ->
   compPost (î X.prog X.w) X.A X.xe use R (.ref D) C (.ok .next) s':=by
  intro s' a U Z F pl hn hz q;subst O;obtain⟨m,hm,_⟩:=id F.loc;refine BS s' (upd U D (mk D Z)) D C m (λh' sb=>?_) hm ?_ (λz=>absurd (Ë M.lt l) (by rw[z];exact ù _)) (M.tL l) (è M.sz l) (λx c e z=>?_) (λp L z=>absurd (Ë (Ñ (M.pin p L).1) (by rw[z];exact l)) (ù _)) (q D hn)
  ·have BY:bZ X.prog X.w U h':=F.aC.but F.free sb
   have u:=(F.base.but l sb).adopt (o:=mk D Z) d hn
   refine M.w9 (s':={ s' with heap:=h' }) (ch:=t) F.os u (BY.adopt hn (B.Ih hz (B.dB pl λo e=>(sb.2 D pf).trans e))) F.bare (λb P=>?_)
   obtain⟨_,f1,_,f3,f4,f5⟩:=f2 b P;exact⟨f3,f1,f4,f5⟩
  ·rw[bj (ų pf)]
   exact F.free
  ·obtain⟨v,o,js,_⟩:=M.cell x c e
   exact absurd (Ë (Ñ js) (by rw[z];exact l)) (ù _)
 have loop:YM (î X.prog X.w) X.A (.compLoop E 0 (.ref it) (.ref D) (compEnvC sc gg C X.env)) (compPost (î X.prog X.w) X.A X.xe use R (.ref D) C)
   { k with heap:=h3 }:=by
  refine B.turns (λn s'=>∃i Z o U,Inv Y [] (o++lH cap σ) U s'/\o.length=nt/\tn i s'.heap/\(∀b∈t,U b=none)/\B.Ac D Z s'.heap/\U D=none/\W i n Z U) ?_ m0
   ⟨0,[],Ï nt none,H2,IB,by simp,T.keep _ _ _ jq λb _ o e=>old b o e,λb P=>(f2 b P).1,kK,M.aC.fresh d,w0⟩
  rintro n s3 ⟨i,Z,o3,H3,I3,KP,mZ,m7,KQ,Ww,w3⟩;generalize Wx:o3++lH cap σ=a at I3;obtain⟨f,ho,T6⟩:=B.obj KQ;have u4:Inv Y [(D,f)] a H3 s3:=I3.lu λp L=>by
   have e:p=(D,f):=by simpa using L
   subst e;exact⟨ho,Ww,eL,eF,T6⟩
  have pd:∀p∈[(D,f)],p.1∉t:=λp L=>by
   have e:p=(D,f):=by simpa using L
   subst e;exact l6
  have ra:∀{pl:List (à×Obj)} {cq:St} {U:Hp} {s':Æ},Inv Y ([(D,f)]++pl) cq U s'->B.Ac D Z s'.heap/\U D=none:=λ{pl cq U s'} F=>by
   have q:=F.pin (D,f) (Í _ (Ć _ (by simp)));exact⟨B.dB KQ λo e=>by rw[ho] at e;cases e;exact q.1,q.2.1⟩
  rcases turn i n Z H3 w3 with ⟨stop,hz,q⟩ | ⟨go,hz,N',hN,step⟩
  ·have hd:=T.done Y eP eW eK eC i [(D,f)] s3 a H3 (λ_ _=>False) u4 (l7 m7 pd) mZ stop
   rw[eA] at hd;refine aJ hd λr s4 h4=>?_;obtain⟨hr,I4⟩:=h4;subst hr;obtain⟨C7,n4⟩:=ra (pl:=[]) (by simpa using I4);exact fin s4 a H3 Z (Inv.lr (π:=[]) I4) C7 n4 hz q
  ·have hd:=T.item Y eP eW eK eC i [(D,f)] s3 a H3 (λ_ _=>False) u4 (l7 m7 pd) mZ go
   rw[eA] at hd;refine aJ hd λr s4 h4=>?_;obtain⟨u,hr,h4⟩:=h4;subst hr;refine aJ h4 λ_ s5 h5=>?_;obtain⟨x,H5,I5,r5,y5,jW,uE⟩:=h5;have uF:=I5.pinned (l7 uE pd) (T.obj _ _ jW);have q5:=Dd _ s5 a H5 x u _ uF r5 (Wx ▸ gb x o3 _ H5 _ KP (step o3 x H5 KP y5));rw[eP,eW,eA,eE,eX] at q5;refine aJ q5 λ_ s6 h6=>?_;obtain⟨rb,H6,I6,⟨o6,u5,xK⟩,q6⟩:=h6;have q7:=De _ s6 rb H6 _ I6 q6;rw[eP,eW,eA,eE,eX] at q7;refine aJ q7 λb s7 h7=>?_;obtain⟨H7,I7,q7⟩:=h7;have t4:∀{cq:St} {U:Hp} {s':Æ},Inv Y ([(D,f)]++mC t s5.heap) cq U s'->tn (i+1) s'.heap/\∀b∈t,U b=none:=λ{cq U s'} F=>by
    refine⟨T.keep _ _ _ jW λb P o e=>(F.pin (b,o) (Í _ (Í _ (pM P e)))).1,λb P=>?_⟩;obtain⟨o,e,_⟩:=T.obj _ _ jW b P;exact(F.pin (b,o) (Í _ (Í _ (pM P e)))).2.1
   cases b with
   |false =>
    rw[ð Ö] at q7 |-;obtain⟨m',hm,w7⟩:=hN _ _ q7;obtain⟨yb,n7⟩:=ra I7;obtain⟨t7,f7⟩:=t4 I7;exact⟨m',hm,i+1,Z,o6,H7,xK ▸ I7.lu (λp L=>by simp at L),u5,t7,f7,yb,n7,w7⟩
   |true =>
    rw[é rfl] at q7 |-;have q8:=Wu _ s7 rb H7 _ I7 q7;rw[eP,eW,eA,eE,eX] at q8;refine aJ q8 λy s8 h8=>?_;obtain⟨v,H8,I8,r8,q9⟩:=h8;obtain⟨m',hm,w8⟩:=hN _ _ q9;obtain⟨C3,n8⟩:=ra I8;obtain⟨t8,f8⟩:=t4 I8;have eZ:jZ (Z++[v]):=by
     rcases turn (i+1) m' (Z++[v]) H8 w8 with q|q
     ·exact q.2.1
     ·exact q.2.1
    refine B.add C3 r8 hz eZ λh9 Wy ya C4=>?_;have C5:Inv Y [] rb H8 s8:=I8.lu (λp L=>by simp at L)
    have I9:Inv Y [] rb H8 { s8 with heap:=h9,toks:=Wy }:=C5.turned (it:=D) (λb o P e=>(ya.2 b P).trans e) n8 eL (.inr eS) Wv (λp L=>eN p (by simpa using L))
    exact⟨m',hm,i+1,Z++[v],o6,H8,xK ▸ I9,u5,T.keep _ _ _ t8 λb P o e=>(ya.2 b (λz=>l6 (z ▸ P))).trans e,f8,C4,n8,w8⟩
 exact B.start loop (T.self _ _ _ _ _ (T.keep _ _ _ jq λb _ o e=>old b o e) loop)
def J6 {P:ô} {w:Ĉ} {el tg src:ņ} {tests:List ņ} {sc:ZF} {ps:Pos}:Jr P w (.ListComp el [⟨tg,src,tests,0⟩] sc ps) el tg src tests (newList []) "list.append" (λ_ acc=>.lst acc) (λacc=>acc.length<=Û) where
 o0:={ cls:=.type "list",dict:=none,data:=.seq ([]:List Ê).toArray }
 live:=rfl
 Ac:=λD acc h=>∃Z,h.PlainList D Z/\Vals acc Z.toList
 clauses:=rfl
 turns:=Mz
 new:=λh=>ö h
 start:=codeAny_compStart_list
 init:=λe=>⟨#[],⟨_,e⟩,.nil⟩
 obj:=λ⟨_,⟨_,e⟩,_⟩=>⟨_,e,λ_ z=>by cases z⟩
 dB:=λ⟨Z,⟨n,e⟩,r⟩ k=>⟨Z,⟨n,k _ e⟩,r⟩
 Ih:=λY ⟨Z,⟨n,e⟩,r⟩=>⟨Y,Z.toList,n,r,by simpa using e⟩
 add:=λ{A s D acc v y Q} ⟨Z,X,r⟩ W Y _ q=>wpAny_list_append_plain (hsz:=by have e:=r.length;simp only[ä] at e;omega) X λV U T=>q V s.toks T ⟨Z.push y,U,by rw[YG];exact Vals.append r (.cons W .nil)⟩
def OO (hc:X.calm=true) (S:n0 X sc N nt cap) (gb:lV g nt) (hi:PI X tg src wi)
 (hY:∀(cl:List (Str×à)) (C:à) (s:Æ) (H:Hp) (ex:List à) (pn:List (à×Obj)),PG (eD X N sc cl C s H ex pn) tg g/\PF (eD X N sc cl C s H ex pn) tests tf/\PE (eD X N sc cl C s H ex pn) el te)
 (hs:∀x,ć src X.env x=pure x:=by intro _;rfl):PE X (.ListComp el [⟨tg,src,tests,0⟩] sc ps) (og wi nt cap g tf te):=by
 intro T s σ H Q I h;rw[eval_ListComp];exact EY J6 (use:=none) hc S gb hi hY hs I h λR Z D C m Y W _ _ _ _ _ _ q=>⟨m,W,λV U=>⟨.ref D,Z,Y V U,rfl,q⟩⟩
def OP {el tg src:ņ} {tests:List ņ} {sc:ZF} {ps pos pos':Pos} {N:List Str} {nt:Nat} {cap:List Nat} {wi:TI} {g:TG} {tf:TT} {te:TE} {i0:Nat} {x0:Str} (Dp:X.N.Nodup) (Dq:X.N[i0]?=some x0) (Dr:Loc X.env.scope x0) (hc:X.calm=true) (S:n0 X sc N nt cap) (gb:lV g nt) (hi:PI X tg src wi)
  (hY:∀(cl:List (Str×à)) (C:à) (s:Æ) (H:Hp) (ex:List à) (pn:List (à×Obj)),PG (eD X N sc cl C s H ex pn) tg g/\PF (eD X N sc cl C s H ex pn) tests tf/\PE (eD X N sc cl C s H ex pn) el te)
  (hs:∀x,ć src X.env x=pure x:=by intro _;rfl)
  (Ds:swapsWith (.ListComp el [⟨tg,src,tests,0⟩] sc ps) (some (.Name x0 pos')) pos.line X.env=pure true:=by rfl)
  (Dt:X.fn x0=true\/X.env.scope.names.lookup x0=some .local:=by first|exact .inl rfl|exact .inr rfl|assumption):PS X (.Assign [.Name x0 pos'] (.ListComp el [⟨tg,src,tests,0⟩] sc ps) pos) (qC (og wi nt cap g tf te) (lG i0)):=by
 intro W s σ H V I h;rw[exec_Assign_Name_used _ _ _ _ Ds];refine À (δ (À ?_));obtain⟨Q,P⟩:∃Q:VK,Q=λv Z=>lG i0 v σ Z V.nx:=⟨_,rfl⟩;have h:og wi nt cap g tf te σ H Q:=by rw[P];exact h
 have G:∀v Z,Q v Z->V.nx (σ.set i0 (some v)) Z:=λv Z q=>by rw[P] at q;exact q
 unfold evalThenUse
 refine À (ň (Q:=λ_ Y=>SP X W V .next Y) ?_ (λ_ Y q=>Â (Â q)) (λ_ _ z=>z))
 refine EY J6 (use:=some (ZO (.Name x0 pos') X.env)) hc S gb hi hY hs I h λY Z D C m F E O M B A y w q=>?_;have L:Inv X W σ Z Y:=F Y.heap (Heap.SameBut.refl _ _);obtain⟨U,u,t,r,K,n⟩:=id E;have l:Inv X ((C,U)::W) σ Z Y:=L.lu λp T=>by
  rcases Ò.mp T with e|e
  ·subst e
   exact⟨r,O,M,B,λv z=>by rw[K] at z;cases z⟩
  ·exact L.pin p (Í _ e)
 show Ú _ _ (ZO (.Name x0 pos') X.env (.ref D)) _ _ Y;refine wpAny_assign_Name (mq l Dp Dq Dr (show RelV (.ref D) (.ref D) from rfl) (λJ R=>?_) Dt);have k:=(R.pin (C,U) (Í _ (Î ..))).1;refine⟨m,⟨U,u,t,k,K,n⟩,λd j=>⟨_,Z,?_,G _ _ q⟩⟩;have i:Inv X W (σ.set i0 (some (.ref D))) Z J:=R.lu λp T=>R.pin p (Í _ (Ð _ T));exact i.turned (it:=C) (t':=J.toks) (λb o f e=>(j.2 b f).trans e) O M (.inr A) y w
end
noncomputable def AE (sc:ZF) (on:List (Str×YE)) (oN N:List Str) (nt:Nat) (cap:List Nat):Bool :=
 decide (sc.kind=.function)&&sc.names.all (λx=>decide (x.2=.local->sc.names.lookup x.1=some .local))&&sc.names.all (λx=>decide (x.2=.cell->sc.names.lookup x.1=some .cell)) &&
 sc.names.all (λx=>decide (x.2=.free->sc.names.lookup x.1=some .free/\(on.lookup x.1=some .cell\/on.lookup x.1=some .free)))&&decide (N.length=nt+cap.length) &&
 (Ó cap.length).all (λk=>match cap[k]? with
  |some j=>match oN[j]? with
   |some x=>decide (N[nt+k]?=some x)&&decide ((x,NameKind.free)∈sc.names)
   |none=>false
  |none=>true)
def tD (h:AE sc X.env.scope.names X.N N nt cap=true):n0 X sc N nt cap:=by
 unfold AE at h;simp only[È,ë,Å] at h;obtain⟨⟨⟨⟨⟨Z,Y⟩,W⟩,V⟩,U⟩,T⟩:=h;refine⟨Z,Y,W,λx S e=>V x S e,U,λk j e=>?_⟩;have R:k<cap.length:=(Ç.mp e).1;have:=T k (ò.mpr R);rw[e] at this;dsimp only at this
 cases ex:X.N[j]? with
 |none=>rw[ex] at this;cases this
 |some x =>
  rw[ex] at this;simp only[È,Å] at this;exact⟨x,rfl,this.1,this.2⟩
end L2
namespace DI
open PySem L2
section
variable {X:Cx} {Ξ:Wd->bg->Prop} {e a b c tg el src:ņ} {es rest tests:List ņ} {pos:Pos} {f g h:aah D} {fa:aah (List D)} {ft gt:aah Bool}
def we (hc:X.calm=true) (S:n0 X sc N nt cap) (T:Tg X.K g0 gd nt) (hi:PI X tg src (ef X.K Ξ it))
 (hY:∀(cl:List (Str×à)) (C:à) (s:Æ) (H:Hp) (ex:List à) (pn:List (à×Obj)),PG (eD X N sc cl C s H ex pn) tg g0/\PF (eD X N sc cl C s H ex pn) tests (tT X.K ck ft)/\PE (eD X N sc cl C s H ex pn) el (tE X.K ck f))
 (hs:∀x,ć src X.env x=pure x:=by intro _;rfl):PE X (.ListComp el [⟨tg,src,tests,0⟩] sc ps) (tE X.K Ξ (bC nt cap it gd ft f)) :=
 cF (OO hc S T.kX hi hY hs) fun σ H Q h=>EW T.imp (λR Z i h=>F4 R Z i h) (F3 σ H Q h)
def Qs {sc:ZF} {ps pos':Pos} {N:List Str} {nt:Nat} {cap:List Nat} {it:aah (List D)} {gd:D->Env->Option Env} {g0:TG} (i0:Nat) {x0:Str} (Dp:X.N.Nodup) (hc:X.calm=true) (S:n0 X sc N nt cap) (T:Tg X.K g0 gd nt) (hi:PI X tg src (ef X.K Ξ it))
  (hY:∀(cl:List (Str×à)) (C:à) (s:Æ) (H:Hp) (ex:List à) (pn:List (à×Obj)),PG (eD X N sc cl C s H ex pn) tg g0/\PF (eD X N sc cl C s H ex pn) tests (tT X.K ck ft)/\PE (eD X N sc cl C s H ex pn) el (tE X.K ck f))
  (Dq:X.N[i0]?=some x0:=by rfl) (Dr:Loc X.env.scope x0:=by first|exact Zb rfl|exact Or.inr rfl)
  (hs:∀x,ć src X.env x=pure x:=by intro _;rfl)
  (Ds:swapsWith (.ListComp el [⟨tg,src,tests,0⟩] sc ps) (some (.Name x0 pos')) pos.line X.env=pure true:=by rfl)
  (Dt:X.fn x0=true\/X.env.scope.names.lookup x0=some .local:=by first|exact .inl rfl|exact .inr rfl):PS X (.Assign [.Name x0 pos'] (.ListComp el [⟨tg,src,tests,0⟩] sc ps) pos) (tS X.K Ξ (aR (bC nt cap it gd ft f) (gN i0))) :=
 jD (OP Dp Dq Dr hc S T.kX hi hY hs Ds Dt) λD σ H h=>by
  have Z:=Fp (te:=tE X.K Ξ f) D σ H (zU D σ H h);exact EW T.imp (λR Y i h=>F4 R Y i h) (F3 σ H _ Z)
end
end DI
namespace L2
open PySem PySem.Spec PyProof.Rows
section
variable {X:Cx} {tg:ņ}
end
end L2
namespace DI
open PySem L2
section
variable {X:Cx} {Ξ:Wd->bg->Prop} {a b c tg:ņ} {pos:Pos} {fa:aah (List D)}
end
end DI
namespace L2
open PySem PySem.Spec PyProof.Rows
section
variable {X:Cx}
end
end L2
namespace DI
open PySem L2
section
variable {X:Cx} {Ξ:Wd->bg->Prop} {a:ņ} {p pos:Pos} {fa:aah (List D)}
end
section
variable {X:Cx} {Ξ:Wd->bg->Prop} {a:ņ} {p pos:Pos} {f g:aah D} {fa:aah (List D)}
theorem aj.erase:∀{ds:List D} {xs:List V} (j:Nat),aj K w ds xs->aj K w (ds.eraseIdx j) (xs.eraseIdx j)
 | [],xs,j,h=>by
  have e:xs=[]:=h;subst e;exact h
 |d::ds,xs,0,h=>by
  obtain⟨v,r,rfl,_,dr⟩:=h;exact dr
 |d::ds,xs,j+1,h=>by
  obtain⟨v,r,rfl,Z,dr⟩:=h;exact⟨v,r.eraseIdx j,rfl,Z,aj.erase j dr⟩
end
open HT PyProof.Rows
section
variable {X:Cx} {Ξ:Wd->bg->Prop}
def Fv (h:Vals xs us):∀{q:List Nat},(∀i∈q,i<us.length)->Vals (q.map λi=>xs.getD i .au) (q.map λi=>us.getD i Value.none):=by
 intro q
 induction q with
 |nil=>intro _;exact .nil
 |cons i q ih =>
  intro Z;refine .cons ?_ (ih λj Y=>Z j (Ð _ Y));have hi:=Z i Î;clear ih Z
  induction h generalizing i with
  |nil=>simp at hi
  |cons a _ ih =>
   cases i with
   |zero=>exact a
   |succ i=>simpa using ih i (by simpa using hi)
def Gb {K:Ļ} {w:Wd} {ds:List D} {xs:List V} (h:aj K w ds xs):∀{q:List Nat},(∀i∈q,i<ds.length)->aj K w (q.map λi=>ds.getD i .au) (q.map λi=>xs.getD i .au):=by
 intro q
 induction q with
 |nil=>intro _;exact rfl
 |cons i q ih =>
  intro Z;have hi:=Z i Î;obtain⟨v,e,Y⟩:=h.get' i _ (É hi);refine⟨_,_,rfl,?_,ih λj X=>Z j (Ð _ X)⟩;have e1:ds.getD i .au=ds[i]:=by simp[hi]
  have e2:xs.getD i .au=v:=by simp[e]
  show DV K w (ds.getD i .au) (xs.getD i .au);rw[e1,e2];exact Y
def Ge {α:Type} {O:ST.Ord α} {ks:List α} {f:α->D} {d:α} {q:Array Nat} (hp:ST.Pm ks.length q) (hu:ST.Up O (ST.ky (λi=>ks.getD i d) q) ks.length):q.toList.map (λi=>(ks.map f).getD i .au)=(ST.eR O ks).map f:=by
 rw[<- ST.Ny hp hu,ĉ];refine θ λi hi=>?_;have:i<ks.length:=ò.mp (hp.2.mem_iff.mp hi);simp[this]
end
end DI
namespace TK
open PySem PySem.W PyProof.Rows DI
mutual
noncomputable def kd:D->Bool
 | .int _=>true
 | .str x=>PyData.strOk x
 | .tup Z=>bN Z
 |_=>false
noncomputable def bN:List D->Bool
 | []=>true
 |k::Z=>kd k&&bN Z
end
mutual
def KA (h:ō):D->Ê->Prop
 | .int i,v=>∃t,v=.int i t
 | .str x,v=>∃t,v=.str x t
 | .tup Z,v=>∃a o its n,v=.ref a/\h.get? a=some o/\o.cls=.type "tuple"/\o.data=.seq its n/\cc h Z its.toList
 |_,_=>False
def cc (h:ō):List D->List Ê->Prop
 | [],Z=>Z=[]
 |k::Y,Z=>∃v r,Z=v::r/\KA h k v/\cc h Y r
end
mutual
theorem mI:∀k:D,kd k=true->lay k=true
 | .int _,_=>rfl
 | .str _,h=>h
 | .tup Z,h=>by simp only[kd] at h;simp only[lay];exact rP Z h
 | .au,h=>by cases h
 | .bl _,h=>by cases h
 | .lst _,h=>by cases h
 | .bw _,h=>by cases h
 | .ao _,h=>by cases h
 | .ty _,h=>by cases h
 | .aZ _,h=>by cases h
 | .exc _ _,h=>by cases h
 | .cC _ _ _,h=>by cases h
theorem rP:∀ks:List D,bN ks=true->cJ ks=true
 | [],_=>rfl
 |k::ks,h=>by
  simp only[bN,cJ,È] at h |-;exact⟨mI k h.1,rP ks h.2⟩
end
mutual
theorem n5:∀x y:D,kd x=true->kd y=true->(beq x y=true↔x=y)
 | .int i,.int j,_,_=>by simp[beq]
 | .str i,.str j,_,_=>by simp[beq]
 | .tup Z,.tup Y,h,g=>by
  simp only[kd] at h g;simp only[beq,vW Z Y h g];exact⟨λe=>by rw[e],λe=>by injection e⟩
 | .int _,.str _,_,_=>by simp[beq]
 | .int _,.tup _,_,_=>by simp[beq]
 | .str _,.int _,_,_=>by simp[beq]
 | .str _,.tup _,_,_=>by simp[beq]
 | .tup _,.int _,_,_=>by simp[beq]
 | .tup _,.str _,_,_=>by simp[beq]
 | .au,_,h,_=>by cases h
 | .bl _,_,h,_=>by cases h
 | .lst _,_,h,_=>by cases h
 | .bw _,_,h,_=>by cases h
 | .ao _,_,h,_=>by cases h
 | .ty _,_,h,_=>by cases h
 | .aZ _,_,h,_=>by cases h
 | .exc _ _,_,h,_=>by cases h
 | .cC _ _ _,_,h,_=>by cases h
 |_,.au,_,h=>by cases h
 |_,.bl _,_,h=>by cases h
 |_,.lst _,_,h=>by cases h
 |_,.bw _,_,h=>by cases h
 |_,.ao _,_,h=>by cases h
 |_,.ty _,_,h=>by cases h
 |_,.aZ _,_,h=>by cases h
 |_,.exc _ _,_,h=>by cases h
 |_,.cC _ _ _,_,h=>by cases h
theorem vW:∀xs ys:List D,bN xs=true->bN ys=true->(iq xs ys=true↔xs=ys)
 | [],[],_,_=>by simp[iq]
 | [],_::_,_,_=>by simp[iq]
 |_::_,[],_,_=>by simp[iq]
 |x::xs,y::ys,h,g=>by
  simp only[bN,È] at h g;simp only[iq,È,n5 x y h.1 g.1,vW xs ys h.2 g.2,Yy]
end
mutual
theorem KA.reads:∀(k:D) (v:Ê),KA h k v->∃as,Reads h v (py k) as
 | .int i,v,q=>by obtain⟨t,rfl⟩:=q;exact⟨_,.int i t⟩
 | .str x,v,q=>by obtain⟨t,rfl⟩:=q;exact⟨_,.str x t⟩
 | .tup Z,v,q=>by
  simp only[KA] at q;obtain⟨a,o,its,n,rfl,Y,X,W,r⟩:=q;obtain⟨as,r⟩:=cc.reads Z _ r;exact⟨as,.tuple Y X W r⟩
 | .au,_,q=>by cases q
 | .bl _,_,q=>by cases q
 | .lst _,_,q=>by cases q
 | .bw _,_,q=>by cases q
 | .ao _,_,q=>by cases q
 | .ty _,_,q=>by cases q
 | .aZ _,_,q=>by cases q
 | .exc _ _,_,q=>by cases q
 | .cC _ _ _,_,q=>by cases q
theorem cc.reads:∀(ks:List D) (vs:List Ê),cc h ks vs->∃as,ReadsAll h vs (bT ks) as
 | [],vs,q=>by cases q;exact⟨_,.nil⟩
 |k::ks,vs,q=>by
  obtain⟨v,r,rfl,Z,Y⟩:=q;obtain⟨as,Z⟩:=KA.reads k v Z;obtain⟨bs,Y⟩:=cc.reads ks r Y;exact⟨_,.cons Z Y⟩
end
def Sg (q:KA h y (.int i t)):y=.int i:=by
 cases y with
 |int j=>obtain⟨_,e⟩:=q;cases e;rfl
 |str j=>obtain⟨_,e⟩:=q;cases e
 |tup Z=>simp only[KA] at q;obtain⟨_,_,_,_,e,_⟩:=q;cases e
 |_=>cases q
def Si (q:KA h y (.str i t)):y=.str i:=by
 cases y with
 |str j=>obtain⟨_,e⟩:=q;cases e;rfl
 |int j=>obtain⟨_,e⟩:=q;cases e
 |tup Z=>simp only[KA] at q;obtain⟨_,_,_,_,e,_⟩:=q;cases e
 |_=>cases q
def Sj (q:KA h y (.ref a)):∃ks o its n,y=.tup ks/\h.get? a=some o/\o.cls=.type "tuple"/\o.data=.seq its n/\cc h ks its.toList:=by
 cases y with
 |str j=>obtain⟨_,e⟩:=q;cases e
 |int j=>obtain⟨_,e⟩:=q;cases e
 |tup ks =>
  simp only[KA] at q;obtain⟨_,o,its,n,e,r⟩:=q;cases e;exact⟨ks,o,its,n,rfl,r⟩
 |_=>cases q
mutual
theorem KA.inj:∀(x y:D) (v:Ê),KA h x v->KA h y v->x=y
 | .int i,y,v,p,q=>by
  obtain⟨t,rfl⟩:=p;exact(Sg q).symm
 | .str i,y,v,p,q=>by
  obtain⟨t,rfl⟩:=p;exact(Si q).symm
 | .tup Y,y,v,p,q=>by
  simp only[KA] at p;obtain⟨a,o,its,n,rfl,X,S,W,r⟩:=p;obtain⟨R,Q,Z,P,rfl,V,O,U,T⟩:=Sj q;cases X.symm.trans V;cases W.symm.trans U;rw[cc.inj Y _ _ r T]
 | .au,_,_,q,_=>by cases q
 | .bl _,_,_,q,_=>by cases q
 | .lst _,_,_,q,_=>by cases q
 | .bw _,_,_,q,_=>by cases q
 | .ao _,_,_,q,_=>by cases q
 | .ty _,_,_,q,_=>by cases q
 | .aZ _,_,_,q,_=>by cases q
 | .exc _ _,_,_,q,_=>by cases q
 | .cC _ _ _,_,_,q,_=>by cases q
theorem cc.inj:∀(xs ys:List D) (vs:List Ê),cc h xs vs->cc h ys vs->xs=ys
 | [],ys,vs,p,q=>by
  cases p
  cases ys with
  |nil=>rfl
  |cons y ys=>obtain⟨_,_,e,_⟩:=q;cases e
 |x::xs,ys,vs,p,q=>by
  obtain⟨v,r,rfl,Z,Y⟩:=p
  cases ys with
  |nil=>cases q
  |cons y ys =>
   obtain⟨X,W,e,g1,g2⟩:=q;cases e;rw[KA.inj x y v Z g1,cc.inj xs ys r Y g2]
end
mutual
theorem KA.keep (hk:∀a o,h.get? a=some o->o.cls=.type "tuple"->(∃its n,o.data=.seq its n)->h'.get? a=some o):∀(x:D) (v:Ê),KA h x v->KA h' x v
 | .int i,v,p=>p
 | .str i,v,p=>p
 | .tup X,v,p=>by
  simp only[KA] at p |-;obtain⟨a,o,its,n,e,W,Z,Y,r⟩:=p;exact⟨a,o,its,n,e,hk a o W Z ⟨its,n,Y⟩,Z,Y,cc.keep hk X _ r⟩
 | .au,_,q=>by cases q
 | .bl _,_,q=>by cases q
 | .lst _,_,q=>by cases q
 | .bw _,_,q=>by cases q
 | .ao _,_,q=>by cases q
 | .ty _,_,q=>by cases q
 | .aZ _,_,q=>by cases q
 | .exc _ _,_,q=>by cases q
 | .cC _ _ _,_,q=>by cases q
theorem cc.keep (hk:∀a o,h.get? a=some o->o.cls=.type "tuple"->(∃its n,o.data=.seq its n)->h'.get? a=some o):∀(xs:List D) (vs:List Ê),cc h xs vs->cc h' xs vs
 | [],vs,p=>p
 |x::xs,vs,p=>by
  obtain⟨v,r,e,Z,Y⟩:=p;exact⟨v,r,e,KA.keep hk x v Z,cc.keep hk xs r Y⟩
end
def zX (h:k∈ks):dep k<=bM ks:=by
 induction ks with
 |nil=>cases h
 |cons x Z ih =>
  simp only[bM]
  rcases Ò.mp h with rfl|h
  ·exact Nat.le_max_left _ _
  ·exact è (ih h) (ZL _ _)
mutual
noncomputable def hs (w:Ĉ):D->Int
 | .int i=>hashInt i
 | .str x=>hashStr w x
 | .tup Z=>reduceHash (YX (k9 w Z))
 |_=>0
noncomputable def k9 (w:Ĉ):List D->List Int
 | []=>[]
 |k::Z=>hs w k::k9 w Z
end
mutual
noncomputable def dr:D->Nat
 | .int _=>1
 | .str _=>1
 | .tup Z=>kb Z+1
 |_=>0
noncomputable def kb:List D->Nat
 | []=>0
 |k::Z=>dr k+kb Z
end
def G5 (w:Ĉ) (xs ys:List D):k9 w (xs++ys)=k9 w xs++k9 w ys:=by
 induction xs with
 |nil=>rfl
 |cons x xs ih=>simp only[ė,k9,ih]
def G6 (xs ys:List D):kb (xs++ys)=kb xs+kb ys:=by
 induction xs with
 |nil=>simp[kb]
 |cons x xs ih=>simp only[ė,kb,ih,ZV]
section
variable {prog:ô} {w:Ĉ}
def OQ (hu:A.units<Zh) (ho:s.heap.get? a=some o) (hc:o.cls=.type "tuple") (hd:o.data=.seq items m) (hi:cc s.heap ks items.toList)
 (ih:∀k∈ks,∀(A':Ă) (s':Æ) (v:Ê) (E':Ê->Æ->Prop) (Q':Int->Æ->Prop),A'.units<=A.units+1->KA s'.heap k v->Q' (hs w k) { s' with toks:=s'.toks+dr k }->Ú (î prog w) A' (pyHash v) Q' E' s')
 (h:Q (hs w (.tup ks)) { s with toks:=s.toks+dr (.tup ks) }):Ú (î prog w) A (pyHash (.ref a)) Q E s:=by
 have Z:s.TypeIs (.ref a) "tuple":=⟨o,ho,hc⟩;unfold pyHash
 first|unfold pyHashByItsType|skip
 first|refine À (wpAny_cRoomFor_or (.inr hu) ?_)|skip
 refine À (Zn Z YI.lookup ?_)
 show Ú _ _ (if (some (Value.builtin "tuple.__hash__")==some Value.none)=true then _ else _) Q E s
 rw[ð (by rw[beq_builtin_none];exact Ö)];refine À (Zn Z YI.lookup ?_);show Ú _ _ (callSpecialIfBoundUnlessNone? (.ref a) "__hash__" _ >>= _) Q E s;refine À (wpAny_callSpecialIfBoundUnlessNone?_slot Z YI (ý YI Z F.entry_tuple_hash ?_ (F.args_tuple_hash_1 _)));show Ú _ _ (Ş (.ref a) >>= _) _ _ s;refine À (wpAny_tupleItemsOf ho hd ?_);refine À ?_;rw[<- Zo];refine ψ _
  (λrest (b:Array Int) s'=>∃done left,ks=done++left/\cc s.heap left rest/\b.toList=k9 w done/\s'={ s with toks:=s.toks+kb done })
  _ ?_ ?_ _ _ ⟨[],ks,rfl,hi,rfl,rfl⟩
 ·rintro x rest b s' ⟨done,left,e,Y,X,rfl⟩
  cases left with
  |nil=>cases Y
  |cons k left =>
   obtain⟨T,S,ex,U,V⟩:=Y;cases ex
   refine À (ih k (by rw[e];simp) _ { s with toks:=s.toks+kb done } _ _ _ ?_ U ?_)
   ·exact aal _
   ·first
     |exact Â ⟨done++[k],left,by simp[e],V,by simp[X,G5,k9],by simp[ZV,G6,kb]⟩
     |exact À (Â (Â ⟨done++[k],left,by simp[e],V,by simp[X,G5,k9],by simp[ZV,G6,kb]⟩))
 ·rintro b s' ⟨done,left,e,Y,X,rfl⟩
  cases left with
  |cons k left=>obtain⟨_,_,ex,_⟩:=Y;cases ex
  |nil =>
  rw[ĸ] at e;subst e;simp only[hs,dr] at h;show Ú _ _ (retInt (YX b.toList)) _ _ _;rw[X];generalize YX (k9 w ks)=z at h |-;refine wpAny_ret_mkInt ?_
  show Ú _ _ (if (decide (-(2:Int) ^ 63<=z)&&decide (z<2 ^ 63))=true then _ else _) Q E _
  unfold reduceHash at h;by_cases W:(decide (-(2:Int) ^ 63<=z)&&decide (z<2 ^ 63))=true
  ·rw[é W]
   rw[é W] at h;exact Â (by simpa [ZV] using h)
  ·rw[ð W]
   rw[ð W] at h;exact À (Ţ (Â (by simpa [ZV] using h)))
def G7:∀(n:Nat) (k:D),dep k<=n->∀(A:Ă) (s:Æ) (v:Ê) (E:Ê->Æ->Prop) (Q:Int->Æ->Prop),KA s.heap k v->A.units+n<Zh->Q (hs w k) { s with toks:=s.toks+dr k }->Ú (î prog w) A (pyHash v) Q E s:=by
 intro n
 induction n with
 |zero =>
  intro k Z A s v E Q q Y h
  cases k with
  |int i=>obtain⟨t,rfl⟩:=q;exact wpAny_pyHash_int h
  |str i=>obtain⟨t,rfl⟩:=q;exact wpAny_pyHash_str h
  |tup X=>simp[dep] at Z
  |_=>cases q
 |succ n ih =>
  intro k Z A s v E Q q Y h
  cases k with
  |int i=>obtain⟨t,rfl⟩:=q;exact wpAny_pyHash_int h
  |str i=>obtain⟨t,rfl⟩:=q;exact wpAny_pyHash_str h
  |tup X =>
   simp only[dep] at Z;simp only[KA] at q;obtain⟨a,o,items,m,rfl,W,V,U,hi⟩:=q;exact OQ (by omega) W V U hi (λk T S R v P O L N M=>ih k (by have:=zX T;omega) S R v P O N (by omega) M) h
  |_=>cases q
def zt:∀(n:Nat) (k:D),dep k<=n->∀{A:Ă} {s:Æ} {v:Ê} {E:Ê->Æ->Prop} {Q:Bool->Æ->Prop},KA s.heap k v->Q true s->Ú (î prog w) A (eqIsQuiet n v) Q E s:=by
 intro n
 induction n with
 |zero =>
  intro k Z A s v E Q q h
  cases k with
  |int i=>obtain⟨t,rfl⟩:=q;rw[ZA _ rfl];exact Â h
  |str i=>obtain⟨t,rfl⟩:=q;rw[ZA _ rfl];exact Â h
  |tup W=>simp[dep] at Z
  |_=>cases q
 |succ n ih =>
  intro k Z A s v E Q q h
  cases k with
  |int i=>obtain⟨t,rfl⟩:=q;rw[ZA _ rfl];exact Â h
  |str i=>obtain⟨t,rfl⟩:=q;rw[ZA _ rfl];exact Â h
  |tup W =>
   simp only[dep] at Z;simp only[KA] at q;obtain⟨a,o,items,m,rfl,V,R,P,hi⟩:=q;have U:s.TypeIs (.ref a) "tuple":=⟨o,V,R⟩;unfold eqIsQuiet;refine À (Zn U F.slot_tuple_eq.lookup ?_);show Ú _ _ (isInstance (.ref a) (.type "tuple") >>= _) _ _ s;refine À (Y0 U isSubtype_tuple_tuple ?_);simp only[ï,Ã,ã];refine À (ı V P ?_);refine À ?_;show Ú _ _ (forIn items _ _) _ _ s;rw[<- Zo];refine ψ _ (λrest r Y=>r.1=none/\Y=s/\∃left,cc s.heap left rest/\∀k∈left,dep k<=n) _ ?_ ?_ _ _ ⟨rfl,rfl,W,hi,λk O=>by have:=zX O;omega⟩
   ·rintro v rest r Y ⟨X,rfl,left,T,S⟩
    cases left with
    |nil=>cases T
    |cons k left =>
     obtain⟨K,J,ex,N,M⟩:=T;cases ex;refine À (ih k (S k Î) N ?_);simp only[ï,Ã,ã];exact Â ⟨rfl,rfl,left,M,λu L=>S u (Ð _ L)⟩
   ·rintro ⟨I,H⟩ Y ⟨X,rfl,_⟩
    simp only at X;subst X;exact Â h
  |_=>cases q
def fc (h:ō) (ks:List D) (a:à):Prop:=bN ks=true/\bM ks<=6/\KA h (.tup ks) (.ref a)
noncomputable instance X0:DecidableEq (List D):=λa b=>Classical.propDecidable (a=b)
def Ii (hu:A.units+10<Zh) (hx:fc s.heap x a) (hy:fc s.heap y b) (h:Q (decide (x=y)) s):Ú (î prog w) A (PySem.eqBool (.ref a) (.ref b)) Q E s:=by
 obtain⟨W,N,Z⟩:=hx;obtain⟨V,M,Y⟩:=hy;obtain⟨as,Z⟩:=KA.reads _ _ Z;obtain⟨bs,Y⟩:=KA.reads _ _ Y;have U:lay (.tup x)=true:=by simp only[lay];exact rP x W
 have T:lay (.tup y)=true:=by simp only[lay];exact rP y V
 obtain⟨S,R⟩:=jE _ U;obtain⟨P,O⟩:=jE _ T;have e:=SeqAt.eqAt_reads _ _ A s _ _ as bs Z Y S P (by rw[R,O];simp only[dep];omega);rw[qc _ _ U T] at e;refine e prog w E Q ?_;have:beq (.tup x) (.tup y)=decide (x=y):=by
  have:=vW x y W V;simp only[beq]
  cases X:iq x y with
  |true=>exact(ß (this.mp X)).symm
  |false=>exact(ñ λz=>by rw[this.mpr z] at X;cases X).symm
 rw[this];exact h
def kind (prog:ô) (w:Ĉ):HeapKind prog w (List D) where
 is:=fc
 hash:=λX=>hs w (.tup X)
 draws:=λX=>dr (.tup X)
 room:=λA=>A.units+10<Zh
 inj:=λW V=>by have:=KA.inj _ _ _ W.2.2 V.2.2;injection this
 keeps:=λ{h Q k a d o P O} x S R hs=>⟨x.1,x.2.1,KA.keep (λb u U N Y=>(hs.2 b (λe=>by
  subst e;rw[S] at U;cases U;obtain⟨_,_,Y⟩:=Y;rw[R] at Y;cases Y)).trans U) _ _ x.2.2⟩
 pyHash:=λT Z h=>G7 7 _ (by simp only[dep];have:=Z.2.1;omega) _ _ _ _ _ Z.2.2 (by omega) h
 eqBool:=λT W V h=>Ii T W V h
 quiet:=λZ h=>zt 8 _ (by simp only[dep];have:=Z.2.1;omega) Z.2.2 h
end
end TK
namespace TK
open PySem PySem.W PyProof.Rows DI L2
def DX.dB (h1 h2:ō) (h:DX a es h1) (k:∀o,h1.get? a=some o->h2.get? a=some o):DX a es h2:=by
 obtain⟨z,o,Z,Y,X,r⟩:=h;exact⟨z,o,Z,Y,k o X,r⟩
def Js (x:DX a es h):cL P w H h a (.ext (DX a es)):=by
 obtain⟨z,o,Y,X,Z,r⟩:=id x;exact⟨x,⟨o,Z⟩,DX.dB⟩
def AllK (w:Ĉ) (ai:List (D×Int)):Prop:=∀p∈ai,∃Z,p.1=.tup Z/\bN Z=true/\bM Z<=6/\p.2=hs w p.1
noncomputable def its:D->List D
 | .tup Z=>Z
 |_=>[]
def XS:List (D×Int)->List à->List (List D×à×Ê)
 |p::r,a::as=>(its p.1,a,.bool true)::XS r as
 |_,_=>[]
def Sm:∀{as:List à},ai.length=as.length->∀(p:D×Int) (a:à),XS (ai++[p]) (as++[a])=XS ai as++[(its p.1,a,.bool true)]:=by
 induction ai with
 |nil =>
  intro as e p a
  cases as with
  |nil=>rfl
  |cons _ _=>simp at e
 |cons q r ih =>
  intro as e p a
  cases as with
  |nil=>simp at e
  |cons b as =>
   simp only[ė,XS];rw[ih (by simpa using e)]
def Sn:∀{as:List à},ai.length=as.length->(XS ai as).length=ai.length:=by
 induction ai with
 |nil=>intro as e;cases as<;>rfl
 |cons q r ih =>
  intro as e
  cases as with
  |nil=>simp at e
  |cons b as=>simp only[XS,á,ih (by simpa using e)]
def G8:∀{as:List à},AllK w ai->ai.length=as.length->(XS ai as).map (λx=>D.tup x.1)=ai.map (·.1):=by
 induction ai with
 |nil=>intro as _ e;cases as<;>rfl
 |cons q r ih =>
  intro as k e
  cases as with
  |nil=>simp at e
  |cons b as =>
   obtain⟨Y,e1,_⟩:=k q Î;simp only[XS,Þ,ih (λp Z=>k p (Ð _ Z)) (by simpa using e),e1,its]
def Gf:∀{as:List à},AllK w ai->ai.length=as.length ->
  (((ai.map (·.2)).zip as).map λp=>(⟨p.1,.ref p.2,.bool true⟩:aac))=(XS ai as).map (entryOfKey (kind P w)):=by
 induction ai with
 |nil=>intro as _ e;cases as<;>rfl
 |cons q r ih =>
  intro as k e
  cases as with
  |nil=>simp at e
  |cons b as =>
   obtain⟨Y,e1,_,_,e2⟩:=k q Î;simp only[XS,Þ,ķ,ih (λp Z=>k p (Ð _ Z)) (by simpa using e)];rw[e2,e1];rfl
section
variable {X:Cx} {π:List (à×Obj)} {σ:L2.St} {s:Æ} {w:Wd}
mutual
theorem A8 (I:Inv X π σ w.H s):∀(d:D) (v:V) (u:Ê),kd d=true->DI.DV X.K w d v->RelV v u->KA s.heap d u
 | .int i,v,u,_,h,r=>by cases h;exact r
 | .str x,v,u,_,h,r=>by cases h;exact r
 | .tup Z,v,u,k,h,r=>by
  simp only[DI.DV] at h;obtain⟨a,Y,rfl,W,U⟩:=h;cases r;obtain⟨its,T,⟨o,S,R,n,Q⟩,_⟩:=I.tuple W;simp only[kd] at k;simp only[KA];exact⟨a,o,_,n,rfl,S,R,Q,sM I Z Y _ k U (by simpa using T)⟩
 | .au,_,_,k,_,_=>by cases k
 | .bl _,_,_,k,_,_=>by cases k
 | .lst _,_,_,k,_,_=>by cases k
 | .bw _,_,_,k,_,_=>by cases k
 | .ao _,_,_,k,_,_=>by cases k
 | .ty _,_,_,k,_,_=>by cases k
 | .aZ _,_,_,k,_,_=>by cases k
 | .exc _ _,_,_,k,_,_=>by cases k
 | .cC _ _ _,_,_,k,_,_=>by cases k
theorem sM (I:Inv X π σ w.H s):∀(ds:List D) (vs:List V) (us:List Ê),bN ds=true->DI.aj X.K w ds vs->Vals vs us->cc s.heap ds us
 | [],vs,us,_,h,r=>by cases h;cases r;rfl
 |d::ds,vs,us,k,h,r=>by
  obtain⟨v,Z,rfl,Y,W⟩:=h;simp only[bN,È] at k
  cases r with
  |cons r U=>exact⟨_,_,rfl,A8 I d v _ k.1 Y r,sM I ds Z _ k.2 W U⟩
end
def T7 (I:Inv X π σ w.H s):∀{ai:List (D×Int)} {as:List à},AllK W ai->DI.aj X.K w (ai.map (·.1)) (as.map V.ref)->∀x∈XS ai as,fc s.heap x.1 x.2.1:=by
 intro ai
 induction ai with
 |nil =>
  intro as _ _ x hx
  cases as<;>cases hx
 |cons q r ih =>
  intro as k U x hx
  cases as with
  |nil=>cases hx
  |cons b as =>
   obtain⟨v,P,e,Z,T⟩:=U
   injection e with e1 e2
   subst e1 e2;obtain⟨S,e1,Y,R,_⟩:=k q Î
   rcases Ò.mp hx with rfl|hx
   ·refine⟨by simpa only [e1,its] using Y,by simpa only [e1,its] using R,?_⟩
    have Z:DI.DV X.K w q.1 (V.ref b):=Z;rw[e1] at Z;simpa only [e1,its] using A8 I (.tup S) (.ref b) (.ref b) (by simpa only [kd] using Y) Z rfl
   ·exact ih (λp Q=>k p (Ð _ Q)) T x hx
end
def fK (w:Ĉ) (ai:List (D×Int)) (k:D):List (D×Int):=if (ai.any λp=>beq p.1 k)=true then ai else ai++[(k,hs w k)]
def keyOk (w:Ĉ) (p:D×Int):Bool:=match p.1 with
 | .tup Z=>bN Z&&decide (bM Z<=6)&&decide (p.2=hs w p.1)
 |_=>false
def NB (h:ai.all (keyOk w)=true):AllK w ai:=λp Z=>by
 have:=ë.mp h p Z;unfold keyOk at this;split at this
 ·rename_i Y e
  simp only[È,Å] at this;exact⟨Y,e,this.1.1,this.1.2,this.2⟩
 ·cases this
def my (k:AllK w ai) (hk:bN ks=true):(ai.any λp=>beq p.1 (.tup ks))=true↔D.tup ks∈ai.map (·.1):=by
 rw[Ő,å];constructor
 ·rintro ⟨p,Z,Y⟩
  obtain⟨ls,e,X,_⟩:=k p Z;refine⟨p,Z,?_⟩;exact(n5 p.1 (.tup ks) (by rw[e];simpa only [kd] using X) (by simpa only [kd] using hk)).mp Y
 ·rintro ⟨p,Z,e⟩
  exact⟨p,Z,by rw[e];exact(n5 _ _ (by simpa only [kd] using hk) (by simpa only [kd] using hk)).mpr rfl⟩
def Ij (k:AllK w ai) (e:ai.length=as.length) (ks:List D):ks∈(XS ai as).map (·.1)↔D.tup ks∈ai.map (·.1):=by
 rw[<- G8 k e,å,å];exact⟨λ⟨x,Z,e⟩=>⟨x,Z,by rw[e]⟩,λ⟨x,Z,e⟩=>⟨x,Z,by injection e⟩⟩
def LV {xs:List (List D×à×Ê)} (h:∀x∈xs,x.2.2=Value.bool true) (k:List D):xs.map (putAt k (.bool true))=xs:=by
 induction xs with
 |nil=>rfl
 |cons x xs ih =>
  rw[Þ,ih λy Z=>h y (Ð _ Z)];congr 1;unfold putAt;split
  ·obtain⟨a,b,c⟩:=x
   have:=h (a,b,c) Î;simp only at this;rw[this]
  ·rfl
theorem G9:∀(ai:List (D×Int)) (as:List à),∀x∈XS ai as,x.2.2=Value.bool true
 | [],as,x,h=>by cases as<;>cases h
 |p::r,[],x,h=>by cases h
 |p::r,a::as,x,h=>by
  rcases Ò.mp h with rfl|h
  ·rfl
  ·exact G9 r as x h
def NC {w:Ĉ} {ai:List (D×Int)} {as:List à} (k:AllK w ai) (e:ai.length=as.length) {ks:List D} (hk:bN ks=true) (a:à) :
  storedH (XS ai as) ks a (.bool true)=XS (fK w ai (.tup ks)) (if (ai.any λp=>beq p.1 (.tup ks))=true then as else as++[a]):=by
 unfold fK;by_cases Z:(ai.any λp=>beq p.1 (.tup ks))=true
 ·rw[é Z,é Z]
  have Y:=(Ij k e ks).mpr ((my k hk).mp Z)
  cases h:atKey (XS ai as) ks with
  |none =>
   exfalso;obtain⟨x,X,W⟩:=å.mp Y;unfold atKey at h;rw[Option.map_eq_none_iff,Zp] at h;exact h x X (ß W)
  |some p=>rw[storedH_old h,LV (G9 ai as)]
 ·rw[ð Z,ð Z]
  have Y:ks∉(XS ai as).map (·.1):=λz=>Z ((my k hk).mpr ((Ij k e ks).mp z));have h:atKey (XS ai as) ks=none:=by
   unfold atKey;rw[Option.map_eq_none_iff,Zp];intro x X z;exact Y (å.mpr ⟨x,X,Ė z⟩)
  rw[storedH_new h,Sm e];rfl
def OR (k:AllK w ai) (hk:bN ks=true) (hd:bM ks<=6):AllK w (fK w ai (.tup ks)):=by
 unfold fK;split
 ·exact k
 ·intro p hp
  rcases â.mp hp with hp|hp
  ·exact k p hp
  ·rw[Ø.mp hp]
   exact⟨ks,rfl,hk,hd,rfl⟩
def MO (k:AllK w ai) (hk:bN ks=true) (h:(ai.map (·.1)).Nodup):((fK w ai (.tup ks)).map (·.1)).Nodup:=by
 unfold fK;split
 ·exact h
 ·rename_i Y
  rw[ü,Ż];refine⟨h,by simp,λa Z b X=>?_⟩;have:b=.tup ks:=by simpa using X
  rw[this];intro z;rw[z] at Z;exact Y ((my k hk).mpr Z)
def jT (w:Ĉ) (d k x:D) (s:af):Option af:=match d,k,x with
 | .ao j,.tup Z,.bl true=>match s[j]? with
  |some (.dT Y)=>if (bN Z&&decide (bM Z<=6)&&Y.all (keyOk w)&&decide (Y.length<Û))=true then some (s.set j (.dT (fK w Y (.tup Z)))) else none
  |_=>none
 |_,_,_=>none
def lK (w:Ĉ) (f o i:DI.aah D):DI.aah Fl:=λenv s=>aq (f env s) λx s=>aq (o env s) λd s=>aq (i env s) λn s=>match jT w d n x s with
 |some Z=>ok (.nx env) Z
 |none=>none
def xk:DI.aah D:=λ_ s=>ok (.ao s.length) (s++[.dT []])
section
variable {X:Cx} {Ξ:Wd->bg->Prop} {e o i:ņ} {pos gR:Pos} {f fo fi:DI.aah D}
def Qt:PE X (.Dict [] [] pos) (λ_ H Q=>∀p,H p=none->Q (.ref p) (upd H p (.ext (DX p [])))):=λY s σ H Q I h=>by
 refine wpAny_Dict_empty ⟨.ref s.heap.objs.size,_,I.laid (a:=s.heap.objs.size) (o:=.ext (DX s.heap.objs.size [])) (t':=s.toks) (λ_ _ q=>Á _ q) (aal _) (Js ?_),rfl,h _ (I.aC.fresh (aal _))⟩;have Z:=I.big;exact⟨by simp only[beq_eq_false_iff_ne,ne_eq];intro z;rw[z] at Z;exact ù _ Z,_,#[],0,Ì _ rfl,⟨rfl,rfl,rfl⟩,rfl,rfl⟩
def So:PE X (.Dict [] [] pos) (tE X.K Ξ xk):=cF Qt fun σ H Q Y=>by
 obtain⟨w,env,W,S,V,h⟩:=Y;subst W;intro p Z;have le:=(Fw.cell (o:=.ext (DX p [])) (c:=.dT []) S Z).le (K:=X.K);refine h (w.cell p (.ext (DX p [])) (.dT [])) le (S.IW Z ⟨[],cU,rfl,ω⟩) rfl (.ref p) ⟨p,?_,rfl⟩;show (w.ρ++[p])[w.aG.length]?=some p;rw[<- S.len];simp
def T8 (K:Ļ) (W:Ĉ):xu:=λo i v H Q=>∃(w:Wd) (d b:à) (Z:List (D×Int)) (as:List à) (Y:List D),w.H=H/\o=.ref d/\i=.ref b/\v=.bl true/\H d=some (.ext (DX d ((Z.map (·.2)).zip as))) /\
 AllK W Z/\Z.length<Û/\DI.aj K w (Z.map (·.1)) (as.map V.ref)/\(Z.map (·.1)).Nodup/\bN Y=true/\bM Y<=6/\DI.DV K w (.tup Y) (.ref b) /\
 Q (upd H d (.ext (DX d (((fK W Z (.tup Y)).map (·.2)).zip (if (Z.any λp=>beq p.1 (.tup Y))=true then as else as++[b])))))
def OS {w:Ĉ} {ai:List (D×Int)} {as:List à} {ks:List D} {b:à} (e:ai.length=as.length):(fK w ai (.tup ks)).length=(if (ai.any λp=>beq p.1 (.tup ks))=true then as else as++[b]).length:=by
 unfold fK
 split<;>simp[e]
def T9 (hr:bY k X.A):Bv X (T8 X.K X.w):=by
 rintro f s σ H o i v c iv u Q I M L J ⟨w,d,b,Y,as,G,rfl,rfl,rfl,rfl,T,Z,F,S,V,W,R,E,q⟩;cases M;cases L;cases J;have len:Y.length=as.length:=by have:=S.length;simpa using this
 obtain⟨⟨C,B,z,y,t,hex,r,p⟩,_,_⟩:=I.aC _ _ T;have n:s.heap.DictOfH (kind X.prog X.w) d (XS Y as):=⟨B,z,y,t,hex,r,by rw[p,Gf Z len],T7 I Z S,by
  have:=G8 Z len;rw[<- this] at V;have e:(XS Y as).map (λx=>D.tup x.1)=((XS Y as).map (·.1)).map D.tup:=by rw[ĉ];rfl
  rw[e] at V;exact List.Pairwise.of_map D.tup (λa b h e=>h (by rw[e])) V⟩
 have hu:X.A.units+100<Zh:=by have:=hr.un;have:Zh=9900:=rfl;omega
 refine wpAny_setItem_heap (hsz:=by rw[Sn len];exact Nat.le_of_lt F) (knd:=kind X.prog X.w) (show X.A.in1.units+10<Zh from ?_) ⟨W,R,A8 I (.tup G) (.ref b) (.ref b) (by simpa only [kd] using W) E rfl⟩ n λh' P hs=>⟨_,?_,q⟩
 ·have:X.A.in1.units<=X.A.units+1:=by first|exact aal _|exact Y4 _
  omega
 ·rw[NC Z len W] at P
  obtain⟨O,U,m,N,l,j,g,_⟩:=P;refine Qa I (by rw[T];exact True.intro) hs ⟨O,N⟩ (Js ⟨C,O,U,m,N,l,j,?_⟩);rw[g];exact(Gf (OR Z W R) (OS len)).symm
def Ik (hW:X.w=W) (hr:bY k X.A) (he:PE X e (tE X.K Ξ f)) (ho:PE X o (tE X.K Ξ fo)) (hi:PE X i (tE X.K Ξ fi))
 (ha:∀v,ZO (.Subscript o i gR) X.env v=(do
   let ov <- Zc [v] (Ž o X.env)
   let iv <- Zc [v,ov] (Ž i X.env)
   ZZ gR
   Zc [v,ov,iv] (setItem ov iv v)
   release [v,ov,iv] []):=by intro _;rfl)
 (hs:ε [.Subscript o i gR] e pos.line X.env=pure false:=by rfl) (hw:ζ [.Subscript o i gR] e X.env=pure none:=by rfl)
 (h1:(š [.Subscript o i gR] X.env).map (·.2)=[ZO (.Subscript o i gR) X.env]:=by rfl):PS X (.Assign [.Subscript o i gR] e pos) (tS X.K Ξ (lK W f fo fi)) :=
 jD (As he (HD ho hi (T9 hr) ha) hs hw h1) λD0 σ H C=>by
  subst hW;obtain⟨w,env,B,S,V,h⟩:=C;subst B;refine⟨w,env,rfl,S,V,(Out.aq h).mono λy x Q t h1 u s=>?_⟩;refine⟨y,env,rfl,t,V.le Q,(Out.aq h1).mono λr d P q l v g=>?_⟩;refine⟨r,env,rfl,q,V.le (Q.trans P),(Out.aq l).mono λO n N M U m L=>?_⟩
  cases Z:jT X.w d n x O.aG with
  |none=>rw[Z] at U;exact U.elim
  |some s' =>
   rw[Z] at U;unfold jT at Z;split at Z
   ·rename_i j T
    split at Z
    ·rename_i Y J
     split at Z
     ·rename_i I
      simp only[È,Å] at I;obtain⟨⟨⟨G,k2⟩,k3⟩,k4⟩:=I;cases Z;obtain⟨a,e1,rfl⟩:=(N _ _ g);obtain⟨as,q1,R,F⟩:=M.cell j a _ e1 J;have E:=NB k3;have eu:u=.bl true:=((P.trans N) _ _ s);have D:=L;simp only[DI.DV] at D;obtain⟨b,_,rfl,_⟩:=D;have len:Y.length=as.length:=by have:=R.length;simpa using this
      have le:=(Fw.put (o:=.ext (DX a (((fK X.w Y (.tup T)).map (·.2)).zip (if (Y.any λp=>beq p.1 (.tup T))=true then as else as++[b])))) (c:=.dT (fK X.w Y (.tup T))) M e1 J (by intro z;cases z)).le
      refine⟨O,a,b,Y,as,T,rfl,rfl,rfl,eu,q1,E,k4,R,F,G,k2,L,?_⟩;refine U (O.put j a _ _) le (M.BO e1 J (by intro z;cases z) ⟨_,cU,?_,MO E G F⟩) rfl σ (V.le (Q.trans (P.trans (N.trans le))));refine le.all ?_;unfold fK;split
      ·exact R
      ·rw[ü,ü]
       exact R.append (aj.one L)
     ·cases Z
    ·cases Z
   ·cases Z
end
end TK
namespace TK
open PySem PySem.W PyProof.Rows DI L2
def iP (h:ō) (d:à) (es:Array aac) (ep:Nat):Prop:=∃o,h.get? d=some o/\o.ExactDict/\o.data=.dict es ep
section
variable {prog:ô} {w:Ĉ} {A:Ă} {E:Ê->Æ->Prop} {s:Æ} {d it:à} {es:Array aac} {ep i:Nat}
def iP.ty (r:iP s.heap d es ep):s.TypeIs (.ref d) "dict":=by obtain⟨o,Z,x,_⟩:=r;exact⟨o,Z,x.1⟩
def iP.lt (r:iP h d es ep):d<h.objs.size:=by obtain⟨o,Z,_⟩:=r;exact Ñ Z
def OT (hd:(d==YC)=false) (r:iP s.heap d es ep)
 (hQ:Q (.ref s.heap.objs.size) { s with heap:=s.heap.push { cls:=.type "dict_keyiterator",data:=.fields #[.ref d,.int 0 0,.int es.size 0,.int ep 0] } }):Ú (î prog w) A (aag (.ref d)) Q E s:=by
 have ty:=r.ty;obtain⟨o,Z,x,Y⟩:=r;refine wpAny_pyIter_slot ty F.slot_dict_iter (ý F.slot_dict_iter ty F.entry_dict_iter ?_ (F.args_dict_iter_1 _));unfold Œ.«dict.__iter__» Builtin.Dict.dictSlotNone;refine À (À (wpAny_notOrdered_dict ty ?_));refine(Â ?_:Ú _ _ (pure (ħ d)) _ _ s);show Ú _ _ (Builtin.Dict.showsAll d >>= _) _ _ s;unfold Builtin.Dict.showsAll;rw[ð (by rw[hd];decide)];refine À (Â (À (wpAny_dictEntries Z Y (À (wpAny_dictEpoch Z Y ?_)))));refine À (ö (Â ⟨_,rfl,"dict_keyiterator",_,⟨_,Ì _ rfl,rfl⟩,ŀ.lookup,?_⟩));simpa [ŋ] using hQ
def OU (hit:s.heap.IsKeyIter it d i es.size ep) (r:iP s.heap d es ep) (he:es[i]?=some e)
 (hQ:∀h',h'.IsKeyIter it d (i+1) es.size ep->Ĵ it s.heap h'->Q (some e.key) { s with heap:=h' }):Ú (î prog w) A (ž (.ref it)) Q E s:=by
 obtain⟨S,Y,ci,Z⟩:=id hit;obtain⟨R,X,_,W⟩:=r;have own:ZW "dict_keyiterator"=false:=by decide
 unfold ž;refine À (μ (ą (name:=ē "__next__") hit.typeIs ŀ (ý ŀ hit.typeIs F.entry_dict_keyiterator_next ?_ (F.args_dict_keyiterator_next_1 _))));refine À (Â (À (À (À (ő hit.typeIs (Â (À (YU Y Z ?_))))))));simp only[own,Ã,ã]
 refine(show Ú _ _ (if (ħ d==Value.none)=true then _ else _) _ _ s from ?_)
 rw[ð (show ¬ ((ħ d==Value.none)=true) by intro z;cases z)];refine À (Â (À (wpAny_dictEntries X W ?_)));rw[ð (by simp)];refine À (Â (À (wpAny_dictEpoch X W ?_)));rw[ð (by simp)];refine Â ?_;simp only[show ¬ ((i:Int)<0) by omega,ã,č,he];refine À (À (ő hit.typeIs (Â (À (wpAny_isOneOf_keyiter hit.typeIs ?_)))));show Ú _ _ (setField (.ref it) 1 (ŋ ((i:Int)+1)) >>= _) _ _ s;refine À (ŕ Y Z (by simp) ?_);generalize V:s.heap.update it (Obj.mapFields (·.setIfInBounds 1 (ŋ ((i:Int)+1))))=h';have T:Ĵ it s.heap h':=by rw[<- V];exact Ď ..
 have U:h'.IsKeyIter it d (i+1) es.size ep:=by
  rw[<- V];exact⟨_,Ě _ Y (ľ (ċ Z _)),(YF ..).trans ci,by rw[ċ Z];simp[ŋ]⟩
 refine À (ĝ (À (wpAny_isOneOf_keyiter (s:={ s with heap:=h' }) U.typeIs ?_)))
 show Ú _ _ (pure e.key) _ _ _;exact Â (Â ⟨_,rfl,Â (hQ _ U T)⟩)
def Qu (hh:A.handled=none) (hit:s.heap.IsKeyIter it d i es.size ep) (r:iP s.heap d es ep) (xX:es.size<=i)
 (hQ:∀h',Zz it s.heap h'->Q none { s with heap:=h' }):Ú (î prog w) A (ž (.ref it)) Q E s:=by
 obtain⟨V,Z,ci,Y⟩:=id hit;obtain⟨U,X,_,W⟩:=r;have own:ZW "dict_keyiterator"=false:=by decide
 unfold ž;refine À (μ (ą (name:=ē "__next__") hit.typeIs ŀ (ý ŀ hit.typeIs F.entry_dict_keyiterator_next ?_ (F.args_dict_keyiterator_next_1 _))));refine À (Â (À (À (À (ő hit.typeIs (Â (À (YU Z Y ?_))))))));simp only[own,Ã,ã]
 refine(show Ú _ _ (if (ħ d==Value.none)=true then _ else _) _ _ s from ?_)
 rw[ð (show ¬ ((ħ d==Value.none)=true) by intro z;cases z)];refine À (Â (À (wpAny_dictEntries X W ?_)));rw[ð (by simp)];refine À (Â (À (wpAny_dictEpoch X W ?_)));rw[ð (by simp)];refine Â ?_;simp only[show ¬ ((i:Int)<0) by omega,ã,č,Array.getElem?_eq_none xX];refine À (À (ő hit.typeIs (Â ?_)));refine(À (ŕ Z Y (by simp) ?_):Ú _ _ (setField (.ref it) 0 .none >>= _) _ _ s);show Ú _ _ (newExc (.type "StopIteration") [] >>= _) _ _ _;simp only[newExc,newTuple];refine À (À (ö ?_ (by size_fits)))
 refine À (m:=YR _ _) (ι (a:=Value.none) (by first|rfl | (simp only[YR];rfl)) (ö ?_ (by size_fits)))
 simp only[raiseNew];refine À (wpAny_handled ?_);rw[show A.in1.handled=none from hh];refine À (Â (wpAny_throw ?_));refine À (Y0 (T:="StopIteration") (b:=true) ⟨_,Ì _ rfl,rfl⟩ isSubtype_stop ?_);exact Â (hQ _ (((Ď ..).extBut.push _).push _))
def iP.at (r:iP h d es ep) (k:∀o,h.get? d=some o->h'.get? d=some o):iP h' d es ep:=by obtain⟨o,Z,x⟩:=r;exact⟨o,k o Z,x⟩
def ND (hh:A.handled=none) (I:à) (gE:d≠I) :
  Walks prog w A I [I,d] [I] es.size (λi v=>∃e,es[i]?=some e/\v=e.key) (λi h=>h.IsKeyIter I d i es.size ep/\iP h d es ep) where
 sub:=λb Y=>by simp at Y;simp[Y]
 frame:=λ_ _ _ Z V=>⟨Z.1.at λo e=>V I (by simp) o e,Z.2.at λo e=>V d (by simp) o e⟩
 item:=λi s Q E hi Z X=>by
  have U:es[i]?=some es[i]:=by simp[hi]
  exact OU Z.1 Z.2 U λW S T=>X _ W s.toks ⟨_,U,rfl⟩ ⟨S,Z.2.at λo e=>T.extBut d o gE e⟩ λb o Y e=>T.extBut b o (λh=>Y (by simp[h])) e
 done:=λs Q E Z X=>Qu hh Z.1 Z.2 (aal _) λW R=>X W s.toks λb o Y e=>R b o (λh=>Y (by simp[h])) e
 self:=λ_ _ _ _ Z X=>wpAny_pyIter_keyiter Z.1 X
def Qv (lo:(d==YC)=false):KdlSrc prog w "dict" d d es.size (λi v=>∃e,es[i]?=some e/\v=e.key) (λh=>iP h d es ep) where
 type:=λ_ Z=>Z.ty
 there:=λ_ Z=>⟨Z.lt,Z.lt⟩
 keep:=λ_ _ Z X=>Z.at λo e=>X d (.inl rfl) o e
 notList:=by decide
 notTuple:=by decide
 hint:=λ_ _ _ _ Z Y=>kdl_hint_dict Z.ty Y
 iter:=λ_ _ W Z=>⟨_,_,(λ_ _ Y=>OT lo Z Y),ND W _ (ç Z.lt),⟨⟨_,Ì _ rfl,rfl,rfl⟩,Z.at λo e=>Á _ e⟩⟩
end
def qd (ds:List D) (s:af):Res D:=match ds with
 | [.ao j]=>match s[j]? with
  |some (.dT Z)=>if Z.length<=Û then ok (.lst (Z.map (·.1))) s else none
  |_=>none
 |_=>none
theorem zu:∀as:List à,Vals (as.map V.ref) (as.map ħ)
 | []=>.nil
 |_::as=>.cons rfl (zu as)
section
variable {X:Cx} {Ξ:Wd->bg->Prop}
def Qw (hc:X.calm=true):bP X (.type "list") (rC X.K Ξ qd):=by
 rintro l s σ H k g Q I r ⟨w,f,rfl,S,G,h⟩;unfold qd at h;split at h
 ·rename_i j
  split at h
  ·rename_i P F
   split at h
   ·rename_i O
    obtain⟨v,d,rfl,E,D⟩:=G;cases D;obtain⟨a,e1,rfl⟩:=E
    cases r with
    |cons r C =>
    cases C;cases r;obtain⟨as,B,N,c⟩:=S.cell j a _ e1 F;have len:P.length=as.length:=by have:=N.length;simpa using this
    obtain⟨⟨A,z,M,y,x,hex,u,L⟩,_,_⟩:=I.aC _ _ B;have U:M.size=as.length:=by rw[<- ä,L];simp[len]
    refine kdl_call (Qv A) (I.ok.hd hc) (⟨z,x,hex,u⟩:iP s.heap a M y) (by rw[U,<- len];exact O) λb t Y q p o T=>?_;have W:w.H s.heap.objs.size=none:=I.aC.fresh (aal _);have ev:Y.toList=as.map ħ:=by
     apply Ÿ;intro i;rw[ú];by_cases hi:i<as.length
     ·have n:i<Y.size:=by rw[T.1,U];exact hi
      have J:Y[i]?=some Y[i]:=Array.getElem?_eq_getElem n;obtain⟨e,R,ev⟩:=T.2 i _ J;rw[J,ev];rw[<- ú,L] at R;have m:i<P.length:=by omega
      simp only[Ü,List.zip,List.getElem?_zipWith,É m,É hi,ŷ] at R |-;rw[<- aam R]
     ·rw[Array.getElem?_eq_none (by rw[T.1,U];omega),Ģ (by rw[Ä];omega)]
    refine⟨.ref s.heap.objs.size,upd w.H s.heap.objs.size (.lst (as.map V.ref)),I.laid (t':=t) p (aal _) ?_,rfl,?_⟩
    ·refine⟨by rw[Ä,<- len];exact O,Y.toList,q,?_,by simpa using o⟩
     rw[ev];exact zu as
    ·exact h (w.grow _ (.lst (as.map V.ref))) (Fw.grow W).le (S.grow W) rfl (.ref s.heap.objs.size) ⟨_,_,rfl,⟨(show ¬ w.Z _ from mF S W),cU⟩,(Fw.grow W).le.all N⟩
   ·exact h.elim
  ·exact h.elim
 ·exact h.elim
end
open HT
section
variable {s:Æ}
def Ub (kx:kd x=true) (ky:kd y=true) (hu:A.units+dep x<Zh) (hx:KA s.heap x vx) (hy:KA s.heap y vy):SeqAt.EqAt A s vx vy (beq x y):=by
 obtain⟨as,Z⟩:=KA.reads _ _ hx;obtain⟨bs,Y⟩:=KA.reads _ _ hy;obtain⟨X,W⟩:=jE _ (mI _ kx);obtain⟨V,U⟩:=jE _ (mI _ ky);have:=SeqAt.eqAt_reads _ _ A s vx vy as bs Z Y X V (by rw[W];omega);rw[qc _ _ (mI _ kx) (mI _ ky)] at this;exact this
mutual
theorem Uc:∀(A:Ă) (x y:D) (b:Bool) (vx vy:Ê),iB x y=some b->kd x=true->kd y=true->A.units+5*dep x+5<Zh->KA s.heap x vx->KA s.heap y vy->B7 A s vx vy b
 |A,.int i,y,b,vx,vy,h,_,_,_,Z,Y=>by
  cases y with
  |int j =>
   cases h;obtain⟨t,rfl⟩:=Z;obtain⟨X,rfl⟩:=Y;exact λprog w E Q q=>FV A s i t j X prog w E Q q
  |_=>cases h
 |A,.str i,y,b,vx,vy,h,_,_,_,Z,Y=>by
  cases y with
  |str j =>
   cases h;obtain⟨t,rfl⟩:=Z;obtain⟨X,rfl⟩:=Y;exact λprog w E Q q=>(PyProof.Rows.lt_str q:Ú (î prog w) A (ĭ .Lt (.str i t) (.str j X)) Q E s)
  |_=>cases h
 |A,.tup U,y,b,vx,vy,h,W,ky,T,Z,Y=>by
  cases y with
  |tup S =>
   simp only[iB] at h;simp only[KA] at Z Y;obtain⟨a,o,its,n,rfl,R,P,O,r⟩:=Z;obtain⟨G,N,V,M,rfl,L,K,J,I⟩:=Y;simp only[dep] at T;simp only[kd] at W ky;exact λprog w E Q q=>G2 ⟨o,R,P,n,O⟩ ⟨N,L,K,M,J⟩ (λH F=>AF H U S b _ _ h W ky (by omega) r I) (by omega) q
  |_=>cases h
 |_,.au,_,_,_,_,_,k,_,_,_,_=>by cases k
 |_,.bl _,_,_,_,_,_,k,_,_,_,_=>by cases k
 |_,.lst _,_,_,_,_,_,k,_,_,_,_=>by cases k
 |_,.bw _,_,_,_,_,_,k,_,_,_,_=>by cases k
 |_,.ao _,_,_,_,_,_,k,_,_,_,_=>by cases k
 |_,.ty _,_,_,_,_,_,k,_,_,_,_=>by cases k
 |_,.aZ _,_,_,_,_,_,k,_,_,_,_=>by cases k
 |_,.exc _ _,_,_,_,_,_,k,_,_,_,_=>by cases k
 |_,.cC _ _ _,_,_,_,_,_,k,_,_,_,_=>by cases k
theorem AF:∀(A:Ă) (xs ys:List D) (b:Bool) (ps qs:List Ê),iO xs ys=some b->bN xs=true->bN ys=true->A.units+5*bM xs+5<Zh->cc s.heap xs ps->cc s.heap ys qs->iE A s ps qs b
 |A,[],ys,b,ps,qs,h,_,_,_,V,Z=>by
  cases V
  cases ys with
  |nil=>cases h;cases Z;exact .nn
  |cons y ys=>cases h;obtain⟨v,r,rfl,_⟩:=Z;exact .nc _ _
 |A,x::xs,ys,b,ps,qs,h,Y,ky,T,V,Z=>by
  obtain⟨v,r,rfl,U,S⟩:=V
  cases ys with
  |nil=>cases h;cases Z;exact .cn _ _
  |cons y ys =>
   obtain⟨u,R,rfl,g1,g2⟩:=Z;simp only[bN,È] at Y ky;simp only[bM] at T;have Q:=Nat.le_max_left (dep x) (bM xs);have P:=ZL (dep x) (bM xs);have X:=Ub (A:=A) Y.1 ky.1 (by omega) U g1;simp only[iO] at h;split at h
   ·rename_i W
    rw[W] at X;exact .eq X (AF A xs ys b _ _ h Y.2 ky.2 (by omega) S g2)
   ·rename_i W
    rw[υ] at W;rw[W] at X;exact .lt X (Uc A x y b _ _ h Y.1 ky.1 (by omega) U g1)
end
end
section
variable {prog:ô} {w:Ĉ} {A:Ă} {E:Ê->Æ->Prop} {s:Æ}
def NF (h:iE A s xs ys b):∀(i:Nat),fin=decide (xs.length<ys.length)->Q b s->KatLex prog w A t fin Q (xs.zip ys) (i+1) s:=by
 induction h with
 |nn=>intro i Z q;rw[Z];exact q
 |nc y ys=>intro i Z q;rw[Z];exact q
 |cn x xs=>intro i Z q;rw[Z];exact q
 |eq Y _ ih =>
  intro i Z q;rw[ķ];exact kat_cons (Y prog w _ _ (kat_yes (ih (i+1) (by rw[Z];simp) q)))
 |lt Y X =>
  intro i Z q;rw[ķ];refine kat_cons (Y prog w _ _ (kat_no ?_));rw[show (t&&(i+1==0))=false by simp];exact kat_one _ _ (X prog w _ _ q)
def NG (hs:x=y->iE A s xs ys b) (hf:fin=decide (xs.length<ys.length)) (q:Q (if x=y then b else decide (x.cps.toList<y.cps.toList)) s) :
  KatLex prog w A true fin Q ((.str x t::xs).zip (.str y u::ys)) 0 s:=by
 rw[ķ];refine kat_cons (wpAny_eqBool_str ?_);by_cases e:x=y
 ·rw[é e] at q
  rw[ß e];exact kat_yes (NF (hs e) 0 hf q)
 ·rw[ð e] at q
  rw[ñ e];exact kat_no (oneLt_str q)
end
inductive Pg where
 |made (m d:Int) (h l:List Int)
 |aO (m d k:Int)
noncomputable def ti (l:List Int):D:=.tup (l.map D.int)
def Pg.d:Pg->D
 | .made m d h l=>.tup [.str "made",.int m,.int d,.tup [ti h,ti l]]
 | .aO m d k=>.tup [.str "mended",.int m,.int d,.int k]
def Il (h:ti a=ti b):a=b:=by
 injection h with h
 exact List.map_inj_right (λx y e=>by injection e) |>.mp h
def Pg.A9 {p q:Pg} (h:p.d=q.d):p=q:=by
 cases p<;>cases q<;>simp only[Pg.d,D.tup.injEq,Yy,D.int.injEq,and_true,reduceCtorEq,and_false,false_and] at h
 ·obtain⟨_,Z,Y,X,W⟩:=h
  rw[Z,Y,Il X,Il W]
 ·obtain⟨_,Z,Y,X⟩:=h
  rw[Z,Y,X]
noncomputable def encL:List Int->List Int
 | []=>[0]
 |x::Z=>1::x::encL Z
def Pg.enc:Pg->List Int
 | .made m d h l=>0::m::d::(encL h++encL l)
 | .aO m d k=>[1,m,d,k]
theorem zv:∀{a b u v:List Int},encL a++u=encL b++v->a=b/\u=v
 | [],[],u,v,h=>by simpa [encL] using h
 | [],y::b,u,v,h=>by simp[encL] at h
 |x::a,[],u,v,h=>by simp[encL] at h
 |x::a,y::b,u,v,h=>by
  simp only[encL,ė,Yy,Zq] at h;obtain⟨Z,Y⟩:=zv h.2;exact⟨by rw[h.1,Z],Y⟩
def Pg.Qx {p q:Pg} (h:p.enc=q.enc):p=q:=by
 cases p<;>cases q<;>simp only[Pg.enc,Yy,and_true,Zq,reduceCtorEq,false_and,Int.reduceEq] at h
 ·obtain⟨Y,X,W⟩:=h
  have Z:=zv (u:=encL _++[]) (v:=encL _++[]) (by simpa using W);have V:=zv Z.2;rw[Y,X,Z.1,V.1]
 ·rw[h.1,h.2.1,h.2.2]
def cu:ST.Ord Pg where
 lt p q:=lexLt p.enc q.enc
 Dk p:=ST.zW _
 tr _ _ _ h g:=ST.Sb _ _ _ h g
 vc _ _ h g:=Pg.Qx (ST.Qr _ _ h g)
theorem Fx:∀a b:List Int,iq (a.map D.int) (b.map D.int)=decide (a=b)
 | [],[]=>rfl
 | [],_::_=>rfl
 |_::_,[]=>rfl
 |x::a,y::b=>by
  simp only[Þ,iq,beq,Fx a b]
  by_cases e:x=y<;>simp[e]
theorem Fy:∀a b:List Int,iO (a.map D.int) (b.map D.int)=some (lexLt a b)
 | [],[]=>rfl
 | [],_::_=>rfl
 |_::_,[]=>rfl
 |x::a,y::b=>by
  simp only[Þ,iO,beq,iB,i7,Fy a b]
  by_cases e:x=y<;>simp[e]
theorem zY:∀a b u v:List Int,lexLt (encL a++u) (encL b++v)=if a=b then lexLt u v else lexLt a b
 | [],[],u,v=>by simp[encL,i7]
 | [],y::b,u,v=>by simp[encL,i7];rfl
 |x::a,[],u,v=>by simp[encL,i7];rfl
 |x::a,y::b,u,v=>by
  simp only[encL,ė,i7,ø,zY a b u v,Yy]
  by_cases e:x=y<;>simp[e]
def Jt (p q:Pg):iB p.d q.d=some (cu.lt p q):=by
 have T:¬ ((ē "made")=ē "mended"):=by decide +kernel
 have S:¬ ((ē "mended")=ē "made"):=by decide +kernel
 have R:decide ((ē "made").cps.toList<(ē "mended").cps.toList)=true:=by decide +kernel
 have Q:decide ((ē "mended").cps.toList<(ē "made").cps.toList)=false:=by decide +kernel
 show _=some (lexLt p.enc q.enc)
 cases p with
 |made m d h l =>
  cases q with
  |made Z Y V X =>
   simp only[Pg.d,Pg.enc,iB,iO,beq,iq,ti,i7,Fx,Fy,zY,Ĝ,ø,Bool.and_true];have:=zY l X [] [];simp only[ĸ] at this;rw[this]
   by_cases e1:m=Z<;>by_cases e2:d=Y<;>by_cases W:h=V<;>by_cases P:l=X<;>simp[e1,e2,W,P,ST.zW]
  |aO Z Y U=>simp only[Pg.d,Pg.enc,iB,iO,beq,i7,beq_iff_eq,T,R,ã];simp
 |aO m d k =>
  cases q with
  |made Z Y V X=>simp only[Pg.d,Pg.enc,iB,iO,beq,i7,beq_iff_eq,S,Q,ã];simp
  |aO Z Y U =>
   simp only[Pg.d,Pg.enc,iB,iO,beq,i7,Ĝ,ø]
   by_cases e1:m=Z<;>by_cases e2:d=Y<;>by_cases W:k=U<;>simp[e1,e2,W,ST.zW]
def Ha (l:List Int):bN (l.map D.int)=true:=by
 induction l with
 |nil=>rfl
 |cons x l ih=>simpa only [Þ,bN,kd,Ā] using ih
def Gg (l:List Int):bM (l.map D.int)=0:=by
 induction l with
 |nil=>rfl
 |cons x l ih=>simp only[Þ,bM,dep,ih];rfl
def jh (p:Pg):kd p.d=true:=by
 have Z:PyData.strOk "made"=true:=by decide +kernel
 have Y:PyData.strOk "mended"=true:=by decide +kernel
 cases p<;>simp only[Pg.d,kd,bN,ti,Ha,Z,Y,Ķ]
def wG (p:Pg):dep p.d<=3:=by
 cases p<;>simp only[Pg.d,dep,bM,ti,Gg]<;>decide
def Gh (p:Pg):∃(x:Str) (r:List D),p.d=.tup (.str x::r):=by
 cases p<;>exact⟨_,_,rfl⟩
def Ba {h:ō} {p:Pg} {v:Ê} (q:KA h p.d v):∃(x:Str) (r:List D) (a:à) (o:Obj) (its:Array Ê) (n:Nat) (t:Tok) (us:List Ê),p.d=.tup (.str x::r)/\v=.ref a/\h.get? a=some o/\o.cls=.type "tuple"/\o.data=.seq its n/\its.toList=.str x t::us/\cc h r us/\bN r=true:=by
 obtain⟨x,r,e⟩:=Gh p;have k:=jh p;rw[e] at q k;simp only[KA] at q;obtain⟨a,o,its,n,e1,Z,Y,X,u,us,e2,⟨t,W⟩,V⟩:=q;simp only[kd,bN,È] at k;exact⟨x,r,a,o,its,n,t,us,e,e1,Z,Y,X,by rw[e2,W],V,k.2⟩
section
variable {prog:ô} {w:Ĉ} {A:Ă} {E:Ê->Æ->Prop} {s:Æ}
def NH:∀{ps:List Pg} {us:List Ê},cc s.heap (ps.map Pg.d) us->∃fs,KatTups s.heap us fs/\(∀v∈fs,∃x t,v=Value.str x t)/\fs.length=us.length:=by
 intro ps
 induction ps with
 |nil=>intro us h;cases h;exact⟨[],KatTups.nil,λv (hv:v∈[])=>(þ hv).elim,rfl⟩
 |cons p ps ih =>
  intro us h;obtain⟨v,r,rfl,Z,Y⟩:=h;obtain⟨fs,X,W,V⟩:=ih Y;obtain⟨x,_,a,o,its,n,t,R,_,rfl,U,T,S,hi,_⟩:=Ba Z;refine⟨.str x t::fs,.cons U T S (by rw[<- ú,hi];rfl) X,λv hv=>?_,by simp[V]⟩
  rcases Ò.mp hv with rfl|hv
  ·exact⟨x,t,rfl⟩
  ·exact W v hv
def kas_get:∀{ds:List D} {us:List Ê},cc h ds us->∀i,i<us.length->KA h (ds.getD i .au) (us.getD i Value.none):=by
 intro ds
 induction ds with
 |nil=>intro us h i hi;cases h;cases hi
 |cons d ds ih =>
  intro us h i hi;obtain⟨v,r,rfl,Z,Y⟩:=h
  cases i with
  |zero=>exact Z
  |succ i=>exact ih Y i (by simpa using hi)
def Qy:∀{ds:List D} {us:List Ê},cc h ds us->ds.length=us.length:=by
 intro ds
 induction ds with
 |nil=>intro us h;cases h;rfl
 |cons d ds ih=>intro us h;obtain⟨v,r,rfl,Y,Z⟩:=h;simp[ih Z]
def Sq (hu:A.units+100<Zh) (h1:KA s.heap p.d v) (h2:KA s.heap q.d u) (hC:C (cu.lt p q) s):Ú (î prog w) A (keyLt' (tuples' true) v u) C E s:=by
 obtain⟨x,r,a,o,its,n,t,N,e,rfl,W,M,V,hi,U,k⟩:=Ba h1;obtain⟨Z,T,L,K,Y,J,I,H,S,rfl,R,G,Q,X,P,O⟩:=Ba h2;have dl:=wG p;rw[e] at dl;simp only[dep,bM] at dl;have lt:=Jt p q;rw[e,S] at lt;simp only[iB,iO] at lt;have be:beq (.str x) (.str Z)=true↔x=Z:=by simp[beq]
 refine kat_lt W V R Q ?_;rw[hi,X];refine NG (b:=cu.lt p q) (λex=>?_) ?_ ?_
 ·rw[é (be.mpr ex)] at lt
  exact AF A r T _ _ _ lt k O (by have:=ZL (0:Nat) (bM r);omega) U P
 ·simp[<- ä,hi,X]
 ·by_cases ex:x=Z
  ·rw[é ex];exact hC
  ·rw[ð λz=>ex (be.mp z)] at lt
   rw[ð ex,aam lt];exact hC
def Gi {us:List Ê} {ps:List Pg} (t:cc s.heap (ps.map Pg.d) us) (h2:2<=us.length) (hu:A.units+100<Zh) (d:Pg):ST.xM prog w A cu (λi=>ps.getD i d) us s:=by
 obtain⟨fs,Z,Y,S⟩:=NH t;have X:=Qy t;rw[Ä] at X;have at_:∀i,i<us.length->KA s.heap (ps.getD i d).d (us.getD i Value.none):=λi hi=>by
  have:=kas_get t i hi;rwa [show (ps.map Pg.d).getD i .au=(ps.getD i d).d by simp[Ś,Ü,É (show i<ps.length by omega)]] at this
 unfold ST.xM;refine kat_kind (T:=.type "str") Z (by omega) (λv W=>?_) (by decide) ⟨rfl,λi j C hi V U=>?_⟩
 ·obtain⟨x,R,rfl⟩:=Y v W
  exact .of_pure rfl
 ·exact Sq hu (at_ i hi) (at_ j V) U
end
end TK
namespace TK
open PySem PySem.W PyProof.Rows DI L2
open Classical in
def xl (xs:List D):Option D:=if h:∃Z:List Pg,xs=Z.map Pg.d then some (.lst ((ST.eR cu (Classical.choose h)).map Pg.d)) else none
def EZ:∀{a b:List Pg},a.map Pg.d=b.map Pg.d->a=b:=λh=>List.map_inj_right (λ_ _ e=>Pg.A9 e) |>.mp h
def Gj (ps:List Pg):xl (ps.map Pg.d)=some (.lst ((ST.eR cu ps).map Pg.d)):=by
 unfold xl;have h:∃Z:List Pg,ps.map Pg.d=Z.map Pg.d:=⟨ps,rfl⟩;rw[dif_pos h];have:=EZ (Classical.choose_spec h);rw[<- this]
def qe (ds:List D) (s:af):Res D:=match ds with
 | [d]=>match res d s with
  | .lst Z=>if Z.length<64 then bB (xl Z) s else none
  |_=>none
 |_=>none
section
variable {X:Cx} {Ξ:Wd->bg->Prop}
def zZ (ps:List Pg):bN (ps.map Pg.d)=true:=by
 induction ps with
 |nil=>rfl
 |cons p ps ih=>simp only[Þ,bN,jh,ih,Ķ]
def Qz (hr:bY k X.A):bP X (.builtin "sorted") (rC X.K Ξ qe):=by
 rintro n s σ H N m Q I r ⟨w,l,rfl,S,Y,h⟩;unfold qe at h;split at h
 ·obtain⟨v,rfl,G⟩:=nY Y
  split at h
  ·rename_i F e1
   obtain⟨a,N,rfl,E,Y⟩:=jb S G e1;split at h
   ·rename_i j
    obtain⟨g,e2,h⟩:=eJ h;obtain⟨u,rfl,D⟩:=vals1 r;cases D;obtain⟨its,W,C,B⟩:=I.list (bo.of E);have R:its.length=F.length:=W.length.symm.trans Y.length.symm;have V:=e2;unfold xl at V;split at V
    ·rename_i Z
     obtain⟨U,z⟩:=Z;clear V;subst z;rw[Gj] at e2;cases e2;have M:U.length=its.length:=by rw[R,Ä]
     refine ST.Nx (O:=cu) (x:=λi=>U.getD i (.aO 0 0 0)) C.isList (by omega) (λy f P=>Gi (cc.keep (λb o T _ _=>P b o T) _ _ (sM I _ _ _ (zZ U) Y W)) y (by have:=hr.un;show X.A.units+1+1+100<Zh;have:Zh=9900:=rfl;omega) _) λq c b e Z L P T t=>?_;have J:∀i∈q.toList,i<(U.map Pg.d).length:=λi hi=>by rw[<- R];exact ò.mp (Z.2.mem_iff.mp hi)
     rw[<- M] at Z L;have p:=I.aC.fresh T;refine⟨.ref b,_,I.laid (o:=.lst (q.toList.map λi=>N.getD i .au)) (t':=s.toks) P T ⟨?_,_,e,Fv W (by rw[R];exact J),t⟩,rfl,?_⟩
     ·rw[Ä,ä,Z.1,M,W.length.symm];exact B
     ·refine qG S ?_ h b p
      rw[<- Ge Z L];exact Gb Y J
    ·cases V
   ·exact h.elim
  ·exact h.elim
 ·exact h.elim
end
section
variable {prog:ô} {w:Ĉ} {A:Ă} {E:Ê->Æ->Prop} {s:Æ}
end
section
variable {X:Cx} {Ξ:Wd->bg->Prop} {e:ņ} {te:TE} {pos p2 p4:Pos} {f:DI.aah D}
end
def Bb (f:DI.aah D):DI.aah D:=λenv s=>aq (f env s) λx s=>aq (truth x s) λb s=>ok (.bl (!b)) s
def Sr (ha:PE X a (tE X.K Ξ f)):PE X (.UnaryOp .Not a pos) (tE X.K Ξ (Bb f)):=by
 rintro Y s σ H Q I ⟨w,env,rfl,S,U,h⟩;refine UnaryOp_ (aJ (ha Y s σ w.H (λv W=>∃b,oy X.K v W b/\Q (.bl (!b)) W) I ⟨w,env,rfl,S,U,(Out.aq h).mono λE x D V T v R=>?_⟩) λv P ⟨x,O,N,M,b,L,J⟩=>?_)
 ·obtain⟨b,t,G⟩:=oy.of V R (Out.aq T)
  exact⟨b,t,aD V G _ rfl⟩
 ·refine not_of (ň (HG Y P σ O x v (λc Z=>Q (.bl (!c)) Z) N M ⟨b,L,J⟩) (λc C ⟨Z,F,q⟩=>⟨.bl (!c),Z,F,rfl,q⟩) λ_ _ z=>z)
end TK
namespace ST
open PySem PySem.Spec PyProof.Rows
section
variable {prog:ô} {w:Ĉ} {A:Ă} {E:Ê->Æ->Prop} {s:Æ}
end
end ST
namespace DI
open PySem L2
section
variable {X:Cx} {Ξ:Wd->bg->Prop}
end
section
variable {X:Cx} {Ξ:Wd->bg->Prop} {e o i:ņ} {pos gR:Pos} {f fo fi:aah D}
end
end DI
namespace L2
open PySem PySem.Spec PyProof.Rows
section
variable {X:Cx}
end
end L2
namespace DI
open PySem L2
section
variable {X:Cx} {Ξ:Wd->bg->Prop}
end
end DI
namespace L2
open PySem PySem.Spec PyProof.Rows
section
variable {X:Cx}
end
end L2
namespace DI
open PySem L2
section
variable {X:Cx} {Ξ:Wd->bg->Prop} {a:ņ} {pos:Pos} {f:aah D}
end
end DI
namespace L2
open PySem PySem.Spec PyProof.Rows
section
variable {X:Cx}
end
end L2
namespace DI
open PySem L2
section
variable {X:Cx} {Ξ:Wd->bg->Prop} {pos:Pos}
end
end DI
namespace L2
open PySem PySem.Spec PyProof.Rows
end L2
namespace DI
open PySem L2
section
variable {X:Cx} {Ξ:Wd->bg->Prop}
end
end DI
namespace L2
open PySem PySem.Spec PyProof.Rows
open AutoSeq1 (wpAny_loadPart')
section
variable {prog:ô} {w:Ĉ} {A:Ă} {E:Ê->Æ->Prop} {s:Æ}
end
section
variable {X:Cx}
end
end L2
namespace DI
open PySem L2
section
variable {X:Cx} {Ξ:Wd->bg->Prop} {a:ņ} {p pos:Pos} {fa:aah (List D)}
end
end DI
namespace L2
open PySem PySem.Spec PyProof.Rows
section
variable {X:Cx} {pos:Pos}
def Ud (i j k:Nat) (ta:TA):TS:=λD σ H=>ta σ H λZ Y=>∃v w u,Z=[v,w,u]/\D.nx (((σ.set i (some v)).set j (some w)).set k (some u)) Y
def vals3 (r:Vals [v,w,u] us):∃a b c,us=[a,b,c]/\RelV v a/\RelV w b/\RelV u c:=by
 cases r with
 |cons p q =>
  obtain⟨b,c,rfl,Z,Y⟩:=vals2 q;exact⟨_,b,c,rfl,p,Z,Y⟩
def QA {kt k2 gX} (hc:X.calm=true) (hN:X.N.Nodup) (hi:X.N[i]?=some x) (hj:X.N[j]?=some y) (hk:X.N[k]?=some z) (dR:i≠j) (oT:i≠k) (Dv:j≠k)
 (hx:X.env.scope.names.lookup x=some .local) (hy:X.env.scope.names.lookup y=some .local) (hz:X.env.scope.names.lookup z=some .local) (ha:PA X [a,b,c] ta)
 (hw:ζ [.Tuple [.Name x px,.Name y py,.Name z pz] kt pt] (.Tuple [a,b,c] k2 gX) X.env=pure (some [x,y,z]))
 (hs:ε [.Tuple [.Name x px,.Name y py,.Name z pz] kt pt] (.Tuple [a,b,c] k2 gX) pos.line X.env=pure false) :
  PS X (.Assign [.Tuple [.Name x px,.Name y py,.Name z pz] kt pt] (.Tuple [a,b,c] k2 gX) pos) (Ud i j k ta):=by
 intro U s σ H D I h;rw[exec_Assign_arm];refine À (δ ?_);rw[hs];refine À (Â ?_);rw[ð (by decide)];refine À (Tuple_ (aJ (ha _ U s σ H _ I h) λB Z R=>?_));obtain⟨t,T,Q,P,v,w,u,e1,O⟩:=R;subst e1;obtain⟨Y,W,V,rfl,M,L,K⟩:=vals3 P;refine ö ?_ (by show 3<=Û;decide)
 have J:Inv X U σ T { Z with heap:=Z.heap.push { cls:=.type "tuple",data:=.seq [Y,W,V].toArray } }:=Q.kept (t':=Z.toks) λb o e=>Á _ e
 rw[hw];refine À (Â ?_)
 show Ú (î X.prog X.w) X.A (do rule "assign.swapped-stores";let items <- unpackItems (.ref Z.heap.objs.size) 3 none;ZQ [λv=>ZR X.env z v,λv=>ZR X.env y v,λv=>ZR X.env x v] items.reverse;pure Flow.next) _ _ _
 refine À (Ţ (À (unpackItems_tuple (items:=#[Y,W,V]) (I.ok.hd hc) (IsTup.new Z.heap _) λh' G=>?_)));have F:=J.kept (h':=h') (t':=Z.toks) λb o e=>G b o (ç (Ñ e)) e
 show Ú _ _ (ZQ [λv=>ZR X.env z v,λv=>ZR X.env y v,λv=>ZR X.env x v] [V,W,Y] >>= λ_=>pure Flow.next) _ _ _
 refine À (Ŧ (ZC (mq F hN hk (.inl hz) K (λr E=>?_) (.inr hz))));refine Ŧ (ZC (mq E hN hj (.inl hy) L (λq C=>?_) (.inr hy)));refine Ŧ (ZC (mq C hN hi (.inl hx) M (λp S=>assignInOrder_nil (Â ?_)) (.inr hx)));rw[List.set_comm _ _ (ų Dv),List.set_comm _ _ (ų oT),List.set_comm _ _ (ų dR)] at S;exact⟨_,T,S,O⟩
end
end L2
namespace DI
open PySem L2
section
variable {X:Cx} {Ξ:Wd->bg->Prop} {a b c:ņ} {pos:Pos} {fa:aah (List D)}
def t9 (i j k:Nat) (fa:aah (List D)):aah Fl:=λenv s=>aq (fa env s) λZ s=>match Z with
 | [x,y,z]=>ok (.nx (((env.set i (some x)).set j (some y)).set k (some z))) s
 |_=>none
def Im (i j k:Nat) {x y z:Str} {px py pz pt:Pos} {kt k2 gX} (hc:X.calm=true) (hN:X.N.Nodup) (ha:PA X [a,b,c] (tA X.K Ξ fa)) (hi:X.N[i]?=some x:=by rfl) (hj:X.N[j]?=some y:=by rfl) (hk:X.N[k]?=some z:=by rfl) (dR:i≠j:=by decide) (oT:i≠k:=by decide) (Dv:j≠k:=by decide)
  (hx:X.env.scope.names.lookup x=some .local:=by rfl) (hy:X.env.scope.names.lookup y=some .local:=by rfl) (hz:X.env.scope.names.lookup z=some .local:=by rfl)
  (hw:ζ [.Tuple [.Name x px,.Name y py,.Name z pz] kt pt] (.Tuple [a,b,c] k2 gX) X.env=pure (some [x,y,z]):=by rfl)
  (hs:ε [.Tuple [.Name x px,.Name y py,.Name z pz] kt pt] (.Tuple [a,b,c] k2 gX) pos.line X.env=pure false:=by rfl) :
  PS X (.Assign [.Tuple [.Name x px,.Name y py,.Name z pz] kt pt] (.Tuple [a,b,c] k2 gX) pos) (tS X.K Ξ (t9 i j k fa)):=jD (QA hc hN hi hj hk dR oT Dv hx hy hz ha hw hs) λM σ H W=>by
 obtain⟨w,env,V,S,Y,h⟩:=W;subst V;refine⟨w,env,rfl,S,Y,(Out.aq h).mono λL J U T Z I R=>?_⟩;split at Z
 ·obtain⟨v,r,rfl,Q,dr⟩:=R
  obtain⟨u,t,rfl,P,O⟩:=sI dr;exact⟨v,u,t,rfl,aD T Z _ ((((Y.le U).set Q i).set P j).set O k)⟩
 ·exact Z.elim
end
def pX:List D->af->Res D:=aU 2 6 (ax (t9 2 3 4 (ae (e2 cP (ar bJ (ae (aa 0) (ae (eC (.int 3)) ah))) (eC (.int 0))) (ae (eNew ah) (ae (e2 cN (eC (.int 2)) (ar bJ (ae (aa 0) (ae (eC (.int 9)) ah)))) ah)))) (ax (eU (cb (ae (eC (.int 31)) ah)) (gN 5) (ax (aR (eT (oV (aa 2) (e2 cP (ar bJ (ae (aa 0) (ae (aa 4) ah))) (eC (.int 0)))) (e2 dH (aa 5) (aa 1))) (gN 2)) (bS (cI (aa 2)) (cM (gB (aa 3) (aa 5))) cf))) (aP (lQ (aa 3)))))
def wg (W:Ĉ):List D->af->Res D:=aU 1 12 (ax (aR (bL (ae TK.xk (ae (e2 cN (eC (.int 1)) (ar bJ (ae (aa 0) (ae (eC (.int 3)) ah)))) (ae (e2 cN (eC (.int 1)) (ar bJ (ae (aa 0) (ae (eC (.int 3)) ah)))) ah)))) (gT [(gN 1),(gN 2),(gN 3)])) (ax (eU (cb (ae (aa 2) ah)) (gN 4) (ax (aR (bL (ae (bC 1 [] (cb (ae (eC (.int 8)) ah)) (gN 0) cR (eNew ah)) (ae (eNew ah) ah))) (gT [(gN 5),(gN 6)])) (ax (eU (cb (ae (ar bJ (ae (aa 0) (ae (eC (.int 4)) ah))) ah)) (gN 7) (ax (aR (bL (ae (ar bJ (ae (aa 0) (ae (eC (.int 8)) ah))) (ae (ar bJ (ae (aa 0) (ae (eC (.int 31)) ah))) ah))) (gT [(gN 8),(gN 9)])) (ax (cM (gB (e2 aI (aa 5) (aa 8)) (aa 9))) (TK.lK W (eC (.bl true)) (aa 1) (bL (ae (eC (.str "mended")) (ae (aa 4) (ae (aa 9) (ae (aa 8) ah))))))))) (ax (eU (cb (ae (eC (.int 8)) ah)) (gN 8) (cM (gB (aa 6) (ar pX (ae (aa 0) (ae (e2 aI (aa 5) (aa 8)) ah)))))) (eU (cb (ae (ar bJ (ae (aa 0) (ae (eC (.int 5)) ah))) ah)) (gN 7) (ax (aR (ar bJ (ae (aa 0) (ae (eC (.int 31)) ah))) (gN 9)) (ax (aR (bC 1 [0,3] (cb (ae (eC (.int 8)) ah)) (gN 0) (aV (e2 cP (ar bJ (ae (aa 1) (ae (aa 2) ah))) (eC (.int 0)))) (aa 0)) (gN 10)) (ax (aR (eB dw (ae (bC 1 [9,6] (bG (aa 10)) (gN 0) (aV (e2 eV (aa 1) (e2 aI (aa 2) (aa 0)))) (aa 0)) ah)) (gN 11)) (TK.lK W (eC (.bl true)) (aa 1) (bL (ae (eC (.str "made")) (ae (aa 4) (ae (aa 9) (ae (bL (ae (aa 11) (ae (eB dw (ae (bC 1 [9,6] (bG (aa 10)) (gN 0) (aV (e2 dH (aa 1) (e2 aI (aa 2) (aa 0)))) (aa 0)) ah)) ah))) ah)))))))))))))) (aP (eB dw (ae (eB TK.qe (ae (eB TK.qd (ae (aa 1) ah)) ah)) ah)))))
def pK:List D->af->Res D:=aU 2 2 (aP (tQ (eB qJ (ae (bC 1 [1] (bG (aa 0)) (gN 0) cR (e2 eV (aa 0) (aa 1))) ah))))
def rB:List D->af->Res D:=aU 1 3 (ax (bS (iU (fI (cI (eB jl (ae (aa 0) (ae (eC (.ty "tuple")) ah))))) (aV (e2 iu (eB ix (ae (aa 0) ah)) (eC (.int 2))))) (aP (eC (.bl false))) cf) (ax (aR (aa 0) (gT [(gN 1),(gN 2)])) (aP (eT (ar rq (ae (aa 1) ah)) (eT (ar rq (ae (aa 2) ah)) (ar pK (ae (aa 1) (ae (aa 2) ah))))))))
def rD:List D->af->Res D:=aU 1 1 (aP (ar pN (ae (aa 0) (ae (eC (.int (4))) ah))))
def rQ:List D->af->Res D:=aU 1 1 (aP (ar pN (ae (aa 0) (ae (eC (.int (31))) ah))))
def vL:List D->af->Res D:=aU 1 5 (ax (bS (iU (fI (cI (eB jl (ae (aa 0) (ae (eC (.ty "tuple")) ah))))) (aV (e2 iu (eB ix (ae (aa 0) ah)) (eC (.int 4))))) (aP (eC (.bl false))) cf) (ax (aR (aa 0) (gT [(gN 1),(gN 2),(gN 3),(gN 4)])) (ax (bS (iU (fI (cI (ar rD (ae (aa 2) ah)))) (fI (cI (ar rQ (ae (aa 3) ah))))) (aP (eC (.bl false))) cf) (ax (bS (aV (e2 cP (aa 1) (eC (.str "made")))) (aP (ar rB (ae (aa 4) ah))) cf) (aP (eT (e2 cP (aa 1) (eC (.str "mended"))) (ar rH (ae (aa 4) ah))))))))
def vJ:List D->af->Res D:=aU 1 1 (aP (eT (eB jl (ae (aa 0) (ae (eC (.ty "tuple")) ah))) (eT (e2 tV (eB ix (ae (aa 0) ah)) (eC (.int (24)))) (eT (eB qI (ae (bC 1 [] (bG (aa 0)) (gN 0) cR (ar vL (ae (aa 0) ah))) ah)) (ar nJ (ae (aa 0) ah))))))
def kj:List D->af->Res D:=aU 4 4 (aP (bC 1 [1,2,3] (bG (aa 0)) (gN 0) (gP (aV (e2 cP (e2 aI (aa 0) (eC (.int 0))) (eC (.str "made")))) (gP (aV (e2 cP (e2 aI (aa 0) (eC (.int 1))) (aa 1))) (aV (e2 eV (aa 2) (e2 aI (e2 aI (aa 0) (eC (.int 3))) (aa 3)))))) (e2 aI (aa 0) (eC (.int 2)))))
def pH:List D->af->Res D:=aU 3 3 (aP (bC 1 [1,2] (bG (aa 0)) (gN 0) (gP (aV (e2 cP (e2 aI (aa 0) (eC (.int 0))) (eC (.str "mended")))) (gP (aV (e2 cP (e2 aI (aa 0) (eC (.int 1))) (aa 1))) (aV (e2 cP (e2 aI (aa 0) (eC (.int 3))) (aa 2))))) (e2 aI (aa 0) (eC (.int 2)))))
def vj:List D->af->Res D:=aU 3 3 (aP (eB qJ (ae (bC 1 [1,2] (bG (aa 0)) (gN 0) cR (uV jm tV (aa 1) (aa 0) (aa 2))) ah)))
def rJ:List D->af->Res D:=aU 3 5 (ax (aR (ar kj (ae (aa 0) (ae (aa 1) (ae (aa 2) (ae (eC (.int (1))) ah))))) (gN 3)) (ax (aR (ar pH (ae (aa 0) (ae (aa 1) (ae (aa 2) ah)))) (gN 4)) (aP (AA 2 [3,4] (bG (e1 pU (ar kj (ae (aa 0) (ae (aa 1) (ae (aa 2) (ae (eC (.int (0))) ah))))))) (gN 0) cR (x9 (ae (aa 0) (ae (eC (.int (31))) ah))) (gN 1) (gP (iU (aV (e2 eV (aa 1) (aa 2))) (gP (aV (e2 cP (aa 1) (aa 0))) (aV (e2 eV (aa 0) (aa 3))))) (fI (cI (ar vj (ae (aa 3) (ae (aa 0) (ae (aa 1) ah))))))) (bL (ae (aa 0) (ae (aa 1) ah)))))))
def vH:List D->af->Res D:=aU 1 1 (aP (Ia 4 [0] (cb (ae (eC (.int (4))) ah)) (gN 0) cR (cb (ae (eC (.int (8))) ah)) (gN 1) cR (bG (ar rJ (ae (aa 4) (ae (aa 0) (ae (aa 1) ah))))) (gT [gN 2,gN 3]) cR (bL (ae (aa 0) (ae (aa 1) (ae (aa 2) (ae (aa 3) ah)))))))
def lq:List D->af->Res D:=aU 1 1 (aP (eT (ar vJ (ae (aa 0) ah)) (TK.Bb (ar vH (ae (aa 0) ah)))))
def ll:List D->af->Res D:=aU 1 1 (bS (fI (cI (ar lq (ae (aa 0) ah)))) uW cf)
def mj:List D->af->Res D:=aU 1 1 (bS (fI (cI (ar rD (ae (aa 0) ah)))) uW cf)
def vK:List D->af->Res D:=aU 1 1 (bS (fI (cI (ar rQ (ae (aa 0) ah)))) uW cf)
def vp:List D->af->Res D:=aU 3 8 (ax (aR (ar kj (ae (aa 0) (ae (aa 1) (ae (aa 2) (ae (eC (.int (0))) ah))))) (gN 3)) (ax (aR (ar pH (ae (aa 0) (ae (aa 1) (ae (aa 2) ah)))) (gN 4)) (ax (aR (eNew ah) (gN 5)) (ax (aR (eC (.bl false)) (gN 6)) (ax (eU (cb (ae (eC (.int (31))) ah)) (gN 7) (ax (aR (oV (e2 eV (aa 7) (aa 3)) (eT (aa 6) (e2 dH (aa 7) (aa 4)))) (gN 6)) (bS (cI (aa 6)) (cM (gB (aa 5) (aa 7))) cf))) (aP (lQ (aa 5))))))))
def vw:List D->af->Res D:=aU 3 8 (ax (aR (ar kj (ae (aa 0) (ae (aa 1) (ae (aa 2) (ae (eC (.int (1))) ah))))) (gN 3)) (ax (aR (ar pH (ae (aa 0) (ae (aa 1) (ae (aa 2) ah)))) (gN 4)) (ax (aR (eNew ah) (gN 5)) (ax (aR (eC (.bl false)) (gN 6)) (ax (eU (Dm (ae (eC (.int (31))) ah)) (gN 7) (ax (bS (iU (cI (aa 6)) (iU (aV (e2 eV (aa 7) (aa 3))) (aV (e2 eV (aa 7) (aa 4))))) (cM (gB (aa 5) (aa 7))) cf) (aR (eT (oV (aa 6) (e2 eV (aa 7) (aa 3))) (e2 dH (aa 7) (aa 4))) (gN 6)))) (aP (lQ (aa 5))))))))
def rE:List D->af->Res D:=aU 2 2 (aP (eB dw (ae (bC 1 [1,0] (cb (ae (eC (.int (8))) ah)) (gN 0) (aV (e2 eV (aa 1) (e2 aI (aa 2) (aa 0)))) (aa 0)) ah)))
def lj:List D->af->Res D:=aU 2 4 (ax (aR (bC 1 [0,1] (cb (ae (eC (.int (8))) ah)) (gN 0) cR (ar vp (ae (aa 1) (ae (aa 2) (ae (aa 0) ah))))) (gN 2)) (ax (aR (bC 1 [0,1] (cb (ae (eC (.int (8))) ah)) (gN 0) cR (ar vw (ae (aa 1) (ae (aa 2) (ae (aa 0) ah))))) (gN 3)) (aP (bC 1 [2,3] (cb (ae (eC (.int (31))) ah)) (gN 0) cR (bL (ae (ar rE (ae (aa 1) (ae (aa 0) ah))) (ae (ar rE (ae (aa 2) (ae (aa 0) ah))) ah)))))))
def ko:List D->af->Res D:=aU 3 3 (ax (cM (ar ll (ae (aa 0) ah))) (ax (cM (ar mj (ae (aa 1) ah))) (ax (cM (ar vK (ae (aa 2) ah))) (aP (e2 aI (ar lj (ae (aa 0) (ae (aa 1) ah))) (aa 2))))))
section
variable {X:Cx} {Ξ:Wd->bg->Prop} {a b:ņ} {pos:Pos} {fa:aah (List D)}
end
end DI
namespace L2
open PySem
noncomputable abbrev Pr:=SetTable.Probe
def gk (mask:Nat) (p:Pr):Pr:=if p.more > 0 then { p with j:=p.j+1,more:=p.more-1 } else { p with j:=(ο mask p.i p.perturb).1,more:=ę mask (ο mask p.i p.perturb).1-(ο mask p.i p.perturb).1,i:=(ο mask p.i p.perturb).1,perturb:=(ο mask p.i p.perturb).2 }
def gm (mask i pb:Nat):Pr:={ j:=i,more:=ę mask i-i,i,perturb:=pb,dummy:=none }
def sq (mask:Nat) (p:Pr):Nat->Pr
 |0=>p
 |n+1=>gk mask (sq mask p n)
theorem sO (mask:Nat) (p:Pr) (n:Nat):∀m,sq mask p (n+m)=sq mask (sq mask p n) m
 |0=>rfl
 |m+1=>by show gk mask (sq mask p (n+m))=gk mask _;rw[sO mask p n m]
theorem AG (mask:Nat):∀(m:Nat) (p:Pr),p.more=m->sq mask p (m+1)=gm mask (ο mask p.i p.perturb).1 (ο mask p.i p.perturb).2\/p.dummy≠none
 |0,p,h=>by
  by_cases Z:p.dummy=none
  ·left
   show gk mask p=_;unfold gk;rw[ð (by omega),Z];rfl
  ·exact .inr Z
 |m+1,p,h=>by
  have e:sq mask p (m+1+1)=sq mask (gk mask p) (m+1):=by rw[show m+1+1=1+(m+1) by omega,sO];rfl
  have a:gk mask p={ p with j:=p.j+1,more:=m }:=by unfold gk;rw[é (by omega),h];rfl
  rcases AG mask m (gk mask p) (by rw[a]) with q|q
  ·rw[a] at q e
   exact .inl (e.trans q)
  ·rw[a] at q
   exact .inr q
def Io (mask i:Nat):ę mask i-i<=9:=by unfold ę;split<;>omega
noncomputable def tn (mask:Nat) (i pb:Nat):Nat->Nat×Nat
 |0=>(i,pb)
 |n+1=>ο mask (tn mask i pb n).1 (tn mask i pb n).2
theorem Hb (mask i pb:Nat):∀k,∃n,n<=10*k/\sq mask (gm mask i pb) n=gm mask (tn mask i pb k).1 (tn mask i pb k).2
 |0=>⟨0,aal _,rfl⟩
 |k+1=>by
  obtain⟨n,Z,e⟩:=Hb mask i pb k;have r:=Io mask (tn mask i pb k).1;refine⟨n+((ę mask (tn mask i pb k).1-(tn mask i pb k).1)+1),by omega,?_⟩;rw[sO,e]
  rcases AG mask _ (gm mask (tn mask i pb k).1 (tn mask i pb k).2) rfl with q|q
  ·exact q
  ·exact absurd rfl q
theorem Ju (mask i pb:Nat):∀k,(tn mask i pb k).2=pb / 32 ^ k
 |0=>by simp[tn]
 |k+1=>by
  show (tn mask i pb k).2 / 32=_;rw[Ju mask i pb k,Nat.div_div_eq_div_mul,Nat.pow_succ]
noncomputable def jn (mask:Nat) (i:Nat):Nat->Nat
 |0=>i
 |n+1=>(jn mask i n*5+1) % (mask+1)
theorem z0 (mask i pb:Nat) (h:pb<2 ^ 64):∀k,(tn mask i pb (13+k)).1=jn mask (tn mask i pb 13).1 k
 |0=>rfl
 |k+1=>by
  show ((tn mask i pb (13+k)).1*5+1+(tn mask i pb (13+k)).2 / 32) % (mask+1)=(jn mask (tn mask i pb 13).1 k*5+1) % (mask+1);rw[z0 mask i pb h k,Ju,Nat.pow_add,<- Nat.div_div_eq_div_mul];have z:pb / 32 ^ 13=0:=Nat.div_eq_of_lt (Ë h (by decide));rw[z];simp
def Jv (mask i pb:Nat) (hi:i<=mask):∀k,(tn mask i pb k).1<=mask
 |0=>hi
 |k+1=>by
  show (_:Nat) % (mask+1)<=mask;exact YJ (ZX _ (Z8 _))
theorem vX (m i a:Nat):∀n,jn m i (a+n)=jn m (jn m i a) n
 |0=>rfl
 |n+1=>by show (jn m i (a+n)*5+1) % (m+1)=_;rw[vX m i a n];rfl
def Round (m:Nat):Prop:=(∀j,j<=m->∃a,a<=m/\jn m 0 a=j)/\jn m 0 (m+1)=0
def zw {m:Nat} (h:∀j:Fin (m+1),∃a:Fin (m+1),jn m 0 a.val=j.val) (h0:jn m 0 (m+1)=0):Round m:=⟨λj Z=>by
 obtain⟨a,e⟩:=h ⟨j,by omega⟩;exact⟨a.val,by have:=a.isLt;omega,e⟩,h0⟩
def Ss:Round 7:=zw (by decide +kernel) (by decide +kernel)
def QC:Round 31:=zw (by decide +kernel) (by decide +kernel)
def OV:Round 127:=zw (by decide +kernel) (by decide +kernel)
def Round.go {m:Nat} (R:Round m) {i j:Nat} (hi:i<=m) (hj:j<=m):∃n,n<=m/\jn m i n=j:=by
 obtain⟨a,Z,e⟩:=R.1 i hi;obtain⟨b,Y,e2⟩:=R.1 j hj;by_cases h:a<=b
 ·refine⟨b-a,by omega,?_⟩
  rw[<- e,<- vX,show a+(b-a)=b by omega,e2]
 ·refine⟨b+(m+1)-a,by omega,?_⟩
  rw[<- e,<- vX,show a+(b+(m+1)-a)=(m+1)+b by omega,vX,R.2,e2]
def Hc (h:Int):đ h<2 ^ 64:=by
 unfold đ;have:=Ū h (show (0:Int)<2 ^ 64 by decide);have:=Yz h (show (2 ^ 64:Int)≠0 by decide);omega
def aB (m:Nat) (h:Int) (n:Nat):Pr:=sq m (gm m (đ h % (m+1)) (đ h)) n
def QD {m:Nat} (R:Round m) (h:Int) {j:Nat} (hj:j<=m):∃n,n<10*Ē m/\(aB m h n).j=j:=by
 have hi:đ h % (m+1)<=m:=YJ (ZX _ (Z8 _));obtain⟨k,Z,e⟩:=R.go (Jv m (đ h % (m+1)) (đ h) hi 13) hj;obtain⟨n,Y,e2⟩:=Hb m (đ h % (m+1)) (đ h) (13+k);refine⟨n,by unfold Ē;omega,?_⟩;unfold aB;rw[e2];show (tn m _ _ (13+k)).1=j;rw[z0 _ _ _ (Hc h),e]
theorem Fz (m:Nat) (h:Int):∀n,(aB m h n).dummy=none
 |0=>rfl
 |n+1=>by
  show (gk m (aB m h n)).dummy=none;unfold gk
  split<;>exact Fz m h n
def i8 (t:ł) (h:Int) (n:Nat):Prop:=t.slot (aB t.mask h n).j=.empty/\∀i,i<n->∃e,t.slot (aB t.mask h i).j=.live e
def MP {t:ł} (R:Round t.mask) (hd:t.dummies=#[]) {j:Nat} (hj:j<=t.mask) (hs:t.slot j=.empty) (h:Int):∃n,n<10*Ē t.mask/\i8 t h n:=by
 obtain⟨n,Z,e⟩:=QD R h hj;have Y:∀j,t.slot j≠.dummy:=λj z=>by
  unfold ZS at z;simp only[hd] at z;split at z
  ·cases z
  ·split at z
   ·rename_i q;simp[SetTable.has] at q
   ·cases z
 have ex:∃n,t.slot (aB t.mask h n).j=.empty:=⟨n,by rw[e];exact hs⟩;have:∀n,t.slot (aB t.mask h n).j=.empty->∃m,m<=n/\i8 t h m:=by
  intro n
  induction n using Nat.strongRecOn with
  |_ n ih =>
   intro Z;by_cases q:∃i,i<n/\t.slot (aB t.mask h i).j=.empty
   ·obtain⟨i,hi,X⟩:=q
    obtain⟨m,W,f⟩:=ih i hi X;exact⟨m,by omega,f⟩
   ·refine⟨n,aal _,Z,λi hi=>?_⟩
    cases hs:t.slot (aB t.mask h i).j with
    |empty=>exact absurd ⟨i,hi,hs⟩ q
    |dummy=>exact absurd hs (Y _)
    |live e=>exact⟨e,rfl⟩
 obtain⟨m,W,f⟩:=this n (by rw[e];exact hs);exact⟨m,by omega,f⟩
open TS
theorem Gk (F:i8 t h N):∀(fuel n:Nat),n<=N->N<n+fuel ->
  (∃i e,n<=i/\i<N/\t.slot (aB t.mask h i).j=.live e/\ha e=h/\(∀k,n<=k->k<i->∀e,t.slot (aB t.mask h k).j=.live e->ha e≠h)/\SetTable.probe.go t ha h fuel (aB t.mask h n)=some (.candidate (aB t.mask h i).j e (aB t.mask h (i+1)))) \/
  ((∀k,n<=k->k<N->∀e,t.slot (aB t.mask h k).j=.live e->ha e≠h)/\SetTable.probe.go t ha h fuel (aB t.mask h n)=some (.empty (aB t.mask h N).j none))
 |0,n,U,T=>by omega
 |fuel+1,n,U,T=>by
  by_cases e:n=N
  ·subst e
   refine .inr ⟨λk a b=>by omega,?_⟩;unfold SetTable.probe.go;rw[F.1,Fz]
  ·obtain⟨q,Z⟩:=F.2 n (by omega)
   by_cases Y:ha q=h
   ·refine .inl ⟨n,q,aal _,by omega,Z,Y,λk a b=>by omega,?_⟩
    unfold SetTable.probe.go;rw[Z];simp only[Y,Ĝ,ø];rfl
   ·have W:SetTable.probe.go t ha h (fuel+1) (aB t.mask h n)=SetTable.probe.go t ha h fuel (aB t.mask h (n+1)):=by
     conv=>lhs;unfold SetTable.probe.go
     rw[Z];have:(ha q==h)=false:=by simpa using Y
     simp only[this,Ã,ã];rfl
    have here:∀e,t.slot (aB t.mask h n).j=.live e->ha e≠h:=λe V=>by rw[Z] at V;cases V;exact Y
    rcases Gk F fuel (n+1) (by omega) (by omega) with ⟨i,e,a1,a2,S,R,Q,P⟩ | ⟨a1,a2⟩
    ·refine .inl ⟨i,e,by omega,a2,S,R,λk O X=>?_,W.trans P⟩
     by_cases z:k=n
     ·subst z;exact here
     ·exact Q k (by omega) X
    ·refine .inr ⟨λk O X=>?_,W.trans a2⟩
     by_cases z:k=n
     ·subst z;exact here
     ·exact a1 k (by omega) X
def za {t:ł} (hr:fU t.place.toList) (hd:t.dummies=#[]) (j:Nat):(∃e,t.slot j=.live e/\t.place[e]?=some j)↔j∈t.place.toList:=by
 refine⟨λ⟨e,_,q⟩=>?_,λY=>?_⟩
 ·exact Ę (by rw[ú];exact q)
 ·obtain⟨T,X,W⟩:=vI t.place j hr
  obtain⟨e,Z,q⟩:=ś Y;have V:õ t.place j=e:=by
   have g:t.place.toList.getD e 0=j:=by rw[Ċ,É Z,Option.getD_some,q]
   by_cases z:e<õ t.place j
   ·have:=X e z;omega
   ·by_cases U:õ t.place j<e
    ·have S:=nQ hr U Z
     have R:=W _ (aal _) (by omega);omega
    ·omega
  have g:t.place[e]?=some j:=by rw[<- ú,É Z,q]
  refine⟨e,?_,g⟩;unfold ZS;simp only[V,g,Ĝ,ø]
def yR {t:ł} (hr:fU t.place.toList) (hd:t.dummies=#[]) {j:Nat} (hj:j∉t.place.toList):t.slot j=.empty:=by
 cases q:t.slot j with
 |empty=>rfl
 |dummy =>
  unfold ZS at q;simp only[hd] at q;split at q
  ·cases q
  ·split at q
   ·rename_i z;simp[SetTable.has] at z
   ·cases q
 |live e =>
  refine absurd ?_ hj;unfold ZS at q;simp only at q;split at q
  ·rename_i z
   have:t.place[õ t.place j]?=some j:=by simpa using z
   exact Ę (by rw[ú];exact this)
  ·split at q<;>cases q
theorem yS:∀(k:Nat) (l:List Nat),(∀j,j<k->j∈l)->k<=l.length
 |0,_,_=>ď _
 |k+1,l,h=>by
  have ih:=yS k (l.filter λx=>decide (x<k)) λj Z=>ê.mpr ⟨h j (by omega),by simpa using Z⟩;have c:=List.length_eq_countP_add_countP (λx=>decide (x<k)) (l:=l);rw[List.countP_eq_length_filter] at c;have p:0<l.countP (λx=>!decide (x<k)):=List.countP_pos_iff.mpr ⟨k,h k (by omega),by simp⟩;have e:(l.countP λa=>decide ¬decide (a<k)=true)=l.countP (λx=>!decide (x<k)):=by
   congr 1;funext a
   by_cases z:a<k<;>simp[z]
  rw[e] at c;omega
def Gm {α:Type} (xs:Array α) (p:Nat) (x:α):(Ź xs p x).toList=xs.toList.take p++x::xs.toList.drop p:=by
 unfold Ź;simp[Array.toList_append,YG];exact List.take_of_length_le (by simp)
structure Tp (t:ł) (hs:List Int):Prop where
 size:t.place.toList.length=hs.length
 rise:fU t.place.toList
 le:∀j∈t.place.toList,j<=t.mask
 dm:t.dummies=#[]
 room:hs.length<=t.mask
 round:Round t.mask
 way:∀(e:Nat) (h:Int),hs[e]?=some h->∃n,n<10*Ē t.mask/\t.place.toList[e]?=some (aB t.mask h n).j/\∀i,i<n->(aB t.mask h i).j∈t.place.toList
def Tp.free (T:Tp t hs) (h:Int):∃n,n<10*Ē t.mask/\i8 t h n:=by
 have:∃j,j<=t.mask/\j∉t.place.toList:=by
  refine ĳ λq=>?_;have:=yS (t.mask+1) t.place.toList λj Z=>ĳ λz=>q ⟨j,by omega,z⟩;have s:=T.size;have r:=T.room;omega
 obtain⟨j,Z,Y⟩:=this;exact MP T.round T.dm Z (yR T.rise T.dm Y) h
def i8.not (T:Tp t hs) (F:i8 t h n):(aB t.mask h n).j∉t.place.toList:=λz=>by
 obtain⟨e,q,_⟩:=(za T.rise T.dm _).mpr z;rw[F.1] at q;cases q
def i8.ahead (T:Tp t hs) (F:i8 t h n) (hi:i<n):(aB t.mask h i).j∈t.place.toList:=by
 obtain⟨e,q⟩:=F.2 i hi;refine ĳ λz=>?_;rw[yR T.rise T.dm z] at q;cases q
def Tp.met (T:Tp t hs) (F:i8 t h N) (he:hs[e]?=some h):∃i,i<N/\t.slot (aB t.mask h i).j=.live e:=by
 obtain⟨n,Q,Z,W⟩:=T.way e h he;have m:(aB t.mask h n).j∈t.place.toList:=Ę Z;obtain⟨Y,V,X⟩:=(za T.rise T.dm _).mpr m;have U:Y=e:=by
  rw[<- ú] at X;have S:=(Ç.mp X).1;have R:=(Ç.mp Z).1;have g1:t.place.toList.getD Y 0=(aB t.mask h n).j:=by rw[Ċ,X];rfl
  have g2:t.place.toList.getD e 0=(aB t.mask h n).j:=by rw[Ċ,Z];rfl
  rcases Nat.lt_trichotomy Y e with z|z|z
  ·have:=nQ T.rise z R;omega
  ·exact z
  ·have:=nQ T.rise z S;omega
 subst U;refine⟨n,?_,V⟩
 rcases Nat.lt_trichotomy n N with z|z|z
 ·exact z
 ·subst z;exact absurd m (F.not T)
 ·exact absurd (W N z) (F.not T)
theorem Tp.put (T:Tp t hs) (hN:N<10*Ē t.mask) (F:i8 t h N) (IT:hs.length+1<=t.mask) (hj:(aB t.mask h N).j<=t.mask) :
  Tp (t.put (aB t.mask h N).j).1 (hs.take (õ t.place (aB t.mask h N).j)++h::hs.drop (õ t.place (aB t.mask h N).j)):=by
 have I:=F.not T;have W:(t.put (aB t.mask h N).j).1.place.toList=t.place.toList.take (õ t.place (aB t.mask h N).j)++(aB t.mask h N).j::t.place.toList.drop (õ t.place (aB t.mask h N).j):=by
  unfold SetTable.put;exact Gm _ _ _
 have S:(t.put (aB t.mask h N).j).1.mask=t.mask:=rfl;obtain⟨R,_,_⟩:=vI t.place (aB t.mask h N).j T.rise;generalize H:õ t.place (aB t.mask h N).j=p at R W |-;have sz:=T.size;have O:p<=hs.length:=by omega
 have mem:∀j,j∈(t.put (aB t.mask h N).j).1.place.toList↔j=(aB t.mask h N).j\/j∈t.place.toList:=λj=>by
  rw[W,â,Ò];constructor
  ·rintro (z|z|z)
   ·exact .inr (List.mem_of_mem_take z)
   ·exact .inl z
   ·exact .inr (List.mem_of_mem_drop z)
  ·rintro (z|z)
   ·exact .inr (.inl z)
   ·rw[<- List.take_append_drop p t.place.toList,â] at z
    rcases z with z|z
    ·exact .inl z
    ·exact .inr (.inr z)
 have idx:∀{α:Type} (l:List α) (x:α) (e:Nat) (y:α),p<=l.length->(l.take p++x::l.drop p)[e]?=some y->(e=p/\y=x)\/∃V:Nat,l[V]?=some y/\∀{β:Type} (Z:List β) (Y:β),p<=Z.length->(Z.take p++Y::Z.drop p)[e]?=Z[V]?:=by
  intro α l x e y Q X
  rcases Nat.lt_trichotomy e p with z|z|z
  ·refine .inr ⟨e,?_,λ{β} Z Y U=>?_⟩
   ·rw[Õ (by rw[Ğ];omega),Y6 z] at X;exact X
   ·rw[Õ (by rw[Ğ];omega),Y6 z]
  ·subst z
   rw[æ (by rw[Ğ];omega),Ğ,Nat.min_eq_left Q,Nat.sub_self] at X;exact .inl ⟨rfl,(aam X).symm⟩
  ·have go:∀{β:Type} (Z:List β) (Y:β),p<=Z.length->(Z.take p++Y::Z.drop p)[e]?=Z[e-1]?:=λ{β} Z Y U=>by
    rw[æ (by rw[Ğ];omega),Ğ,Nat.min_eq_left U,show e-p=(e-1-p)+1 by omega,List.getElem?_cons_succ,List.getElem?_drop,show p+(e-1-p)=e-1 by omega]
   exact .inr ⟨e-1,by rw[<- go l x Q];exact X,λZ Y U=>go Z Y U⟩
 refine⟨?_,?_,λj M=>?_,?_,?_,by rw[S];exact T.round,λe P X=>?_⟩
 ·rw[W]
  simp only[í,á,Ğ,YY];omega
 ·have:=FZ (j:=(aB t.mask h N).j) T.rise (yW (.inl F.1))
  exact this
 ·rcases(mem j).mp M with z|z
  ·rw[z];exact hj
  ·exact T.le j z
 ·unfold SetTable.put
  simp only[T.dm];simp[SetTable.has]
 ·rw[S]
  simp only[í,á,Ğ,YY];omega
 ·rw[S]
  rcases idx hs h e P O X with ⟨rfl,rfl⟩ | ⟨V,L,K⟩
  ·refine⟨N,hN,?_,λi hi=>(mem _).mpr (.inr (F.ahead T hi))⟩
   rw[W,æ (by rw[Ğ];omega),Ğ,Nat.min_eq_left R,Nat.sub_self];rfl
  ·obtain⟨n,a1,a2,J⟩:=T.way V P L
   refine⟨n,a1,?_,λi hi=>(mem _).mpr (.inr (J i hi))⟩;rw[W,K t.place.toList (aB t.mask h N).j R];exact a2
theorem Jw (m:Nat):∀(k:Nat) (p:Pr),k<=p.more->(sq m p k).j=p.j+k/\(sq m p k).more=p.more-k
 |0,p,_=>⟨rfl,rfl⟩
 |k+1,p,h=>by
  obtain⟨a,b⟩:=Jw m k p (by omega);show (gk m (sq m p k)).j=_/\(gk m (sq m p k)).more=_;unfold gk;rw[é (by omega)];exact⟨by show (sq m p k).j+1=_;omega,by show (sq m p k).more-1=_;omega⟩
theorem Hd (i0 pb:Nat):∀(fuel k n:Nat),n<=10*k->sq m (gm m i0 pb) n=gm m (tn m i0 pb k).1 (tn m i0 pb k).2->(∀i,i<n->(owner.getD (sq m (gm m i0 pb) i).j (some 0)).isNone=false) ->
  ∀j,SetTable.layClean.free m owner fuel (tn m i0 pb k).1 (tn m i0 pb k).2=some j->∃N,N<10*(k+fuel)/\(sq m (gm m i0 pb) N).j=j/\(owner.getD j (some 0)).isNone=true/\∀i,i<N->(owner.getD (sq m (gm m i0 pb) i).j (some 0)).isNone=false
 |0,k,n,_,_,_,j,h=>by unfold SetTable.layClean.free at h;cases h
 |fuel+1,k,n,L,W,V,j,h=>by
  have K:=Io m (tn m i0 pb k).1;unfold SetTable.layClean.free at h;have Y:∀q,q<=ę m (tn m i0 pb k).1-(tn m i0 pb k).1->(sq m (gm m i0 pb) (n+q)).j=(tn m i0 pb k).1+q:=λq U=>by
   rw[sO,W];exact(Jw m q (gm m (tn m i0 pb k).1 (tn m i0 pb k).2) U).1
  have le:(tn m i0 pb k).1<=ę m (tn m i0 pb k).1:=by unfold ę;split<;>omega
  cases Z:(Ó (ę m (tn m i0 pb k).1+1-(tn m i0 pb k).1)).find? λq=>(owner.getD ((tn m i0 pb k).1+q) (some 0)).isNone with
  |some q =>
   rw[Z] at h;cases h;obtain⟨T,as,bs,X,S⟩:=List.find?_eq_some_iff_append.mp Z;have U:q<ę m (tn m i0 pb k).1+1-(tn m i0 pb k).1:=by
    have:=List.mem_of_find?_eq_some Z;simpa using this
   have R:∀r,r<q->(owner.getD ((tn m i0 pb k).1+r) (some 0)).isNone=false:=λr J=>by
    have:r∈as:=by
     have e:=ļ (λl=>l[r]?) X;have e2:=ļ (λl=>l[as.length]?) X;simp only[æ (aal _),Nat.sub_self,List.getElem?_cons_zero] at e2;rw[ĥ (by have:=ļ List.length X;simp at this;omega)] at e2;have eq:as.length=q:=aam e2;simp only[Õ (show r<as.length by omega)] at e;rw[ĥ (by omega)] at e;exact Ę e.symm
    have:=S r this;simpa using this
   refine⟨n+q,by omega,Y q (by omega),T,λi hi=>?_⟩;by_cases z:i<n
   ·exact V i z
   ·have:=R (i-n) (by omega)
    rw[<- Y (i-n) (by omega),show n+(i-n)=i by omega] at this;exact this
  |none =>
   rw[Z] at h;have Q:=Zp.mp Z;have P:sq m (gm m i0 pb) (n+((ę m (tn m i0 pb k).1-(tn m i0 pb k).1)+1))=gm m (tn m i0 pb (k+1)).1 (tn m i0 pb (k+1)).2:=by
    rw[sO,W]
    rcases AG m _ (gm m (tn m i0 pb k).1 (tn m i0 pb k).2) rfl with q|q
    ·exact q
    ·exact absurd rfl q
   suffices O:∀i,i<n+((ę m (tn m i0 pb k).1-(tn m i0 pb k).1)+1)->(owner.getD (sq m (gm m i0 pb) i).j (some 0)).isNone=false by
    obtain⟨N,I,M⟩:=Hd i0 pb fuel (k+1) _ (by omega) P O j h;exact⟨N,by omega,M⟩
   intro i hi;by_cases z:i<n
   ·exact V i z
   ·have:=Q (i-n) (by simp;omega)
    rw[<- Y (i-n) (by omega),show n+(i-n)=i by omega] at this
    cases q:(owner.getD (sq m (gm m i0 pb) i).j (some 0)).isNone with
    |false=>rfl
    |true=>exact absurd q this
theorem FA (i0 pb:Nat):∀(fuel k:Nat),SetTable.layClean.free m owner fuel (tn m i0 pb k).1 (tn m i0 pb k).2=none->∀q,q<fuel->(owner.getD (tn m i0 pb (k+q)).1 (some 0)).isNone=false
 |0,_,_,q,Y=>by omega
 |fuel+1,k,h,q,Y=>by
  unfold SetTable.layClean.free at h
  have le:(tn m i0 pb k).1<=ę m (tn m i0 pb k).1:=by unfold ę;split<;>omega
  cases Z:(Ó (ę m (tn m i0 pb k).1+1-(tn m i0 pb k).1)).find? λq=>(owner.getD ((tn m i0 pb k).1+q) (some 0)).isNone with
  |some q=>rw[Z] at h;cases h
  |none =>
   rw[Z] at h
   cases q with
   |zero =>
    have:=Zp.mp Z 0 (by simp;omega)
    cases z:(owner.getD (tn m i0 pb (k+0)).1 (some 0)).isNone with
    |false=>rfl
    |true=>exact absurd z this
   |succ q =>
    have:=FA i0 pb fuel (k+1) h q (by omega);rw[show k+(q+1)=k+1+q by omega];exact this
def QE (R:Round m) (hj:j0<=m) (h0:(owner.getD j0 (some 0)).isNone=true) (h:Int):∃N,N<10*Ē m/\SetTable.layClean.free m owner (Ē m) (đ h % (m+1)) (đ h)=some (aB m h N).j/\(owner.getD (aB m h N).j (some 0)).isNone=true/\∀i,i<N->(owner.getD (aB m h i).j (some 0)).isNone=false:=by
 cases Z:SetTable.layClean.free m owner (Ē m) (đ h % (m+1)) (đ h) with
 |none =>
  have hi:đ h % (m+1)<=m:=YJ (ZX _ (Z8 _));obtain⟨k,W,e⟩:=R.go (Jv m (đ h % (m+1)) (đ h) hi 13) hj;have:=FA (owner:=owner) (đ h % (m+1)) (đ h) (Ē m) 0 Z (13+k) (by unfold Ē;omega);rw[Nat.zero_add,z0 _ _ _ (Hc h),e,h0] at this;cases this
 |some j =>
  obtain⟨N,a1,a2,Y,X⟩:=Hd (owner:=owner) (đ h % (m+1)) (đ h) (Ē m) 0 0 (aal _) rfl (λi hi=>by omega) j Z;refine⟨N,by omega,?_,?_,X⟩
  ·rw[show (aB m h N).j=j from a2]
  ·rw[show (aB m h N).j=j from a2];exact Y
structure Ow (m:Nat) (hs:List Int) (owner:Array (Option Nat)):Prop where
 size:owner.size=m+1
 slot:∀(e:Nat) (h:Int),hs[e]?=some h->∃N,N<10*Ē m/\owner[(aB m h N).j]?=some (some e)/\∀i,i<N->(owner.getD (aB m h i).j (some 0)).isNone=false
 own:∀(j e:Nat),owner[j]?=some (some e)->e<hs.length
 one:∀(j j' e:Nat),owner[j]?=some (some e)->owner[j']?=some (some e)->j=j'
def Ow.nil (m:Nat):Ow m [] (Array.replicate (m+1) none):=⟨by simp,λe h z=>by simp at z,λj e z=>by
 rw[Array.getElem?_replicate] at z
 split at z<;>simp at z,λj Z e z=>by
 rw[Array.getElem?_replicate] at z
 split at z<;>simp at z⟩
def getD_none {owner:Array (Option Nat)} {j:Nat} (h:(owner.getD j (some 0)).isNone=true):owner[j]?=some none:=by
 rw[Ĕ] at h
 cases q:owner[j]? with
 |none=>rw[q] at h;cases h
 |some o =>
  rw[q] at h
  cases o with
  |none=>rfl
  |some e=>cases h
def Ow.snoc {m:Nat} {hs:List Int} {owner:Array (Option Nat)} (O:Ow m hs owner) {h:Int} {N:Nat} (hN:N<10*Ē m) (h0:(owner.getD (aB m h N).j (some 0)).isNone=true) (ha:∀i,i<N->(owner.getD (aB m h i).j (some 0)).isNone=false) :
  Ow m (hs++[h]) (owner.setIfInBounds (aB m h N).j (some hs.length)):=by
 have W:=getD_none h0;have X:(aB m h N).j<owner.size:=(Š.mp W).1
 have get:∀j,(owner.setIfInBounds (aB m h N).j (some hs.length))[j]?=if j=(aB m h N).j then some (some hs.length) else owner[j]?:=λj=>by
  rw[Array.getElem?_setIfInBounds];by_cases z:(aB m h N).j=j
  ·subst z;simp[X]
  ·rw[ð z,ð (ų z)]
 have keep:∀j,(owner.getD j (some 0)).isNone=false->((owner.setIfInBounds (aB m h N).j (some hs.length)).getD j (some 0)).isNone=false:=λj X=>by
  rw[Ĕ,get];split
  ·rfl
  ·rw[<- Ĕ];exact X
 refine⟨by simp[O.size],λe U Z=>?_,λj e z=>?_,λj V e z Y=>?_⟩
 ·by_cases q:e<hs.length
  ·rw[Õ q] at Z
   obtain⟨n,a1,a2,T⟩:=O.slot e U Z;refine⟨n,a1,?_,λi hi=>keep _ (T i hi)⟩;rw[get,ð (λz=>by rw[z,W] at a2;cases a2)];exact a2
  ·have:e=hs.length:=by have:=(Ç.mp Z).1;simp at this;omega
   subst this;rw[æ (aal _),Nat.sub_self] at Z;cases Z;exact⟨N,hN,by rw[get,é rfl],λi hi=>keep _ (ha i hi)⟩
 ·rw[get] at z
  rw[í];split at z
  ·cases z;simp
  ·have:=O.own j e z;omega
 ·rw[get] at z Y
  split at z<;>split at Y
  ·rename_i a b;rw[a,b]
  ·cases z;have:=O.own V _ Y;omega
  ·cases Y;have:=O.own j _ z;omega
  ·exact O.one j V e z Y
def Ow.free (O:Ow m hs owner) (hl:hs.length<=m):∃j,j<=m/\(owner.getD j (some 0)).isNone=true:=by
 refine ĳ λq=>?_;have all:∀j,j<=m->∃e,owner[j]?=some (some e):=λj Y=>by
  have l:j<owner.size:=by rw[O.size];omega
  cases z:owner[j]? with
  |none=>rw[Array.getElem?_eq_none_iff] at z;omega
  |some o =>
   cases o with
   |some e=>exact⟨e,rfl⟩
   |none=>exact absurd ⟨j,Y,by rw[Ĕ,z];rfl⟩ q
 have:=yS (m+1) ((Ó hs.length).filterMap λe=>owner.toList.findIdx? λo=>o==some e) λj Y=>by
  obtain⟨e,Z⟩:=all j (by omega);refine Ze.mpr ⟨e,ò.mpr (O.own j e Z),?_⟩;have W:(some e)∈owner.toList:=Ę (by rw[ú];exact Z)
  cases f:owner.toList.findIdx? λo=>o==some e with
  |none =>
   have:=List.findIdx?_eq_none_iff.mp f _ W;simp at this
  |some X =>
   obtain⟨V,U,_⟩:=List.findIdx?_eq_some_iff_getElem.mp f;have e1:owner[X]?=some (some e):=by rw[<- ú,É V];simpa using U
   rw[O.one X j e e1 Z]
 have le:((Ó hs.length).filterMap λe=>owner.toList.findIdx? λo=>o==some e).length<=hs.length:=by
  have:=List.length_filterMap_le (λe=>owner.toList.findIdx? λo=>o==some e) (Ó hs.length);rw[Ŀ] at this;exact this
 omega
noncomputable def xN (m:Nat) (acc:Option (Array (Option Nat)×Nat)) (h:Int):Option (Array (Option Nat)×Nat):=do
 let (owner,k) <- acc
 let j <- SetTable.layClean.free m owner (Ē m) (đ h % (m+1)) (đ h)
 pure (owner.setIfInBounds j (some k),k+1)
theorem He (R:Round m):∀(more hs:List Int) (owner:Array (Option Nat)),Ow m hs owner->hs.length+more.length<=m->∃wH,more.foldl (xN m) (some (owner,hs.length))=some (wH,(hs++more).length)/\Ow m (hs++more) wH
 | [],hs,owner,O,_=>⟨owner,by rw[ĸ];rfl,by rw[ĸ];exact O⟩
 |h::more,hs,owner,O,Y=>by
  rw[á] at Y;obtain⟨S,X,W⟩:=O.free (by omega);obtain⟨N,a1,a2,V,U⟩:=QE R X W h;have T:=O.snoc a1 V U;obtain⟨wH,e,Z⟩:=He R more (hs++[h]) _ T (by rw[í,á,û];omega);rw[ĕ] at e Z;refine⟨wH,?_,Z⟩;rw[List.foldl_cons];have s:xN m (some (owner,hs.length)) h=some (owner.setIfInBounds (aB m h N).j (some hs.length),(hs++[h]).length):=by
   unfold xN;simp only[Option.bind_eq_bind,Option.bind_some,a2];simp
  rw[s];exact e
def OW (R:Round m) (hl:hs.length<=m):∃owner,aae m hs.toArray=some owner/\Ow m hs owner:=by
 obtain⟨owner,e,O⟩:=He R hs [] _ (Ow.nil m) (by simpa using hl);refine⟨owner,?_,O⟩;unfold aae;rw[List.foldl_toArray];show (hs.foldl (xN m) (some (Array.replicate (m+1) none,0))).map (·.1)=_;rw[show (0:Nat)=([]:List Int).length from rfl,e];rfl
def Ip (h:i<=m):i+(ę m i-i)<=m:=by unfold ę;split<;>omega
theorem AH (m:Nat) (h:Int):∀n,(aB m h n).j+(aB m h n).more<=m
 |0=>Ip (YJ (ZX _ (Z8 _)))
 |n+1=>by
  have ih:=AH m h n;show (gk m (aB m h n)).j+(gk m (aB m h n)).more<=m;unfold gk;split
  ·show (aB m h n).j+1+((aB m h n).more-1)<=m
   omega
  ·exact Ip (YJ (ZX _ (Z8 _)))
noncomputable def gw (m:Nat) (owner:Array (Option Nat)):List (Nat×Nat):=(Ó (m+1)).filterMap λj=>(owner.getD j none).map (j,·)
def mr (hs:owner.size=m+1):p∈gw m owner↔owner[p.1]?=some (some p.2):=by
 unfold gw;rw[Ze];constructor
 ·rintro ⟨j,_,e⟩
  obtain⟨o,q,rfl⟩:=Ys.mp e;rw[Ĕ] at q
  cases z:owner[j]? with
  |none=>rw[z] at q;cases q
  |some Z =>
   rw[z] at q;have Y:Z=some o:=q;subst Y;rfl
 ·intro e
  refine⟨p.1,ò.mpr (by have:=(Š.mp e).1;omega),?_⟩;rw[Ĕ,e];rfl
def FC (m:Nat) (owner:Array (Option Nat)):fU ((gw m owner).map (·.1)):=by
 unfold gw;rw[Zj];have:∀l:List Nat,fU l->fU (l.filterMap λj=>((owner.getD j none).map (j,·)).map (·.1)):=λl h=>by
  refine List.Pairwise.filterMap _ (λa X h b Z W Y=>?_) h;simp only[Option.map_map,Ys] at Z Y;obtain⟨_,_,rfl⟩:=Z;obtain⟨_,_,rfl⟩:=Y;exact h
 exact this _ List.pairwise_lt_range
def NI (O:Ow m hs owner):((gw m owner).map (·.2)).Perm (Ó hs.length):=by
 refine(List.perm_ext_iff_of_nodup ?_ List.nodup_range).mpr λe=>?_
 ·have:(gw m owner).Pairwise λp q=>p.2≠q.2:=by
   have r:=FC m owner;have r:=List.pairwise_map.mp r;refine List.Pairwise.imp_of_mem (λ{p q} Z Y h z=>?_) r;have a:=(mr O.size).mp Z;have b:=(mr O.size).mp Y;rw[z] at a;have:=O.one _ _ _ a b;omega
  exact List.pairwise_map.mpr this
 ·rw[å,ò]
  constructor
  ·rintro ⟨p,Z,rfl⟩
   exact O.own _ _ ((mr O.size).mp Z)
  ·intro h
   obtain⟨N,_,a,_⟩:=O.slot e _ (É h);exact⟨(_,e),(mr O.size).mpr a,rfl⟩
def QG {m finger moves:Nat} {led plain:Bool} (R:Round m) {hs:List Int} (hl:hs.length<=m):∃(t:ł) (order:List Nat),SetTable.laid m finger moves led plain hs.toArray=some (t,order.toArray)/\order.Perm (Ó hs.length)/\t.mask=m/\t.led=led/\t.plain=plain/\t.moves=moves/\Tp t (order.filterMap (hs[·]?)):=by
 obtain⟨owner,e,O⟩:=OW R hl;have pm:=NI O;refine⟨{ mask:=m,place:=((gw m owner).map (·.1)).toArray,dummies:=#[],finger,led,moves,plain },(gw m owner).map (·.2),?_,pm,rfl,rfl,rfl,rfl,?_⟩
 ·unfold SetTable.laid
  rw[e];rfl
 have all:∀p∈gw m owner,∃h,hs[p.2]?=some h:=λp Z=>⟨_,É (O.own _ _ ((mr O.size).mp Z))⟩;have X:((gw m owner).map (·.2)).filterMap (hs[·]?)=(gw m owner).map λp=>hs.getD p.2 0:=by
  rw[List.filterMap_map];generalize gw m owner=l at all
  induction l with
  |nil=>rfl
  |cons p l ih =>
   obtain⟨h,q⟩:=all p Î;rw[Y3,Þ];rw[<- ih λx W=>all x (Ð _ W)];simp only[Function.comp,q,Ċ,Option.getD_some]
 rw[X];refine⟨by simp,by simpa using FC m owner,λj Y=>?_,rfl,?_,R,λi h hi=>?_⟩
 ·have Y:j∈(gw m owner).map (·.1):=by simpa using Y
  obtain⟨p,Z,rfl⟩:=å.mp Y;have:=(Š.mp ((mr O.size).mp Z)).1;have:=O.size;show p.1<=m;omega
 ·rw[Ä]
  have:=pm.length_eq;rw[Ä,Ŀ] at this;show (gw m owner).length<=m;omega
 ·rw[Ü] at hi
  obtain⟨p,Z,rfl⟩:=Ys.mp hi;have a:=(mr O.size).mp (Ę Z);obtain⟨h,q⟩:=all p (Ę Z);have V:hs.getD p.2 0=h:=by rw[Ċ,q];rfl
  rw[V];obtain⟨N,U,T,S⟩:=O.slot p.2 h q;have Q:p.1=(aB m h N).j:=O.one _ _ _ a T;refine⟨N,U,?_,λi hi=>?_⟩
  ·show ((gw m owner).map (·.1))[_]?=_
   rw[Ü,Z,<- Q];rfl
  ·show (aB m h i).j∈(gw m owner).map (·.1)
   have b:=S i hi
   cases z:owner[(aB m h i).j]? with
   |none =>
    rw[Array.getElem?_eq_none_iff] at z;have:=AH m h i;have:=O.size;omega
   |some o =>
    cases o with
    |none=>rw[Ĕ,z] at b;cases b
    |some e=>exact å.mpr ⟨((aB m h i).j,e),(mr O.size).mpr z,rfl⟩
end L2
namespace TK
open PySem PySem.W PyProof.Rows DI L2 TS
section
variable {prog:ô} {w:Ĉ}
def Gn:∀(n:Nat) (k:D),dep k<=n->∀{A:Ă} {s:Æ} {v:Ê} {E:Ê->Æ->Prop} {Q:Bool->Æ->Prop},KA s.heap k v->Q false s->Ú (î prog w) A (ofAClassStatement n v) Q E s:=by
 intro n
 induction n with
 |zero =>
  intro k Z A s v E Q q h
  cases k with
  |int i=>obtain⟨t,rfl⟩:=q;exact Â h
  |str i=>obtain⟨t,rfl⟩:=q;exact Â h
  |tup W=>simp[dep] at Z
  |_=>cases q
 |succ n ih =>
  intro k Z A s v E Q q h
  cases k with
  |int i=>obtain⟨t,rfl⟩:=q;exact Â h
  |str i=>obtain⟨t,rfl⟩:=q;exact Â h
  |tup W =>
   simp only[dep] at Z;simp only[KA] at q;obtain⟨a,o,items,m,rfl,V,S,R,hi⟩:=q;have P:s.TypeIs (.ref a) "tuple":=⟨o,V,S⟩;unfold ofAClassStatement;refine À (Y8 P ?_);show Ú _ _ (pure true >>= _) _ _ s;refine À (Â ?_);simp only[ï,Ã,ã];refine À (ı V R ?_);dsimp only;refine À ?_;show Ú _ _ (forIn items _ _) _ _ s;rw[<- Zo];refine ψ _ (λrest r Y=>r.1=none/\Y=s/\∃left,cc s.heap left rest/\∀k∈left,dep k<=n) _ ?_ ?_ _ _ ⟨rfl,rfl,W,hi,λk O=>by have:=zX O;omega⟩
   ·rintro v rest r Y ⟨X,rfl,left,U,T⟩
    cases left with
    |nil=>cases U
    |cons k left =>
     obtain⟨K,J,ex,N,M⟩:=U;cases ex;refine À (ih k (T k Î) N ?_);simp only[Ã,ã];exact Â ⟨rfl,rfl,left,M,λu L=>T u (Ð _ L)⟩
   ·rintro ⟨I,H⟩ Y ⟨X,rfl,_⟩
    simp only at X;subst X;exact Â h
  |_=>cases q
def OX:∀(n:Nat) (k:D) {A:Ă} {s:Æ} {v:Ê} {E:Ê->Æ->Prop} {Q:Bool->Æ->Prop},KA s.heap k v->(∀b,Q b s)->Ú (î prog w) A (hashByValue n v) Q E s:=by
 intro n
 induction n with
 |zero =>
  intro k A s v E Q q h
  cases k with
  |int i=>obtain⟨t,rfl⟩:=q;exact Â (h _)
  |str i=>obtain⟨t,rfl⟩:=q;exact Â (h _)
  |tup X =>
   simp only[KA] at q;obtain⟨a,o,items,m,rfl,_⟩:=q;exact Â (h _)
  |_=>cases q
 |succ n ih =>
  intro k A s v E Q q h
  cases k with
  |int i=>obtain⟨t,rfl⟩:=q;exact Â (h _)
  |str i=>obtain⟨t,rfl⟩:=q;exact Â (h _)
  |tup X =>
   simp only[KA] at q;obtain⟨a,o,items,m,rfl,W,U,T,hi⟩:=q;have S:s.TypeIs (.ref a) "tuple":=⟨o,W,U⟩;unfold hashByValue;refine À (Zn S YI.lookup ?_);dsimp only;refine À (ı W T ?_);refine À ?_;show Ú _ _ (forIn items _ _) _ _ s;rw[<- Zo];refine ψ _ (λrest r Z=>r.1=none/\Z=s/\∃left,cc s.heap left rest) _ ?_ ?_ _ _ ⟨rfl,rfl,X,hi⟩
   ·rintro v rest r Z ⟨Y,rfl,left,V⟩
    cases left with
    |nil=>cases V
    |cons k left =>
     obtain⟨O,N,ex,R,P⟩:=V;cases ex;refine À (ih k R λb=>?_)
     cases b with
     |true=>exact Â ⟨rfl,rfl,left,P⟩
     |false=>exact Â (Â (h _))
   ·rintro ⟨M,L⟩ Z ⟨Y,rfl,_⟩
    simp only at Y;subst Y;exact Â (h _)
  |_=>cases q
def QH (hx:fc s.heap x a) (hy:∀y∈ys,∃ks b,y=.ref b/\fc s.heap ks b) (h:Q false s):Ú (î prog w) A (searchCouldBeSeen (.ref a) ys) Q E s:=by
 unfold searchCouldBeSeen;refine À ?_;refine ψ _ (λrest r Z=>r.1=none/\Z=s/\∀y∈rest,∃ks b,y=.ref b/\fc s.heap ks b) _ ?_ ?_ _ _ ⟨rfl,rfl,hy⟩
 ·rintro v rest r Z ⟨Y,rfl,W⟩
  obtain⟨ks,b,rfl,X⟩:=W v Î;have V:=λy hy=>W y (Ð _ hy);have U:dep (.tup x)<=8:=by simp only[dep];have:=hx.2.1;omega
  have T:dep (.tup ks)<=8:=by simp only[dep];have:=X.2.1;omega
  dsimp only;split
  ·exact Â ⟨rfl,rfl,V⟩
  ·refine À (zt 8 _ U hx.2.2 ?_)
   simp only[ï,Ã,ã];refine À (zt 8 _ T X.2.2 ?_);simp only[ï,Ã,ã];refine À (Gn 8 _ U hx.2.2 ?_);simp only[Ã,ã];refine À (Gn 8 _ T X.2.2 ?_);simp only[Ã,ã];exact Â ⟨rfl,rfl,V⟩
 ·rintro ⟨S,R⟩ Z ⟨Y,rfl,_⟩
  simp only at Y;subst Y;exact Â h
end
def ent (w:Ĉ) (x:List D×à):Int×Ê:=(hs w (.tup x.1),.ref x.2)
structure fq (w:Ĉ) (led:Bool) (t:ł) (es:Array (Int×Ê)) (xs:List (List D×à)):Prop where
 es:es.toList=xs.map (ent w)
 tab:gK led t
 tp:Tp t (xs.map λx=>hs w (.tup x.1))
 vf:t.mask=7\/t.mask=31\/t.mask=127
 full:xs.length*5<t.mask*3
 nd:(xs.map (·.1)).Nodup
section
variable {prog:ô} {w:Ĉ} {led:Bool} {t:ł} {es:Array (Int×Ê)} {xs:List (List D×à)}
theorem fq.size (T:fq w led t es xs):es.size=xs.length:=by rw[<- ä,T.es,Ä]
theorem fq.place (T:fq w led t es xs):t.place.size=xs.length:=by rw[<- ä,T.tp.size,Ä]
theorem fq.fits (T:fq w led t es xs):t.fits es.size=true:=by
 unfold SetTable.fits SetTable.fill;rw[T.tp.dm,T.place,T.size];have:=T.tp.room;rw[Ä] at this;simpa using this
def fq.Vr (T:fq w led t es xs):t.gaveWay=false:=by
 unfold SetTable.gaveWay
 rcases T.vf with h|h|h<;>rw[h]<;>rfl
def fq.at {e:Nat} (T:fq w led t es xs) (h:xs[e]?=some x):es[e]?=some (ent w x):=by
 rw[<- ú,T.es,Ü,h];rfl
theorem fq.live (T:fq w led t es xs) (h:t.slot j=.live e):∃x,xs[e]?=some x/\t.place[e]?=some j:=by
 have X:j∈t.place.toList:=ĳ λz=>by rw[yR T.tp.rise T.tp.dm z] at h;cases h
 obtain⟨W,Z,Y⟩:=(za T.tp.rise T.tp.dm j).mpr X;rw[h] at Z;cases Z;have:=(Š.mp Y).1;rw[T.place] at this;exact⟨_,É this,Y⟩
def NJ {E:Ê->Æ->Prop} {ep:Nat} {Q:SetFound->Æ->Prop} (hu:A.units+10<Zh) (ho:s.heap.get? a=some o) (hd:o.data=.set es ep t) (T:fq w led t es xs) (hk:∀x∈xs,fc s.heap x.1 x.2) (hx:fc s.heap ks b) {N:Nat} (F:i8 t (hs w (.tup ks)) N) (hN:N<10*Ē t.mask)
 (h1:ks∈xs.map (·.1)->Q (.there none) s) (h2:ks∉xs.map (·.1)->Q (.free (aB t.mask (hs w (.tup ks)) N).j false) s) :
  ∀(fuel n:Nat) (xm:Option SetTable.Probe),xm.getD (t.probeStart (hs w (.tup ks)))=aB t.mask (hs w (.tup ks)) n->n<=N->N<n+fuel->(∀k,k<n->∀e x,t.slot (aB t.mask (hs w (.tup ks)) k).j=.live e->xs[e]?=some x->x.1≠ks) ->
   Ú (î prog w) A (setSearchFrom a (.ref b) (hs w (.tup ks)) true fuel xm) Q E s:=by
 have O:∀(e:Nat) (x:List D×à),xs[e]?=some x->(es[e]?.map (·.1)).getD 0=hs w (.tup x.1):=λe x hx=>by rw[T.at hx];rfl
 intro fuel
 induction fuel with
 |zero=>intro n xm M L C;omega
 |succ fuel ih =>
  intro n xm M L C K;unfold setSearchFrom;refine À (Ĳ ho hd T.fits ?_);dsimp only;rw[ð (by rw[T.Vr];decide),M];have pr:t.probe (λi=>(es[i]?.map (·.1)).getD 0) (hs w (.tup ks)) (aB t.mask (hs w (.tup ks)) n)=SetTable.probe.go t (λi=>(es[i]?.map (·.1)).getD 0) (hs w (.tup ks)) (10*Ē t.mask) (aB t.mask (hs w (.tup ks)) n):=rfl
  rcases Gk (ha:=λi=>(es[i]?.map (·.1)).getD 0) F (10*Ē t.mask) n L (by omega) with ⟨i,e,a1,a2,S,a4,B,v⟩ | ⟨a1,a2⟩
  ·obtain⟨x,W,bO⟩:=T.live S
   have V:=Ę W
   erw [pr.trans v]
   dsimp only;have eqs:∀k,k<i->∀e x,t.slot (aB t.mask (hs w (.tup ks)) k).j=.live e->xs[e]?=some x->x.1≠ks:=λk J e x Y X=>by
    by_cases u:k<n
    ·exact K k u e x Y X
    ·intro z
     refine B k (by omega) J e Y ?_;rw[O e x X,z]
   have bar:∀{I H:Sem SetFound},Ú (î prog w) A H Q E s->(t.led=false->Ú (î prog w) A I Q E s)->Ú (î prog w) A (if (!t.led)=true then I else H) Q E s:=λh2 h1=>by
    cases r:t.led with
    |true=>exact h2
    |false=>exact h1 r
   have q:∀y∈(es.filter (λp=>p.1==hs w (.tup ks))).toList.map (λp=>p.2),∃ls c,y=ħ c/\fc s.heap ls c:=λy m=>by
    obtain⟨z,U,rfl⟩:=å.mp m;have U:z∈es.toList:=Array.mem_toList_iff.mpr (Array.mem_filter.mp (Array.mem_toList_iff.mp U)).1;rw[T.es] at U;obtain⟨R,l,rfl⟩:=å.mp U;exact⟨_,_,rfl,hk R l⟩
   refine bar ?_ λ_=>À (QH hx q ?_)
   rotate_left
   all_goals (
    first|rw[ð (by decide:¬ (false=true))]|skip
    rw[T.at W];refine À (ĝ (Ii hu (hk x V) hx ?_));refine À (Ĳ ho hd T.fits ?_);dsimp only;by_cases Z:x.1=ks
    ·rw[ß Z,é (by decide)]
     exact Â (h1 (å.mpr ⟨x,V,Z⟩))
    ·rw[ñ Z,ð (by decide)]
     have h:t.sameMemory t.moves t.mask=some true:=by unfold SetTable.sameMemory;rw[é (by simp)]
     rw[h];dsimp only;rw[é rfl,S];dsimp only;rw[T.at W];dsimp only;refine À (wpAny_isSame_ref_self ?_);refine À (Â ?_);rw[é rfl];dsimp only;rw[ð (by decide)];refine ih (i+1) (some _) rfl (by omega) (by omega) λk J g R Y X=>?_;by_cases f:k=i
     ·subst f
      rw[S] at Y;cases Y;rw[W] at X;cases X;exact Z
     ·exact eqs k (by omega) g R Y X)
  ·erw [pr.trans a2]
   dsimp only;refine Â (h2 λd=>?_);obtain⟨x,V,P⟩:=å.mp d;obtain⟨e,Z⟩:=List.getElem?_of_mem V;obtain⟨i,hi,G⟩:=T.tp.met F (e:=e) (by rw[Ü,Z];exact ļ (λz=>some (hs w (.tup z))) P);by_cases i3:i<n
   ·exact K i i3 e x G Z P
   ·exact a1 i (by omega) hi e G (by rw[O e x Z,P])
end
def lT (w:Ĉ) (led:Bool) (h0 h:ō) (a:à) (xs:List (List D×à)):Prop:=∃o Z Y t,h.get? a=some o/\o.ExactSet/\o.data=.set Z Y t/\fq w led t Z xs/\∀x∈xs,fc h0 x.1 x.2
section
variable {prog:ô} {w:Ĉ} {led:Bool} {t:ł} {es:Array (Int×Ê)} {xs:List (List D×à)}
def B9 {α:Type} {A:Ă} {E:Ê->Æ->Prop} {s:Æ} {Q:α->Æ->Prop} {c:Prop} [Decidable c] {m1 m2:Sem α} (hc:¬ c) (h:Ú (î prog w) A m2 Q E s):Ú (î prog w) A (if c then m1 else m2) Q E s:=by rw[ð hc];exact h
theorem fc.keep (x:fc h0 ks a) (old:∀c o,h0.get? c=some o->h.get? c=some o):fc h ks a:=⟨x.1,x.2.1,KA.keep (λb o Z _ _=>old b o Z) _ _ x.2.2⟩
def Hf {a:à} {u:Obj} {es es':Array (Int×Ê)} {ep:Nat} {t t':ł} {h:ō} (hu:h.get? a=some u) (hd:u.data=.set es ep t):(h.update a (Za es' t')).get? a=some { u with data:=.set es' (ep+1) t' }:=by
 have:=Ě (Za es' t') hu (by rw[putSet_of es' t' hd];rfl);rw[putSet_of es' t' hd] at this;exact this
def OY {hs:List Int} (T:Tp t hs) (b:Bool):Tp { t with plain:=b } hs:=⟨T.size,T.rise,T.le,T.dm,T.room,T.round,T.way⟩
def fq.more (T:fq w led t es xs) (hn:ks∉xs.map (·.1)) (hN:N<10*Ē t.mask) (F:i8 t (hs w (.tup ks)) N) (pl:Bool) :
  ∃p,(t.put (aB t.mask (hs w (.tup ks)) N).j).2=p/\(Ź es p (hs w (.tup ks),ħ b)).toList=(xs.take p++(ks,b)::xs.drop p).map (ent w)/\Tp { (t.put (aB t.mask (hs w (.tup ks)) N).j).1 with plain:=pl } ((xs.take p++(ks,b)::xs.drop p).map λx=>hs w (.tup x.1))/\(xs.take p++(ks,b)::xs.drop p).Perm (xs++[(ks,b)]):=by
 have Z:(xs.map λx=>hs w (.tup x.1)).length+1<=t.mask:=by
  rw[Ä];have:=T.full
  rcases T.vf with h|h|h<;>rw[h] at this |-<;>omega
 have P:=T.tp.put hN F Z (by have:=AH t.mask (hs w (.tup ks)) N;omega);refine⟨_,rfl,?_,?_,?_⟩
 ·rw[Gm,T.es,<- List.map_take,<- List.map_drop,ü,Þ]
  rfl
 ·rw[ü,Þ,List.map_take,List.map_drop]
  exact OY P pl
 ·refine(List.perm_middle).trans ?_
  rw[List.take_append_drop];exact(List.perm_append_singleton _ _).symm
end
section
variable {prog:ô} {w:Ĉ} {led:Bool} {t:ł} {es:Array (Int×Ê)} {xs:List (List D×à)}
def OZ (ho:s.heap.get? a=some o) (hd:o.data=.set es ep t) (nB:es.toList=xs.map (ent w)) (hf:t.fits es.size=true) (Vt:t.led=led)
 (hn:SetTable.sizeAbove n=m+1) (hl:m+1<=Û) (R:Round m) (hm:m=31\/m=127) (hx:xs.length*5<m*3) (nd:(xs.map (·.1)).Nodup) (hz:es.size<=Û)
 (h:∀es' t' (cm:List (List D×à)),cm.Perm xs->fq w led t' es' cm->Q () { s with heap:=s.heap.update a (Za es' t') }):Ú (î prog w) A (setRelay a n) Q E s:=by
 unfold setRelay;refine À (Ĳ ho hd hf ?_);dsimp only;refine B9 (by rw[hn];omega) ?_;have V:es.map (·.1)=(xs.map λx=>hs w (.tup x.1)).toArray:=by
  apply Array.toList_inj.mp;rw[Array.toList_map,nB,ĉ];rfl
 obtain⟨t',order,e,pm,Y,U,O,_,T⟩:=QG (m:=m) (finger:=t.finger) (moves:=t.movedTo m) (led:=t.led) (plain:=t.plain) R (hs:=xs.map λx=>hs w (.tup x.1)) (by rw[Ä];omega);have S:t.relaid (es.map (·.1)) n=some (t',order.toArray):=by
  unfold SetTable.relaid;rw[hn,V];exact e
 rw[S];rw[Ä] at pm;have P:xs.length=es.size:=by rw[<- ä,nB,Ä]
 have X:(order.toArray.filterMap (es[·]?)).toList=(order.filterMap (xs[·]?)).map (ent w):=by
  rw[Array.toList_filterMap,Zj];congr 1;funext i;rw[<- ú,nB,Ü]
 have Z:(order.filterMap (xs[·]?)).Perm xs:=by
  refine(pm.filterMap _).trans ?_;rw[show (Ó xs.length).filterMap (xs[·]?)=xs by
   apply Ÿ;intro i;have hz:∀(l:List (List D×à)),(Ó l.length).filterMap (l[·]?)=l:=λl=>by
    have:∀k,k<=l.length->(Ó k).filterMap (l[·]?)=l.take k:=by
     intro k
     induction k with
     |zero=>intro _;simp
     |succ k ih =>
      intro N;rw[YA,List.filterMap_append,ih (by omega),List.take_succ];simp[É (show k<l.length by omega)]
    rw[this _ (aal _),List.take_length]
   rw[hz]]
 have W:(order.toArray.filterMap (es[·]?)).size=es.size:=by
  rw[<- ä,X,Ä,Z.length_eq,P]
 refine À ?_;refine B9 (by rw[W];simp) ?_;refine Â ?_;dsimp only;refine ź ho hd (h _ _ (order.filterMap (xs[·]?)) Z ⟨X,⟨U.trans Vt,λ_=>T.rise⟩,?_,?_,?_,?_⟩) (by rw[W];exact hz)
 ·rw[Zj]
  have:(λi:Nat=>(xs.map λx=>hs w (.tup x.1))[i]?)=λi=>(xs[i]?).map λx=>hs w (.tup x.1):=by funext i;rw[Ü]
  rw[this] at T;exact T
 ·rw[Y];exact .inr hm
 ·rw[Y,Z.length_eq];exact hx
 ·exact((Z.map _).nodup_iff).mpr nd
def Su (hu:A.units+10<Zh) (S:lT w led h0 s.heap a xs) (old:∀c o,h0.get? c=some o->s.heap.get? c=some o) (hx:fc h0 ks b) (hn:xs.length<70)
 (h:∀r h' cm,Ĵ a s.heap h'->lT w led h0 h' a cm->(cm.Perm (if ks∈xs.map (·.1) then xs else xs++[(ks,b)]))->Q r { s with heap:=h' }):Ú (î prog w) A (setAddHashed a (.ref b) (hs w (.tup ks))) Q E s:=by
 obtain⟨o,es,i,t,R,hex,P,T,K⟩:=S;unfold setAddHashed setAddHashedIn;refine ĝ ?_;refine À (Ĳ R P T.fits ?_);dsimp only;refine B9 (by unfold byScan;simp[Value.scannable]) ?_;obtain⟨N,J,F⟩:=T.tp.free (hs w (.tup ks));unfold setSearch
 refine À (NJ hu R P T (λx hx=>(K x hx).keep old) (hx.keep old) F J (λM=>?_) (λM=>?_) 100000 0 none rfl (ď _) (by unfold Ē at J;rcases T.vf with z|z|z<;>rw[z] at J<;>omega) λk K=>by omega)
 ·dsimp only
  refine Â (h _ s.heap xs (Heap.SameBut.refl a s.heap) ⟨o,es,i,t,R,hex,P,T,K⟩ ?_);rw[é M]
 ·dsimp only
  rw[ð M] at h;refine À (Ĳ R P T.fits ?_);dsimp only;have sx:=T.size
  have fin:∀W:Bool,(W=true->t.plain=true)->Ú (î prog w) A (do
    storeSet a (Ź es (t.put (aB t.mask (hs w (.tup ks)) N).j).2 (hs w (.tup ks),ħ b)) { (t.put (aB t.mask (hs w (.tup ks)) N).j).1 with plain:=W }
    if (!false&&SetTable.tooFull { (t.put (aB t.mask (hs w (.tup ks)) N).j).1 with plain:=W })=true then do
     setRelay a (Ű (es.size+1))
     pure true
    else pure true) Q E s:=λW bO=>by
   obtain⟨p,Y,L,V,O⟩:=T.more (b:=b) M J F W;rw[Y];generalize Yf:xs.take p++(ks,b)::xs.drop p=X at L V O;generalize Ź es p (hs w (.tup ks),ħ b)=U at L |-
   have I:({ (t.put (aB t.mask (hs w (.tup ks)) N).j).1 with plain:=W }:ł).mask=t.mask:=rfl
   have H:({ (t.put (aB t.mask (hs w (.tup ks)) N).j).1 with plain:=W }:ł).led=led:=T.tab.led
   generalize ({ (t.put (aB t.mask (hs w (.tup ks)) N).j).1 with plain:=W }:ł)=t1 at V I H |-
   have g:X.length=xs.length+1:=by rw[O.length_eq,í];rfl
   have e:U.size=X.length:=by rw[<- ä,L,Ä]
   have C:U.size<=Û:=by rw[ŏ];omega
   have B:(X.map (·.1)).Nodup:=by
    refine((O.map _).nodup_iff).mpr ?_;rw[ü,Ż];refine⟨T.nd,by simp,λx d y hy=>?_⟩;have:y=ks:=by simpa using hy
    subst this;intro z;subst z;exact M d
   have v:∀x∈X,fc h0 x.1 x.2:=λx hx=>by
    rcases â.mp (O.mem_iff.mp hx) with q|q
    ·exact K x q
    ·rw[Ø.mp q];exact ‹fc h0 ks b›
   have G:t1.fill=X.length:=by
    unfold SetTable.fill;have:=V.size;rw[Ä,ä] at this;rw[V.dm,this];rfl
   have Vu:t1.fits U.size=true:=by
    have:=V.size;rw[Ä,ä] at this;have r:=V.room;rw[Ä] at r;unfold SetTable.fits;rw[G,this,e];simpa using r
   refine À (ź R P ?_ C);have g1:=Hf (es':=U) (t':=t1) R P;have u:=Ď s.heap a (Za U t1);by_cases Z:t1.tooFull=true
   ·rw[é (by simpa using Z)]
    unfold SetTable.tooFull at Z;rw[G,g,I] at Z;have Z:=Ė Z;have full:=T.full
    have go:∀m,SetTable.sizeAbove (Ű (es.size+1))=m+1->m+1<=Û->Round m->m=31\/m=127->X.length*5<m*3->Ú (î prog w) A (setRelay a (Ű (es.size+1)) >>= λ_=>pure true) Q E { s with heap:=s.heap.update a (Za U t1) }:=λm c1 c2 c3 c4 c5=>by
     refine À (OZ (s:={ s with heap:=s.heap.update a (Za U t1) }) (xs:=X) g1 rfl L Vu H c1 c2 c3 c4 c5 B C λes' t' cm n T'=>?_)
     exact Â (h _ _ cm (u.trans (Ď _ a _)) ⟨_,es',_,t',Hf g1 rfl,hex,rfl,T',λx hx=>v x (n.mem_iff.mp hx)⟩ (n.trans O))
    rcases T.vf with z|z|z
    ·have D:es.size+1=5:=by rw[z] at Z full;omega
     rw[D] at go |-;exact go 31 (by decide +kernel) (by rw[ŏ];omega) QC (.inl rfl) (by omega)
    ·have D:es.size+1=19:=by rw[z] at Z full;omega
     rw[D] at go |-;exact go 127 (by decide +kernel) (by rw[ŏ];omega) OV (.inr rfl) (by omega)
    ·rw[z] at Z;omega
   ·rw[ð (by simpa using Z)]
    have u9:X.length*5<t1.mask*3:=by
     unfold SetTable.tooFull at Z;rw[G] at Z;have:=of_decide_eq_false (υ _ ▸ Z);omega
    refine Â (h _ _ X u ⟨_,U,_,t1,g1,hex,rfl,⟨L,⟨H,λ_=>V.rise⟩,V,by rw[I];exact T.vf,u9,B⟩,v⟩ O)
  have l:(t.put (aB t.mask (hs w (.tup ks)) N).j).1.plain=t.plain:=rfl;by_cases Y:t.plain=true
  ·rw[é (by rw[l];exact Y)]
   refine À (OX 8 _ (hx.keep old).2.2 λbv=>?_)
   cases bv with
   |true =>
    rw[é rfl]
    have:({ (t.put (aB t.mask (hs w (.tup ks)) N).j).1 with plain:=true }:ł)=(t.put (aB t.mask (hs w (.tup ks)) N).j).1:=by
     cases t;simp only at Y;subst Y;rfl
    have f:=fin true λ_=>Y;rw[this] at f;exact f
   |false=>rw[ð (by decide)];exact fin false λz=>by cases z
  ·rw[ð (by rw[l];exact Y)]
   refine À (Â ?_);rw[é rfl]
   have:({ (t.put (aB t.mask (hs w (.tup ks)) N).j).1 with plain:=false }:ł)=(t.put (aB t.mask (hs w (.tup ks)) N).j).1:=by
    have Y:t.plain=false:=by simpa using Y
    cases t;simp only at Y;subst Y;rfl
   have f:=fin false λz=>by cases z
   rw[this] at f;exact f
end
open PySem.Spec
section
variable {P:ô} {w:Ĉ} {A:Ă} {R:Result->Æ->Prop} {I:à} {fp wr:List à} {G:Array GenState->Array GenState->Prop} {n:Nat} {Pv:Nat->Ê->Prop} {St:Nat->Æ->Prop} {led:Bool} {h0:ō}
def Vv (w:Ĉ) (led:Bool):fq w led (.fresh 0 0 led) #[] []:=⟨rfl,Fi led,⟨rfl,List.Pairwise.nil,λj Z=>by simp[SetTable.fresh] at Z,rfl,ď _,Ss,λe h Y=>by simp at Y⟩,.inl rfl,by show 0*5<7*3;omega,ω⟩
def lT.at {h h':ō} {a:à} {xs:List (List D×à)} (x:lT w led h0 h a xs) (k:∀o,h.get? a=some o->h'.get? a=some o):lT w led h0 h' a xs:=by
 obtain⟨o,Z,Y,t,X,r⟩:=x;exact⟨o,Z,Y,t,k o X,r⟩
def Met (val:Nat->List D×à) (i:Nat) (xs:List (List D×à)):Prop:=(∀x∈xs,∃j,j<i/\val j=x)/\∀j,j<i->(val j).1∈xs.map (·.1)
def Ue (W:WalksS P w A.in1 I fp wr G n Pv St) (S:à) (nr:S∉fp)
  (val:Nat->List D×à) (BK:∀i v,Pv i v->v=.ref (val i).2/\fc h0 (val i).1 (val i).2) (xA:∀b∈S::wr,h0.get? b=none) (hb:n<=70) (hu:A.in1.units+20<Zh) :
  ∀(k i:Nat) (s:Æ) (xs:List (List D×à)),n-i=k->i<=n->St i s->lT w led h0 s.heap S xs->xs.length<=i->(∀c o,h0.get? c=some o->s.heap.get? c=some o)->Met val i xs ->
   (∀s' cm,Moved (S::wr) G s s'->lT w led h0 s'.heap S cm->Met val n cm->cm.length<=n->(∀c o,h0.get? c=some o->s'.heap.get? c=some o)->R (.ok (.ret .none)) s') ->
   YM (î P w) A (.builtin "set.update.loop" ⟨[.ref S,.ref I],[]⟩) R s:=by
 have nw:S∉wr:=λz=>nr (W.sub _ z);have sw:∀b∈wr,b∈S::wr:=λb z=>Ð _ z;have dB:∀{s s':Æ},Moved (S::wr) G s s'->(∀c o,h0.get? c=some o->s.heap.get? c=some o)->∀c o,h0.get? c=some o->s'.heap.get? c=some o:=λm old c o e=>m.heap c o (λz=>by rw[xA c z] at e;cases e) (old c o e);intro k
 induction k with
 |zero =>
  intro i s xs L hi Y T M old Z X;obtain rfl:i=n:=by omega
  refine Ń ξ ?_;rw[Ņ ń _];show Ú _ A.in1 (ž (.ref I) >>= _) _ _ s;refine À (W.done s _ _ Y λs' m=>?_);show Ú _ A.in1 (ret Value.none) _ _ s';exact Â (X s' xs (m.mono sw) (T.at λo e=>m.heap S o nw e) Z M (dB (m.mono sw) old))
 |succ k ih =>
  intro i s xs L hi Y T M old Z X;have lt:i<n:=by omega
  refine Ń ξ ?_;rw[Ņ ń _];show Ú _ A.in1 (ž (.ref I) >>= _) _ _ s;refine À (W.item i s _ _ lt Y λv s' pv K m=>?_);obtain⟨rfl,V⟩:=BK i v pv;have J:=T.at (h':=s'.heap) λo e=>m.heap S o nw e;have U:=dB (m.mono sw) old;show Ú _ A.in1 (Zc [ħ (val i).2] (setAdd S (.ref (val i).2)) >>= _) _ _ s';refine À (ĝ ?_);unfold setAdd;refine ĝ ?_;refine À (G7 7 (.tup (val i).1) (by simp only[dep];have:=V.2.1;omega) _ _ _ _ _ (V.keep U).2.2 (by omega) ?_)
  refine Su (s:={ s' with toks:=s'.toks+dr (.tup (val i).1) }) (by omega) J U V (by omega) λr h' cm Q H pm=>?_
  have F:∀c o,h0.get? c=some o->h'.get? c=some o:=λc o e=>by
   rw[Q.2 c λz=>by rw[z,xA S Î] at e;cases e];exact U c o e
  refine Â ⟨ZT ń _,ih (i+1) _ cm (by omega) lt (W.frame _ s' _ _ K (Nat.le_add_right _ _) λb O o e=>?_) H ?_ F ?_ λE C B y u t q=>?_⟩
  ·rw[Q.2 b λz:b=S=>nr (z ▸ O)];exact e
  ·rw[pm.length_eq]
   split
   ·omega
   ·rw[í];show _ + 1<=_;omega
  ·refine⟨λx hx=>?_,λj l=>?_⟩
   ·have hx:=pm.mem_iff.mp hx
    split at hx
    ·obtain⟨j,p,N⟩:=Z.1 x hx;exact⟨j,by omega,N⟩
    ·rcases â.mp hx with hx|hx
     ·obtain⟨j,p,N⟩:=Z.1 x hx;exact⟨j,by omega,N⟩
     ·exact⟨i,by omega,(Ø.mp hx).symm⟩
   ·rw[(pm.map _).mem_iff]
    by_cases e:j=i
    ·subst e
     split
     ·assumption
     ·rw[ü];exact Í _ (by simp)
    ·have:=Z.2 j (by omega)
     split
     ·exact this
     ·rw[ü];exact Ć _ this
  ·refine X E C (Moved.trans W.gtrans ((m.mono sw).then_heap (Nat.le_add_right _ _) λb o O e=>?_) B) y u t q
   rw[Q.2 b λz:b=S=>O (by rw[z];exact Î)];exact e
end
section
variable {P:ô} {w:Ĉ} {A:Ă} {E:Ê->Æ->Prop} {s:Æ}
def O0 {l:à} {its:Array Ê} {val:Nat->List D×à} {Q:Ê->Æ->Prop}
  (hh:A.handled=none) (Yg:A.units+50<Zh) (hl:s.heap.IsList l its) (hv:∀i v,its[i]?=some v->v=.ref (val i).2/\fc s.heap (val i).1 (val i).2) (hb:its.size<=70)
  (h:∀(h':ō) (tk:Nat) (cm:List (List D×à)),(lT w (bH w) s.heap h' s.heap.objs.size cm/\Met val its.size cm/\cm.length<=its.size) ->
   (∀b o,b<s.heap.objs.size->s.heap.get? b=some o->h'.get? b=some o)->Q (.ref s.heap.objs.size) { s with heap:=h',toks:=tk }) :
  Ú (î P w) A (call (.type "set") [.ref l]) Q E s:=by
 obtain⟨c,tl,ur⟩:=ĺ.mro;have um:=ĺ.made;have ub:=ĺ.sub;refine wpAny_call (Zk ?_);show Ú _ _ (callAny (.type "set") _) _ _ _;refine Â ⟨Code.quiet_builtin _ (by decide +kernel),Ń F.entry_type_call ?_⟩;rw[Z7 (ZJ "set" [.ref l] []) rfl];have h1:=ĺ.notType;have h2:=ĺ.canCreate;have V1:=F.typeCall_set_1 (.ref l)
 repeat (any_goals (first|assumption|wp_step))
 refine Ŕ (F0 (.ref l) (E:=E) (Q₁:=λobj V=>obj=.ref s.heap.objs.size/\V={ s with heap:=s.heap.push { cls:=.type "set",dict:=none,data:=.set #[] 0 (.fresh 0 0 (bH w)) } }) ⟨rfl,rfl⟩) λr V Y=>?_
 cases r with
 |error e=>exact Y
 |ok M =>
  cases M with
  |ret obj =>
   obtain⟨rfl,rfl⟩:=Y;have v:(s.heap.push { cls:=.type "set",dict:=none,data:=.set #[] 0 (.fresh 0 0 (bH w)) }).get? s.heap.objs.size=some { cls:=.type "set",dict:=none,data:=.set #[] 0 (.fresh 0 0 (bH w)) }:=Ì _ rfl
   have L:aaf { s with heap:=s.heap.push { cls:=.type "set",dict:=none,data:=.set #[] 0 (.fresh 0 0 (bH w)) } } (.ref s.heap.objs.size) "set":=⟨_,v,rfl⟩
   have vl:=ĺ.init.lookup;have vb:=ĺ.init.bind (.ref s.heap.objs.size)
   repeat (any_goals (first|assumption|wp_step))
   refine Ŕ (YN (R:=wants (λr U=>r=.none/\∃h' tk cm,U={ s with heap:=h',toks:=tk } /\
     (lT w (bH w) s.heap h' s.heap.objs.size cm/\Met val its.size cm/\cm.length<=its.size) /\
     (∀b o,b<s.heap.objs.size->s.heap.get? b=some o->h'.get? b=some o)) E) ĺ.init.plain F.entry_set_init (check_set_init_1 L ?_)) λK U X=>?_
   ·obtain⟨ol,T,S,nn,O⟩:=hl
    obtain⟨oc,J,oa,I⟩:=ol;simp only at S O;subst S;subst O;have H:(s.heap.push { cls:=.type "set",dict:=none,data:=.set #[] 0 (.fresh 0 0 (bH w)) }).get? l=some { cls:=.type "list",dict:=J,data:=.seq its nn,slots:=I }:=Á _ T;have u1:=F.sub_list_set;have u2:=F.sub_list_frozenset;have gE:(Ų "list"==Ų "dict")=false:=by decide
    have ul:(s.heap.push { cls:=.type "set",dict:=none,data:=.set #[] 0 (.fresh 0 0 (bH w)) }).IsList l its:=⟨_,H,rfl,nn,rfl⟩;unfold Œ.«set.__init__» noKeywords ZU;generalize G:aag=PI
    wp_walk
    subst G;refine Ŵ ul ?_;refine À (wpAny_runValue ?_);have N:l<s.heap.objs.size:=Ñ T;have C:A.in1.in1.in1.handled=none:=by simp[hh]
    have B:l≠(s.heap.push { cls:=.type "set",dict:=none,data:=.set #[] 0 (.fresh 0 0 (bH w)) }).objs.size:=by
     rw[Ą];exact ç (Ġ N)
    have y:s.heap.objs.size∉[(s.heap.push { cls:=.type "set",dict:=none,data:=.set #[] 0 (.fresh 0 0 (bH w)) }).objs.size,l]:=by
     rw[Ą];simp only[Ò,Ø,þ,or_false,not_or];exact⟨ç (Ť _),ŧ N⟩
    refine Ue (led:=bH w) ((Walks.list C _ l B its).toS) s.heap.objs.size y (h0:=s.heap) val hv (λb hb=>?_) hb ?_ (its.size-0) 0 _ [] (by omega) (ď _) ⟨⟨_,Ì _ rfl,rfl,rfl⟩,(ul.push _)⟩ ?v0 (ď _) (λb o e=>Á _ (Á _ e)) ⟨λx z=>by simp at z,λj z=>by omega⟩ ?vR
    ·have le:s.heap.objs.size<=b:=by
      simp only[Ò,Ø,þ,or_false] at hb
      rcases hb with z|z
      ·rw[z];exact aal _
      ·rw[z,Ą];exact Y4 _
     cases q:s.heap.get? b with
     |none=>rfl
     |some o=>exact absurd (Ñ q) (Nat.not_lt.mpr le)
    ·show A.units+3+20<Zh
     omega
    case v0 =>
     have u:((s.heap.push { cls:=.type "set",dict:=none,data:=.set #[] 0 (.fresh 0 0 (bH w)) }).push { cls:=.type "list_iterator",data:=.fields #[.ref l,.int 0 0] }).get? s.heap.objs.size
       = some { cls:=.type "set",dict:=none,data:=.set #[] 0 (.fresh 0 0 (bH w)) }:=Á _ v
     exact⟨_,#[],0,_,u,⟨rfl,rfl,rfl⟩,rfl,Vv w (bH w),λx t=>by simp at t⟩
    case vR =>
     intro p cm Z W n m vo;obtain⟨h',k,g,f,d⟩:=p;have a:k=s.gens:=Z.gens;have ed:g=s.drawn:=Z.drawn;have eo:d=s.os:=Z.os;subst a;subst ed;subst eo;show Ú _ _ _ _ _ _;refine Â ?_;show Ú _ _ (ret Value.none) _ _ _;refine Â ⟨rfl,h',f,cm,rfl,⟨W,n,m⟩,λb o hb e=>?_⟩;have v1:b≠s.heap.objs.size:=ç hb;have v2:b≠(s.heap.push { cls:=.type "set",dict:=none,data:=.set #[] 0 (.fresh 0 0 (bH w)) }).objs.size:=by
      rw[Ą];exact ç (Ġ hb)
     exact Z.heap b o (by simp only[Ò,Ø,þ,or_false,not_or];exact⟨v1,v2⟩) (Á _ (Á _ e))
   ·cases K with
    |error e=>exact X
    |ok A1 =>
     cases A1 with
     |ret r =>
      obtain⟨rfl,h',tk,cm,rfl,W,vk⟩:=X
      repeat (any_goals (first|assumption|wp_step))
      exact h _ _ _ W vk
     |_=>exact X.elim
  |_=>exact Y.elim
end
def O1 {α β:Type} {f:α->β} {l1 l2:List β} (h:l1.Perm l2):∀m2:List α,l2=m2.map f->∃m1:List α,m1.Perm m2/\l1=m1.map f:=by
 induction h with
 |nil=>intro m e;cases m with
  |nil=>exact⟨[],.nil,rfl⟩
  |cons _ _=>cases e
 |cons x _ ih =>
  intro m e
  cases m with
  |nil=>cases e
  |cons a m =>
   injection e with e1 e2
   obtain⟨m1,p,e⟩:=ih m e2;exact⟨a::m1,.cons a p,by rw[e,e1];rfl⟩
 |swap x y l =>
  intro m e
  rcases m with _ | ⟨a,_ | ⟨b,m⟩⟩
  ·cases e
  ·cases e
  ·simp only[Þ,Yy] at e
   exact⟨b::a::m,.swap a b m,by rw[e.1,e.2.1,e.2.2];rfl⟩
 |trans _ _ Z Y =>
  intro m e;obtain⟨m1,X,e1⟩:=Y m e;obtain⟨m2,W,e2⟩:=Z m1 e1;exact⟨m2,W.trans X,e2⟩
open Classical in
noncomputable def jw:List Pg->List Pg
 | []=>[]
 |p::r=>if p∈r then jw r else p::jw r
theorem r6:∀{l:List Pg},p∈jw l↔p∈l
 | []=>Iff.rfl
 |q::r=>by
  unfold jw;split
  ·rename_i h
   rw[r6,Ò];exact⟨.inr,λz=>z.elim (λe=>e ▸ h) id⟩
  ·rw[Ò,Ò,r6]
theorem vM:∀l:List Pg,(jw l).Nodup
 | []=>ω
 |q::r=>by
  unfold jw;split
  ·exact vM r
  ·rename_i h
   exact ŵ.mpr ⟨λz=>h (r6.mp z),vM r⟩
def lg (w:Ĉ) (p:à) (xs:List (List D×à)):ō->Prop:=λh=>∃o Z Y t,h.get? p=some o/\o.ExactSet/\o.data=.set Z Y t/\fq w (bH w) t Z xs
def Sv (hx:lg w p xs h):cL P w H h p (.ext (lg w p xs)):=by
 refine⟨hx,?_,λW V q k=>?_⟩
 ·obtain⟨o,_,_,_,Z,_⟩:=hx
  exact⟨o,Z⟩
 ·obtain⟨o,Y,X,t,Z,r⟩:=q
  exact⟨o,Y,X,t,k o Z,r⟩
def wI (p:Pg):p.d=.tup (its p.d):=by cases p<;>rfl
section
variable {X:Cx} {Ξ:Wd->bg->Prop}
noncomputable def pz:Pg:=.aO 0 0 0
def NK (hr:bY k X.A) (hc:X.calm=true):bP X (.type "set") (λxs H Q=>∃(w:Wd) (a:à) (ps:List Pg) (as:List à),w.H=H/\xs=[.ref a]/\bo X.K H a (as.map V.ref)/\DI.aj X.K w (ps.map Pg.d) (as.map V.ref)/\ps.length<=60 /\
  ∀p (zs:List (Pg×à)),H p=none->(∀z∈zs,∃j,j<ps.length/\(ps.getD j pz,as.getD j 0)=z)->(∀q∈ps,q∈zs.map (·.1))->(zs.map (·.1)).Nodup->zs.length<=ps.length->Q (.ref p) (upd H p (.ext (lg X.w p (zs.map λz=>(its z.1.d,z.2)))))):=by
 intro π s σ H xs us Q I r h;obtain⟨w,a,ps,as,rfl,rfl,D,G,hl,q⟩:=h;obtain⟨u,rfl,P⟩:=vals1 r;cases P;obtain⟨Z,O,p,_⟩:=I.list D;have len:ps.length=as.length:=by have:=G.length;simpa using this
 have li:Z.length=as.length:=by have:=O.length;simpa using this.symm
 have C:=sM I _ _ _ (zZ ps) G O;have ev:∀i,i<as.length->Z.getD i Value.none=.ref (as.getD i 0):=by
  intro i hi;obtain⟨u,e,P⟩:=O.get (i:=i) (x:=V.ref (as.getD i 0)) (by rw[Ü,É hi];simp[Ś,É hi]);cases P;rw[Ċ,e];rfl
 have Y:∀i v,Z.toArray[i]?=some v->v=.ref ((λi=>(its (ps.getD i pz).d,as.getD i 0)) i).2/\fc s.heap ((λi=>(its (ps.getD i pz).d,as.getD i 0)) i).1 ((λi=>(its (ps.getD i pz).d,as.getD i 0)) i).2:=λi v Y=>by
  have Y:Z[i]?=some v:=by simpa using Y
  have hi:=(Ç.mp Y).1;have e1:Z.getD i Value.none=v:=by rw[Ċ,Y];rfl
  have e2:=ev i (by omega);rw[e1] at e2;have N:=kas_get C i hi;rw[e1,e2,show (ps.map Pg.d).getD i .au=(ps.getD i pz).d by simp[Ś,Ü,É (show i<ps.length by omega)]] at N;have kd:=jh (ps.getD i pz);have F:=wG (ps.getD i pz);rw[wI] at kd F N;simp only[TK.kd] at kd;simp only[dep] at F;exact⟨e2,kd,by show bM (its (ps.getD i pz).d)<=6;omega,N⟩
 refine O0 (its:=Z.toArray) (val:=λi=>(its (ps.getD i pz).d,as.getD i 0)) (I.ok.hd hc) (by have:=hr.un;have:Zh=9900:=rfl;omega) p.isList Y (by rw[Ô];omega) λh' B M n m=>?_;obtain⟨E,U,L⟩:=n;rw[Ô] at U L;have ex:∃zs:List (Pg×à),M=zs.map (λz=>(its z.1.d,z.2))/\∀z∈zs,∃j,j<ps.length/\(ps.getD j pz,as.getD j 0)=z:=by
  have:=U.1;clear U L E
  induction M with
  |nil=>exact⟨[],rfl,λz W=>by cases W⟩
  |cons x M ih =>
   obtain⟨zs,e,W⟩:=ih λy l=>this y (Ð _ l);obtain⟨j,h1,J⟩:=this x Î;refine⟨(ps.getD j pz,as.getD j 0)::zs,by rw[e,<- J];rfl,λz eZ=>?_⟩
   rcases Ò.mp eZ with rfl|eZ
   ·exact⟨j,by omega,rfl⟩
   ·exact W z eZ
 obtain⟨zs,rfl,W⟩:=ex;obtain⟨o,g,f,t,c,hex,hd,T,_⟩:=E;refine⟨.ref _,_,I.laid (t':=B) (λb o e=>m b o (Ñ e) e) (aal _) (Sv ⟨o,g,f,t,c,hex,hd,T⟩),rfl,q _ zs (I.aC.fresh (aal _)) W (λp hp=>?_) ?_ ?_⟩
 ·obtain⟨j,hj,e⟩:=ś hp
  have:=U.2 j (by omega);rw[ĉ,å] at this;obtain⟨z,oS,R⟩:=this;refine å.mpr ⟨z,oS,?_⟩;have e3:(ps.getD j pz)=p:=by rw[Ċ,É hj,e];rfl
  have R:its z.1.d=its (ps.getD j pz).d:=R;rw[e3] at R;exact Pg.A9 (by rw[wI,R,<- wI])
 ·have:=T.nd
  rw[ĉ] at this;have J:((zs.map (·.1)).map λp:Pg=>its p.d).Nodup:=by rw[ĉ];exact this
  exact List.Pairwise.of_map (S:=(·≠·)) (λp:Pg=>its p.d) (λa b h e=>h (by rw[e])) J
 ·rw[Ä] at L;omega
end
section
variable {X:Cx} {Ξ:Wd->bg->Prop}
def O3 {w:Wd} {zs dU:List (Pg×à)} (h:∀z∈zs,DI.DV X.K w z.1.d (V.ref z.2)) (p:dU.Perm zs):DI.aj X.K w ((dU.map (·.1)).map Pg.d) ((dU.map (·.2)).map V.ref):=by
 have Z:∀z∈dU,DI.DV X.K w z.1.d (V.ref z.2):=λz Y=>h z (p.mem_iff.mp Y);clear p h
 induction dU with
 |nil=>rfl
 |cons z zs ih=>exact⟨_,_,rfl,Z z Î,ih λy W=>Z y (Ð _ W)⟩
def LW {k:Nat} (hr:bY k X.A) (hc:X.calm=true):bP X (.builtin "sorted") (λxs H Q=>∃(w:Wd) (p:à) (zs:List (Pg×à)),w.H=H/\xs=[.ref p]/\H p=some (.ext (lg X.w p (zs.map λz=>(its z.1.d,z.2))))/\zs.length<64/\(∀z∈zs,DI.DV X.K w z.1.d (V.ref z.2)) /\
  ∀(l:à) (ms:List V),H l=none->DI.aj X.K w ((ST.eR cu (zs.map (·.1))).map Pg.d) ms->Q (.ref l) (upd H l (.lst ms))):=by
 intro π s σ H xs us Q I r h;obtain⟨w,p,zs,rfl,rfl,W,hz,B,q⟩:=h;obtain⟨v,rfl,y⟩:=vals1 r;cases y;obtain⟨⟨u,es,ep,t,U,n,hd,T⟩,_⟩:=I.aC p _ W;have sz:es.size=zs.length:=by rw[T.size,Ä]
 refine YV kind_sorted plain_sorted entry_sorted (args_sorted1 _) ?_;unfold Œ.«sorted»;refine À (m:=checkCount "sorted" 1 1 _) (Â ?_);refine À (EF (by simp[I.ok.hd hc]) U n hd T.fits T.tab (by unfold Yv;omega) λh' j L g G f F=>?_);have WL:g.Perm (zs.map λz=>ħ z.2):=by
  rw[T.es,ĉ,ĉ] at F;exact F
 obtain⟨Z,S,rfl⟩:=O1 WL zs rfl;have P:(Z.map λz=>ħ z.2).length=zs.length:=by rw[Ä,S.length_eq]
 have E:(Z.map (·.1)).length=zs.length:=by rw[Ä,S.length_eq]
 have D:=O3 B S;have rel:Vals ((Z.map (·.2)).map V.ref) (Z.map λz=>ħ z.2):=by
  have:=zu (Z.map (·.2));rwa [show (Z.map (·.2)).map ħ=Z.map λz=>ħ z.2 by rw[ĉ];rfl] at this
 have Dz:=sM I _ _ _ (zZ (Z.map (·.1))) D rel;have line:(Z.map λz=>ħ z.2).length<=Û:=by rw[ŏ];omega
 refine À (wpAny_newList ?_ line);have C:(h'.push (ZK "list" (Z.map λz=>ħ z.2).toArray 0)).get? h'.objs.size=some (ZK "list" (Z.map λz=>ħ z.2).toArray 0):=Ì _ rfl;have old:∀c o,s.heap.get? c=some o->c≠h'.objs.size/\(h'.push (ZK "list" (Z.map λz=>ħ z.2).toArray 0)).get? c=some o:=λc o e=>by
  have e1:=f c o e;exact⟨ç (Ñ e1),Á _ e1⟩
 refine À (ĝ (ý slot_list_sort ⟨_,C,rfl⟩ entry_list_sort (ST.Ez (O:=cu) (x:=λi=>(Z.map (·.1)).getD i pz) C (by omega) (λR h1 N=>Gi (cc.keep (λb o Y _ _=>N b o (old b o Y).1 (old b o Y).2) _ _ Dz) R (by have:=hr.un;show X.A.units+1+1+100<Zh;have:Zh=9900:=rfl;omega) _) λM R e W U N Y=>⟨_,rfl,?_⟩) (args_list_sort _)));have hm:∀i∈M.toList,i<((Z.map (·.1)).map Pg.d).length:=λi hi=>by rw[Ä,E,<- P];exact ò.mp (W.2.mem_iff.mp hi)
 have lZ:∀i∈M.toList,i<(Z.map λz=>ħ z.2).length:=λi hi=>ò.mp (W.2.mem_iff.mp hi);have J:=I.laid (t':=L) (a:=h'.objs.size) (h':=R) (o:=.lst (M.toList.map λi=>((Z.map (·.2)).map V.ref).getD i .au)) (λb o Y=>N b o (old b o Y).1 (old b o Y).2) G ⟨by
  rw[Ä,ä,W.1,P,ŏ];omega,_,e,Fv rel lZ,Y⟩
 refine Â ⟨_,rfl,.ref h'.objs.size,_,J.w9 (s':={ s with heap:=R,drawn:=j,toks:=L }) (ch:=[]) rfl Un.refl J.aC J.bare (λb Y=>by cases Y),rfl,q h'.objs.size _ (I.aC.fresh G) ?_⟩
 rw[P,<- E] at W U;rw[ST.Ga (S.map (·.1)).symm,<- Ge W U];exact Gb D hm
open Classical in
def xn (xs:List D):Option D:=if h:∃Z:List Pg,xs=Z.map Pg.d then some (.lst ((ST.eR cu (jw (Classical.choose h))).map Pg.d)) else none
def Gp (ps:List Pg):xn (ps.map Pg.d)=some (.lst ((ST.eR cu (jw ps)).map Pg.d)):=by
 unfold xn;have h:∃Z:List Pg,ps.map Pg.d=Z.map Pg.d:=⟨ps,rfl⟩;rw[dif_pos h];have:=EZ (Classical.choose_spec h);rw[<- this]
def rR (d:D) (s:af):Res D:=match d with
 | .lst Z=>if Z.length<=60 then bB (xn Z) s else none
 |_=>none
def QI {w:Wd} {ps:List Pg}:∀{xs:List V},DI.aj X.K w (ps.map Pg.d) xs->∃as:List à,xs=as.map V.ref:=by
 induction ps with
 |nil=>intro xs h;cases h;exact⟨[],rfl⟩
 |cons p ps ih =>
  intro xs h;obtain⟨v,r,rfl,Z,Y⟩:=h;obtain⟨as,rfl⟩:=ih Y;rw[wI] at Z;simp only[DI.DV] at Z;obtain⟨a,_,rfl,_⟩:=Z;exact⟨a::as,rfl⟩
def Sw {w:Wd} {ps:List Pg}:∀{as:List à},DI.aj X.K w (ps.map Pg.d) (as.map V.ref)->∀j,j<ps.length->DI.DV X.K w (ps.getD j pz).d (V.ref (as.getD j 0)):=by
 induction ps with
 |nil=>intro as h j Z;cases Z
 |cons p ps ih =>
  intro as h j Z;obtain⟨v,r,e,Y,W⟩:=h
  cases as with
  |nil=>cases e
  |cons a as =>
   injection e with e1 e2
   subst e1 e2
   cases j with
   |zero=>exact Y
   |succ j=>exact ih W j (by simpa using Z)
def MQ {a:ņ} {f:DI.aah D} {k:Nat} {p p2 pos dZ:Pos} (hr:bY k X.A) (ha:PE X a (tE X.K Ξ f)) (hc:X.calm=true) (hg:Gl X "sorted") (hm:X.mg "sorted"=none) (hv:ā "sorted"=some (.builtin "sorted")) (oZ:Gl X "set") (lZ:X.mg "set"=none) (C2:ā "set"=some (.type "set"))
  (he:Ý [a] X.env=(false,Ž a X.env)::Ý [] X.env:=by rfl) (bO:(Yt dZ (Ý [] X.env)).any (·.1)=false:=by rfl)
  (kY:Ý [.Call (.Name "set" p2) [a] [] dZ] X.env=(false,Ž (.Call (.Name "set" p2) [a] [] dZ) X.env)::Ý [] X.env:=by rfl) (tX:(Yt pos (Ý [] X.env)).any (·.1)=false:=by rfl) :
  PE X (.Call (.Name "sorted" p) [.Call (.Name "set" p2) [a] [] dZ] [] pos) (tE X.K Ξ (e1 rR f)) :=
 cF (zf (LW hr hc) hg hm hv (mx (pQ (NK hr hc) oZ lZ C2 (mx ha mE he) (by decide) (by decide) he bO) mE kY) (by decide) (by decide) kY tX) fun σ H Q C=>by
  obtain⟨w,env,B,S,x,h⟩:=C;subst B;refine⟨w,env,rfl,S,x,(Out.aq h).mono λW d e u Y v M=>?_⟩;unfold rR at Y;split at Y
  ·rename_i c
   split at Y
   ·rename_i L
    obtain⟨b,e2,Y⟩:=eJ Y;simp only[DI.DV] at M;obtain⟨p,ys,rfl,t,P⟩:=M;have T:=e2;unfold xn at T;split at T
    ·rename_i s
     obtain⟨V,r⟩:=s;clear T;subst r;rw[Gp] at e2;cases e2;rw[Ä] at L;obtain⟨as,rfl⟩:=QI P;refine⟨W,p,V,as,rfl,rfl,t.sq,P,L,λq zs J I n m hle=>?_⟩;have G:=u.grow (o:=.ext (lg X.w q (zs.map λz=>(its z.1.d,z.2)))) J;have f2:=(Fw.grow (o:=.ext (lg X.w q (zs.map λz=>(its z.1.d,z.2)))) J).le (K:=X.K);refine⟨W.grow q (.ext (lg X.w q (zs.map λz=>(its z.1.d,z.2)))),q,zs,rfl,rfl,cU,by omega,λz O=>?_,λl N U F=>?_⟩
     ·obtain⟨j,R,rfl⟩:=I z O
      exact f2 _ _ (Sw P j R)
     ·have i:ST.eR cu (zs.map (·.1))=ST.eR cu (jw V):=ST.Ga ((List.perm_ext_iff_of_nodup m (vM V)).mpr λz=>by
       rw[r6];refine⟨λO=>?_,n z⟩;obtain⟨y,g,rfl⟩:=å.mp O;obtain⟨j,R,rfl⟩:=I y g;show V.getD j pz∈V;rw[Ċ,É R];exact YZ R)
      rw[i] at F;have U:(W.grow q (.ext (lg X.w q (zs.map λz=>(its z.1.d,z.2))))).H l=none:=U;have E:=(Fw.grow (o:=.lst N) U).le (K:=X.K);exact Y ((W.grow q (.ext (lg X.w q (zs.map λz=>(its z.1.d,z.2))))).grow l (.lst N)) (f2.trans E) (G.grow U) rfl (.ref l) ⟨l,N,rfl,⟨(show ¬ (W.grow q (.ext (lg X.w q (zs.map λz=>(its z.1.d,z.2))))).Z l from mF G U),cU⟩,E.all F⟩
    ·cases T
   ·exact Y.elim
  ·exact Y.elim
end
end TK
namespace L2
open PySem PySem.Spec PyProof.Rows
section
variable {X:Cx}
def LX:bP X (.type "range") (λxs H Q=>∃i j:Int,xs=[.int i,.int j]/\∀p,H p=none->Q (.ref p) (upd H p (.bc i j))):=by
 intro V s σ H xs U Q I r h;obtain⟨i,j,rfl,q⟩:=h
 cases r with
 |cons Y Z =>
  cases Z with
  |cons Z W =>
   cases W;obtain⟨t1,rfl⟩:=Y;obtain⟨T,rfl⟩:=Z;exact call_range_2 ⟨.ref _,_,I.laid (o:=.bc i j) (t':=s.toks+1) (λb o e=>Á _ e) (aal _) ⟨_,_,_,Ì _ rfl⟩,rfl,q _ (I.aC.fresh (aal _))⟩
theorem FD (i:Int):∀(ys:List Ê) (k:Nat),(∀(m:Nat) (v:Ê),ys[m]?=some v->∃t,v=ZY (i+((k+m:Nat):Int)*1) t)->Vals ((List.range' k ys.length).map λm:Nat=>V.int (i+(m:Int))) ys
 | [],k,_=>.nil
 |y::ys,k,h=>by
  rw[á,List.range'_succ,Þ];refine .cons ?_ (FD i ys (k+1) λm v e=>?_)
  ·obtain⟨t,e⟩:=h 0 y rfl
   rw[e];exact⟨t,by rw[Int.mul_one];rfl⟩
  ·obtain⟨t,e⟩:=h (m+1) v (by simpa using e)
   exact⟨t,by rw[e,show k+(m+1)=k+1+m by omega]⟩
def Mi (hc:X.calm=true):bP X (.type "list") (λxs H Q=>∃(p:à) (i:Int) (n:Nat),xs=[.ref p]/\H p=some (.bc i (i+n))/\0<=i/\i<=1000000/\n<=1000000/\∀q,H q=none->Q (.ref q) (upd H q (.lst ((Ó n).map λm:Nat=>V.int (i+(m:Int)))))):=by
 intro L s σ H xs K Q I r h;obtain⟨p,i,n,rfl,U,hi,J,T,q⟩:=h;obtain⟨u,rfl,S⟩:=vals1 r;cases S;obtain⟨t1,G,t3,R⟩:=I.aC p _ U;refine call_list_range (I.ok.hd hc) R (small_one (by omega) (by omega) (by omega) (by omega)) (n:=n) ?_ (by omega) λF P Y O N M hit=>?_
 ·rw[rangeSize_one]
  split<;>omega
 ·obtain⟨Z,hit⟩:=hit
  have W:=FD i Y.toList 0 λm v e=>by
   obtain⟨t,e⟩:=hit m v (by simpa using e);exact⟨t,by rw[e,Nat.zero_add]⟩
  rw[ä,Z,<- List.range_eq_range'] at W;refine⟨.ref _,_,I.laid (o:=.lst ((Ó n).map λm:Nat=>V.int (i+(m:Int)))) (t':=P) N (aal _) ⟨?_,Y.toList,O,W,by simpa using M⟩,rfl,q _ (I.aC.fresh (aal _))⟩;rw[Ä,Ŀ];exact è T (by decide)
end
end L2
namespace DI
open PySem L2
section
variable {X:Cx} {Ξ:Wd->bg->Prop} {a b:ņ} {p pos:Pos} {fa:aah (List D)}
def sd (ds:List D) (s:af):Res D:=match ds with
 | [.int i,.int j]=>if (decide (0<=i)&&(decide (i<=j)&&decide (j<=1000000)))=true then ok (.lst (bc i (j-i).toNat)) s else none
 |_=>none
def O4 (i:Int) (n:Nat):aj K w (bc i n) ((Ó n).map λm:Nat=>V.int (i+(m:Int))):=by
 have:bc i n=((Ó n).map λm:Nat=>i+(m:Int)).map D.int:=by
  unfold bc;rw[ĉ];rfl
 rw[this,show ((Ó n).map λm:Nat=>V.int (i+(m:Int)))=((Ó n).map λm:Nat=>i+(m:Int)).map V.int by rw[ĉ];rfl];exact aj.ints _
def O5 {p2 dZ:Pos} (ha:PA X [a,b] (tA X.K Ξ fa)) (hc:X.calm=true) (hg:Gl X "list") (hm:X.mg "list"=none) (oZ:Gl X "range") (lZ:X.mg "range"=none)
  (he:Ý [a,b] X.env=(false,Ž a X.env)::Ý [b] X.env:=by rfl) (bO:(Yt dZ (Ý [b] X.env)).any (·.1)=false:=by rfl)
  (kY:Ý [.Call (.Name "range" p2) [a,b] [] dZ] X.env=(false,Ž (.Call (.Name "range" p2) [a,b] [] dZ) X.env)::Ý [] X.env:=by rfl) (tX:(Yt pos (Ý [] X.env)).any (·.1)=false:=by rfl) :
  PE X (.Call (.Name "list" p) [.Call (.Name "range" p2) [a,b] [] dZ] [] pos) (tE X.K Ξ (eB sd fa)) :=
 cF (pQ (Mi hc) hg hm (by decide +kernel) (mx (pQ LX oZ lZ (by decide +kernel) ha (by decide) (by decide) he bO) mE kY) (by decide) (by decide) kY tX) fun σ H Q O=>by
  obtain⟨w,env,N,S,M,h⟩:=O;subst N;refine⟨w,env,rfl,S,M,(Out.aq h).mono λW B A L Y y J=>?_⟩;unfold sd at Y;split at Y
  ·rename_i i j
   split at Y
   ·rename_i T
    simp only[È,Å] at T;obtain⟨v,r,rfl,I,v2,G,rfl,F,dr⟩:=J;have e1:v=.int i:=I;have e2:v2=.int j:=F;have E:G=[]:=dr;subst e1 e2 E;have D:j=i+((j-i).toNat:Int):=by rw[Z4 (by omega)];omega
    refine⟨i,j,rfl,λq R=>⟨q,i,(j-i).toNat,rfl,by rw[cU];exact ļ (λz=>some (HO.bc i z)) D,T.1,by omega,by omega,λl C=>?_⟩⟩;have U:(W.grow q (.bc i j)).H l=none:=C;have P:=L.grow (o:=.bc i j) R;exact Y ((W.grow q (.bc i j)).grow l (.lst ((Ó (j-i).toNat).map λm:Nat=>V.int (i+(m:Int))))) ((Fw.grow R).le.trans (Fw.grow U).le) (P.grow U) rfl (.ref l) ⟨l,_,rfl,⟨(show ¬ (W.grow q (.bc i j)).Z l from mF P U),cU⟩,O4 _ _⟩
   ·exact Y.elim
  ·exact Y.elim
end
def nS:List D->af->Res D:=aU 2 2 (aP (eB dw (ae (e1 TK.rR (e2 cN (eB xi (ae (aa 0) ah)) (kM (ae (aa 1) ah)))) ah)))
def rS:List D->af->Res D:=aU 1 3 (ax (aR (bL (ae (ar rN (ae (aa 0) (ae (eC (.int 8)) ah))) (ae (ar rN (ae (aa 0) (ae (eC (.int 8)) ah))) ah))) (gT [(gN 1),(gN 2)])) (aP (bL (ae (aa 1) (ae (eB dw (ae (bC 1 [1] (bG (aa 2)) (gN 0) (aV (e2 dH (aa 0) (aa 1))) (aa 0)) ah)) ah)))))
def vB:List D->af->Res D:=aU 1 1 (bS (fI (cI (ar rB (ae (aa 0) ah)))) uW cf)
def rz:List D->af->Res D:=aU 1 3 (ax (aR (eNew ah) (gN 1)) (ax (eU (cb (ae (eB ix (ae (aa 0) ah)) ah)) (gN 2) (bS (gP (cI (e2 aI (aa 0) (aa 2))) (gP (aV (e2 tW (aa 2) (eC (.int 0)))) (cI (e2 aI (aa 0) (e2 sZ (aa 2) (eC (.int 1))))))) (mU (bL (ae (e2 aI (e2 aI (aa 1) (e1 tu (eC (.int 1)))) (eC (.int 0))) (ae (aa 2) ah))) (aa 1) (e1 tu (eC (.int 1)))) (bS (cI (e2 aI (aa 0) (aa 2))) (cM (gB (aa 1) (bL (ae (aa 2) (ae (aa 2) ah))))) cf))) (aP (lQ (aa 1)))))
def se:List D->af->Res D:=aU 2 2 (aP (eT (ar pK (ae (e2 aI (aa 0) (eC (.int (0)))) (ae (e2 aI (aa 1) (eC (.int (1)))) ah))) (ar pK (ae (e2 aI (aa 0) (eC (.int (1)))) (ae (e2 aI (aa 1) (eC (.int (0)))) ah)))))
def pL:List D->af->Res D:=aU 2 2 (ax (cM (ar ll (ae (aa 0) ah))) (ax (cM (ar vB (ae (aa 1) ah))) (aP (AA 3 [1,0] (cb (ae (eC (.int (4))) ah)) (gN 0) cR (bG (ar rz (ae (bC 1 [3] (bG (ar lj (ae (aa 4) (ae (aa 0) ah)))) (gN 0) cR (ar se (ae (aa 1) (ae (aa 0) ah)))) ah))) (gT [gN 1,gN 2]) cR (bL (ae (aa 0) (ae (aa 1) (ae (aa 2) ah))))))))
def nH:List D->af->Res D:=aU 2 2 (ax (cM (ar ll (ae (aa 0) ah))) (ax (cM (ar mj (ae (aa 1) ah))) (aP (eB dw (ae (bC 2 [] (bG (ar lj (ae (aa 0) (ae (aa 1) ah)))) (gT [gN 0,gN 1]) cR (aa 0)) ah)))))
def nK:List D->af->Res D:=aU 2 2 (ax (cM (ar ll (ae (aa 0) ah))) (ax (cM (ar mj (ae (aa 1) ah))) (aP (eB dw (ae (bC 2 [] (bG (ar lj (ae (aa 0) (ae (aa 1) ah)))) (gT [gN 0,gN 1]) cR (eB dw (ae (bC 1 [1] (cb (ae (eC (.int (8))) ah)) (gN 0) (aV (e2 dH (aa 0) (aa 1))) (aa 0)) ah))) ah)))))
def mm:List D->af->Res D:=aU 2 2 (aP (e2 cP (bC 1 [1] (bG (aa 0)) (gN 0) (aV (e2 dH (aa 0) (aa 1))) (aa 0)) (kM ah)))
def Gq:aah Fl:=(bS (aV (e2 cP (aa 3) (aa 1))) (aR (e2 cN (aa 2) (eB sd (ae (aa 4) (ae (e2 cN (aa 5) (eC (.int 1))) ah)))) (gN 2)) cf)
def sf:List D->af->Res D:=aU 2 6 (ax (aR (kM ah) (gN 2)) (ax (eU (bG (aa 0)) (gT [(gN 3),(gN 4),(gN 5)]) Gq) (aP (aa 2))))
def AI:aah Fl:=(ax (tY 15 16 (ae (ar ko (ae (aa 3) (ae (aa 4) (ae (aa 14) ah)))) (ae (ar ko (ae (aa 13) (ae (aa 4) (ae (aa 14) ah)))) ah))) (bS (iU (fI (cI (ar mm (ae (e2 aI (aa 15) (eC (.int 0))) (ae (e2 aI (aa 16) (eC (.int 0))) ah))))) (fI (cI (ar mm (ae (e2 aI (aa 15) (eC (.int 1))) (ae (e2 aI (aa 16) (eC (.int 1))) ah)))))) (aP (eC (.bl false))) cf))
def AJ:aah Fl:=(bS (fI (cI (ar mm (ae (ar sf (ae (ar pL (ae (aa 13) (ae (aa 5) ah))) (ae (aa 15) ah))) (ae (ar sf (ae (aa 9) (ae (aa 15) ah))) ah))))) (aP (eC (.bl false))) cf)
def AK:aah Fl:=(bS (gP (aV (e2 eV (aa 17) (e2 aI (ar ko (ae (aa 18) (ae (aa 4) (ae (aa 14) ah)))) (eC (.int 0))))) (aV (e2 dH (aa 17) (e2 aI (ar ko (ae (aa 3) (ae (aa 4) (ae (aa 14) ah)))) (eC (.int 0)))))) (aP (eC (.bl false))) cf)
def AL (W:Ĉ):aah Fl:=(ax (aR (ar vU (ae (aa 0) (ae (aa 1) ah))) (gN 2)) (ax (t9 3 4 5 (ae (oY (ar (wg W) (ae (aa 2) ah)) oX (oA (eC (.int 21)))) (ae (ar bJ (ae (aa 2) (ae (eC (.int 4)) ah))) (ae (ar rS (ae (aa 2) ah)) ah)))) (ax (aR (bL (ae (ar bJ (ae (aa 2) (ae (eC (.int 31)) ah))) (ae (e2 kG (e2 cN (aa 4) (eC (.int 1))) (eC (.int 4))) ah))) (gT [(gN 6),(gN 7)])) (ax (tY 8 9 (ae (ar ko (ae (aa 3) (ae (aa 4) (ae (aa 6) ah)))) (ae (ar pL (ae (aa 3) (ae (aa 5) ah))) ah))) (ax (aR (bL (ae (ar nH (ae (aa 3) (ae (aa 4) ah))) (ae (ar nK (ae (aa 3) (ae (aa 4) ah))) ah))) (gN 10)) (ax (aR (ar nS (ae (aa 3) (ae (bL (ae (eC (.str "made")) (ae (aa 4) (ae (aa 6) (ae (aa 8) ah))))) ah))) (gN 11)) (ax (bS (iU (fI (cI (ar lq (ae (aa 11) ah)))) (aV (e2 iu (bL (ae (ar nH (ae (aa 11) (ae (aa 4) ah))) (ae (ar nK (ae (aa 11) (ae (aa 4) ah))) ah))) (aa 10)))) (aP (eC (.bl false))) cf) (ax (bS (aV (e2 iu (ar pL (ae (aa 11) (ae (aa 5) ah))) (aa 9))) (aP (eC (.bl false))) cf) (ax (aR (ar nS (ae (aa 3) (ae (bL (ae (eC (.str "mended")) (ae (aa 7) (ae (aa 6) (ae (ar bJ (ae (aa 2) (ae (eC (.int 8)) ah))) ah))))) ah))) (gN 12)) (ax (bS (gP (cI (ar lq (ae (aa 12) ah))) (aV (e2 iu (bL (ae (ar nH (ae (aa 12) (ae (aa 4) ah))) (ae (ar nK (ae (aa 12) (ae (aa 4) ah))) ah))) (aa 10)))) (aP (eC (.bl false))) cf) (ax (aR (ar nS (ae (aa 3) (ae (bL (ae (eC (.str "made")) (ae (aa 4) (ae (aa 6) (ae (ar rS (ae (aa 2) ah)) ah))))) ah))) (gN 13)) (ax (bS (cI (ar lq (ae (aa 13) ah))) (ax (eU (bG (kM (ae (eC (.int 0)) (ae (aa 6) (ae (ar bJ (ae (aa 2) (ae (eC (.int 31)) ah))) (ae (eC (.int 30)) ah)))))) (gN 14) AI) (eU (cb (ae (eC (.int 4)) ah)) (gN 15) AJ)) cf) (ax (aR (ar bJ (ae (aa 2) (ae (eC (.int 8)) ah))) (gN 17)) (ax (aR (ar nS (ae (aa 3) (ae (bL (ae (eC (.str "mended")) (ae (aa 4) (ae (aa 6) (ae (aa 17) ah))))) ah))) (gN 18)) (bS (cI (ar lq (ae (aa 18) ah))) (ax (eU (bG (bC 1 [6] (bG (kM (ae (eC (.int 0)) (ae (eC (.int 1)) (ae (eC (.int 5)) ah))))) (gN 0) (aV (e2 jm (e2 cN (aa 1) (aa 0)) (eC (.int 31)))) (e2 cN (aa 1) (aa 0)))) (gN 14) AK) (bS (aV (e2 dH (aa 17) (e2 aI (ar ko (ae (aa 18) (ae (aa 4) (ae (aa 6) ah)))) (eC (.int 1))))) (aP (eC (.bl false))) cf)) cf)))))))))))))))
def xo (W:Ĉ):List D->af->Res D:=aU 1 19 (ax (eU (cb (ae (eB qr (ae (eC (.int 1)) (ae (eB xh (ae (eB ix (ae (aa 0) ah)) (ae (eC (.int 2)) ah))) ah))) ah)) (gN 1) (AL W)) (aP (eC (.bl true))))
abbrev GG (K:Ļ) (mg:Str->Option Ê) (x:Str) (st:Stmt) (ps:List Str):Prop:=∃f fd,Gd K mg x st ps f fd
abbrev bq (P:ô) (w:Ĉ) (K:Ļ) (mg:Str->Option Ê) (base:ō) (x:Str) (st:Stmt) (ps:List Str) (k:Nat) (fn:List D->af->Res D):Prop:=∀{f:à} {fd:ű},Gd K mg x st ps f fd->fT P w K mg base iz k f fd ps (qY K fn)
noncomputable def Cb (N ps:List Str) (sc:ZF):Bool:=decide (sc.kind=.function)&&!sc.isCoroutine&&!sc.isGenerator&&decide N.Nodup&&decide (N.take ps.length=ps)&&ps.all (λx=>decide (sc.names.lookup x=some .local\/sc.names.lookup x=some .cell))&&sc.names.all (λy=>decide (y.2≠.free))
def Iq (h:Cb N ps sc=true):rW N ps sc:=by
 unfold Cb at h;simp only[È,ě,Å,ë] at h;obtain⟨⟨⟨⟨⟨⟨Z,Y⟩,X⟩,W⟩,V⟩,U⟩,T⟩:=h;exact⟨Z,Y,X,W,V,U,T⟩
def bt (G:Gd K mg x st ps f fd) (N:List Str) (S:Cb N ps (gp st)=true)
 (hb:N.Nodup->∀(bQ:Ê) (A:Ă) (outer:List PySem.Env) (s:Æ) (H:Hp) (E:XK),bY k (A.deeper (PyProof.Rows.envOfC x (gp st) s.heap.objs.size f bQ))->de (mS iz P w K mg base N x (gp st) f bQ A outer s H E).qR (kq st) (tS K ck b)) :
  fT P w K mg base iz (k+1) f fd ps (qY K (aU ps.length N.length b)):=TU G.fn (Iq S) (hb (Iq S).nd)
section
variable {X:Cx} {Ξ:Wd->bg->Prop} {e a b c tg el src:ņ} {es rest tests:List ņ} {pos:Pos} {f g h:aah D} {fa:aah (List D)} {ft gt:aah Bool}
def aw {k n:Nat} {x:Str} {st:Stmt} {ps:List Str} {fn:List D->af->Res D} {p:Pos} (G:GG X.K X.mg x st ps) (F:bq X.prog X.w X.K X.mg X.base x st ps k fn) (hr:bY n X.A) (ha:PA X (e::es) (tA X.K Ξ fa)) (hk:k<=n:=by decide) (hg:Gl X x:=by rfl) (iV:(x==("__debug__":Str))=false:=by decide)
  (he:Ý (e::es) X.env=(false,Ž e X.env)::Ý es X.env:=by rfl) (bO:(Yt pos (Ý es X.env)).any (·.1)=false:=by rfl):PE X (.Call (.Name x p) (e::es) [] pos) (tE X.K Ξ (ar fn fa)):=by
 obtain⟨f,fd,G⟩:=G;exact RZ (F G) (hr.mono hk) hg G.mg G.fn.kp G.b ha iV he bO
def aH (ha:PE X a (tE X.K Ξ f)) (hs:Ý [a] X.env=(false,Ž a X.env)::Ý [] X.env:=by rfl):PA X [a] (tA X.K Ξ (ae f ah)):=aS ha dA hs
def aE (ha:PE X a (tE X.K Ξ f)) (hb:PE X b (tE X.K Ξ g)) (h1:Ý [a,b] X.env=(false,Ž a X.env)::Ý [b] X.env:=by rfl) (h2:Ý [b] X.env=(false,Ž b X.env)::Ý [] X.env:=by rfl):PA X [a,b] (tA X.K Ξ (ae f (ae g ah))):=aS ha (aS hb dA h2) h1
def fG (ha:PE X a (tE X.K Ξ f)) (hb:PE X b (tE X.K Ξ g)) (hc:PE X c (tE X.K Ξ h)) (h1:Ý [a,b,c] X.env=(false,Ž a X.env)::Ý [b,c] X.env:=by rfl) (h2:Ý [b,c] X.env=(false,Ž b X.env)::Ý [c] X.env:=by rfl) (h3:Ý [c] X.env=(false,Ž c X.env)::Ý [] X.env:=by rfl):PA X [a,b,c] (tA X.K Ξ (ae f (ae g (ae h ah)))):=aS ha (aS hb (aS hc dA h3) h2) h1
def fu {x:Str} {px:Pos} {sc:ZF} {ps:Pos} (N:List Str) {cap:List Nat} {it:aah (List D)} (hi:PI X (.Name x px) src (ef X.K Ξ it))
  (hY:∀(cl:List (Str×à)) (C:à) (s:Æ) (H:Hp) (ex:List à) (pn:List (à×Obj)),PF (eD X N sc cl C s H ex pn) tests (tT X.K ck ft)/\PE (eD X N sc cl C s H ex pn) el (tE X.K ck f))
  (hc:X.calm=true:=by rfl) (S:AE sc X.env.scope.names X.N N 1 cap=true:=by kernel_rfl) (nd:N.Nodup:=by decide +kernel) (h0:N[0]?=some x:=by rfl) (hx:∀cl C s H ex pn,(eD X N sc cl C s H ex pn).env.scope.names.lookup x=some .local:=by intros;rfl) (hs:∀x,ć src X.env x=pure x:=by intro _;rfl) :
  PE X (.ListComp el [⟨.Name x px,src,tests,0⟩] sc ps) (tE X.K Ξ (bC 1 cap it (gN 0) ft f)) :=
 we hc (tD S) (nR 0) hi (λcl C s H ex pn=>⟨fE nd h0 (.inl (hx cl C s H ex pn)) (.inr (hx cl C s H ex pn)),hY cl C s H ex pn⟩) hs
end
end DI
namespace DI.jx
open PySem L2 DI
noncomputable def top (i:Nat):Stmt:=PySem.Challenge.pw_twinmoulds_k16_a_page_more.main.body.getD i (.Pass ⟨0,0,0,0⟩)
noncomputable abbrev ua:List Str:=[aao,"_law_k"]
noncomputable abbrev Cc:List Str:=["_law_book_here","_law_page"]
noncomputable abbrev Cd:List Str:=["things"]
noncomputable abbrev bI:List Str:=["thing"]
noncomputable abbrev Ce:List Str:=["thing","many"]
noncomputable abbrev Cf:List Str:=["marks","others"]
noncomputable abbrev Cg:List Str:=["pages","mould","mark","half"]
noncomputable abbrev ue:List Str:=["pages","mould","mark"]
noncomputable abbrev Ci:List Str:=["days","day","later"]
noncomputable abbrev Cj:List Str:=["pages"]
noncomputable abbrev Jy:List Str:=[aan,"_law_many"]
noncomputable abbrev Jz:List Str:=[aan,"_law_most"]
noncomputable abbrev xp:List Str:=[aan]
noncomputable abbrev xq:List Str:=["book","mould","mark"]
noncomputable abbrev Be:List Str:=["days_by_mark","day"]
noncomputable abbrev mQ:List Str:=["book","mould"]
noncomputable abbrev Bf:List Str:=["book","mould","day"]
noncomputable abbrev JA:List Str:=["holds"]
noncomputable abbrev Bg:List Str:=["sheet","sure"]
noncomputable abbrev Bh:List Str:=["book","sheet"]
noncomputable abbrev JB:List Str:=[aan,aas]
noncomputable abbrev Bi:List Str:=["_law_one",aat]
noncomputable abbrev JC:List Str:=["_law_told",aar]
noncomputable abbrev Uh:List Str:=[aao]
structure bx (K:Ļ) (mg:Str->Option Ê):Prop where
 AM:mg "all"=none
 Ir:mg "any"=none
 QJ:mg "bool"=none
 Sx:mg "int"=none
 pI:mg "isinstance"=none
 qf:mg "len"=none
 z9:mg "list"=none
 Iu:mg "max"=none
 Sy:mg "min"=none
 dq:mg "range"=none
 Mj:mg "reversed"=none
 Iv:mg "set"=none
 zb:mg "sorted"=none
 hZ:mg "tuple"=none
 Sz:mg "zip"=none
 mv:∃t,mg "MARKS"=some (.int (8) t)
 rK:∃t,mg "MOULDS"=some (.int (4) t)
 nT:∃t,mg "DAYS"=some (.int (31) t)
 zx:∃t,mg "PAGES"=some (.int (24) t)
 qg:∃t,mg "HAS"=some (.int (0) t)
 pY:∃t,mg "LACKS"=some (.int (1) t)
 Ml:GG K mg "_law_cell_at" (top 47) ua
 NL:GG K mg "_law_state" (top 48) ua
 vY:GG K mg "_law_more" (top 54) Cc
 EA:GG K mg "is_rising" (top 15) Cd
 LY:GG K mg "is_number" (top 10) bI
 yN:GG K mg "is_below" (top 11) Ce
 E1:GG K mg "is_mark" (top 12) bI
 EB:GG K mg "are_marks" (top 22) bI
 yC:GG K mg "are_apart" (top 24) Cf
 EJ:GG K mg "is_sheet" (top 23) bI
 EK:GG K mg "is_mould" (top 13) bI
 FE:GG K mg "is_day" (top 14) bI
 MR:GG K mg "is_page" (top 25) bI
 Mm:GG K mg "are_laid" (top 26) bI
 vC:GG K mg "days_seen" (top 31) Cg
 yv:GG K mg "days_mended" (top 32) ue
 Ll:GG K mg "is_any_behind" (top 30) Ci
 MS:GG K mg "clashes" (top 29) ue
 LZ:GG K mg "faults_of" (top 28) Cj
 rF:GG K mg "is_book" (top 27) bI
 fB:GG K mg "_law_take" (top 49) Jy
 FF:GG K mg "_law_marks" (top 50) Jz
 FG:GG K mg "_law_sheet" (top 51) xp
 vD:GG K mg "need_book" (top 34) bI
 yx:GG K mg "need_mould" (top 16) bI
 Mn:GG K mg "need_day" (top 17) bI
 Lo:GG K mg "days_present" (top 42) xq
 Lw:GG K mg "days_absent" (top 43) xq
 EL:GG K mg "marks_on" (top 41) Be
 vq:GG K mg "sure_sheets" (top 40) mQ
 pR:GG K mg "surely" (top 36) Bf
 LG:GG K mg "need_sheet" (top 33) bI
 L0:GG K mg "stretches" (top 45) JA
 O6:GG K mg "agree" (top 44) Bg
 yD:GG K mg "places_of" (top 39) Bh
 yy:GG K mg "least_life" (top 37) mQ
 yE:GG K mg "most_life" (top 38) mQ
 NM:GG K mg "_law_lived" (top 52) JB
 O7:GG K mg "_law_book" (top 53) xp
 yT:GG K mg "_law_within" (top 56) Bi
 Gr:GG K mg "_law_days" (top 55) JC
section
variable {P:ô} {w:Ĉ} {K:Ļ} {mg:Str->Option Ê} {base:ō}
def Mo (F:bx K mg):bq P w K mg base "_law_cell_at" (top 47) ua 1 rA:=λ{_ _} G =>
 bt G ua (by kernel_rfl) λY _ _ _ _ _ _ Z=>(aL (cO (bR (t6 Z) (ag 1) (dY qp rfl F.qf qw (aH (ag 0))) (cz _)) (aK (aW (bF (ag 0) (ag 1)))) cX) (aK (aW aA)))
def NN (F:bx K mg):bq P w K mg base "_law_state" (top 48) ua 2 vU:=λ{_ _} G =>
 bt G [aao,"_law_k","_law_cell"] (by kernel_rfl) λZ _ _ _ _ _ _ Y=>(aL (bX 2 Z (aw F.Ml (Mo F) Y (aE (ag 0) (ag 1)))) (aK (aW (oh (aE (dY (HU rfl) rfl F.Iu Jl (aE aA (bW Ja (ag 2) (bW TV aA aA)))) (bW oo (ag 2) aA))))))
def vZ (F:bx K mg):bq P w K mg base "_law_more" (top 54) Cc 1 nS:=λ{_ _} G =>
 bt G Cc (by kernel_rfl) λY _ _ _ _ _ _ Z=>(aK (aW (ja ku rfl F.hZ ic (aH (TK.MQ Z (bW gL (ja R5 rfl F.z9 H9 (aH (ag 0))) (sY (aH (ag 1)))) rfl rfl F.zb zp rfl F.Iv Jj)))))
def EC (F:bx K mg):bq P w K mg base "is_rising" (top 15) Cd 1 nJ:=λ{_ _} G=>by
 have Z:(["ahead","behind"]:List Str).Nodup:=by decide +kernel
 exact bt G Cd (by kernel_rfl) λX _ _ _ _ _ _ Y=>(aK (aW (dY (A3 rfl) rfl F.AM A7 (aH (we (N:=["ahead","behind"]) (nt:=2) (cap:=[]) rfl (tD (by kernel_rfl)) (sH (km 0 (km 1 rX))) (TR rfl F.Sz (aE (ag 0) (J2 (ag 0) (Je aA) J1))) (λcl C s H ex W=>⟨(kA rfl (jA (fE (i:=0) Z rfl (Zb rfl)) (jA (fE (i:=1) Z rfl (Zb rfl)) p6))),fH,(ik (t6 Y) (ag 0) (ag 1) (cz _))⟩))))))
def L7 (F:bx K mg):bq P w K mg base "is_number" (top 10) bI 1 yM:=λ{_ _} G =>
 bt G bI (by kernel_rfl) λZ _ _ _ _ _ _ Y=>(aK (aW (gu (dY qv rfl F.pI pJ (aE (ag 0) (qK TY rfl F.Sx))) (gu (IY (dY qv rfl F.pI pJ (aE (ag 0) (qK R9 rfl F.QJ)))) (il (ik Vj (ag 0) aA (cz _)))))))
def yO (F:bx K mg):bq P w K mg base "is_below" (top 11) Ce 2 pN:=λ{_ _} G =>
 bt G Ce (by kernel_rfl) λY _ _ _ _ _ _ Z=>(aK (aW (gu (aw F.LY (L7 F) Z (aH (ag 0))) (il (ik (t6 Z) (ag 0) (ag 1) (cz _))))))
def E2 (F:bx K mg):bq P w K mg base "is_mark" (top 12) bI 3 rH:=λ{_ _} G =>
 bt G bI (by kernel_rfl) λY _ _ _ _ _ _ Z=>(aK (aW (aw F.yN (yO F) Z (aE (ag 0) (dC F.mv rfl)))))
def ED (F:bx K mg):bq P w K mg base "are_marks" (top 22) bI 4 rq:=λ{_ _} G =>
 bt G bI (by kernel_rfl) λY _ _ _ _ _ _ Z=>(aK (aW (gu (dY qv rfl F.pI pJ (aE (ag 0) (qK ic rfl F.hZ))) (gu (dY (A3 rfl) rfl F.AM A7 (aH (fu ["mark"] (eQ (ag 0)) (λ_ _ _ _ _ _=>⟨fH,(aw F.E1 (E2 F) Z (aH (ag 0)))⟩)))) (il (aw F.EA (EC F) Z (aH (ag 0))))))))
def yF (F:bx K mg):bq P w K mg base "are_apart" (top 24) Cf 1 pK:=λ{_ _} G =>
 bt G Cf (by kernel_rfl) λY _ _ _ _ _ _ Z=>(aK (aW (IY (dY (Jd rfl) rfl F.Ir Jk (aH (fu ["mark","others"] (eQ (ag 0)) (λ_ _ _ _ _ _=>⟨fH,(ik (jQ Z) (ag 0) (ag 1) rfl)⟩)))))))
def EM (F:bx K mg):bq P w K mg base "is_sheet" (top 23) bI 5 rB:=λ{_ _} G =>
 bt G ["thing","has","lacks"] (by kernel_rfl) λY _ _ _ _ _ _ Z=>(aL (cO (PW.pt (w_or (iG (dN (dY qv rfl F.pI pJ (aE (ag 0) (qK ic rfl F.hZ))))) (oj (bR (tU Z) (dY qp rfl F.qf qw (aH (ag 0))) aA (cz _))))) (aK (aW gQ)) cX) (aL (om (ag 0) (mP rfl (eI (bV 1 Y) (eI (bV 2 Y) mG)))) (aK (aW (gu (aw F.EB (ED F) Z (aH (ag 1))) (gu (aw F.EB (ED F) Z (aH (ag 2))) (il (aw F.yC (yF F) Z (aE (ag 1) (ag 2))))))))))
def EN (F:bx K mg):bq P w K mg base "is_mould" (top 13) bI 3 rD:=λ{_ _} G =>
 bt G bI (by kernel_rfl) λY _ _ _ _ _ _ Z=>(aK (aW (aw F.yN (yO F) Z (aE (ag 0) (dC F.rK rfl)))))
def FH (F:bx K mg):bq P w K mg base "is_day" (top 14) bI 3 rQ:=λ{_ _} G =>
 bt G bI (by kernel_rfl) λY _ _ _ _ _ _ Z=>(aK (aW (aw F.yN (yO F) Z (aE (ag 0) (dC F.nT rfl)))))
def MT (F:bx K mg):bq P w K mg base "is_page" (top 25) bI 6 vL:=λ{_ _} G =>
 bt G ["thing","word","mould","day","what"] (by kernel_rfl) λY _ _ _ _ _ _ Z=>(aL (cO (PW.pt (w_or (iG (dN (dY qv rfl F.pI pJ (aE (ag 0) (qK ic rfl F.hZ))))) (oj (bR (tU Z) (dY qp rfl F.qf qw (aH (ag 0))) aA (cz _))))) (aK (aW gQ)) cX) (aL (om (ag 0) (mP rfl (eI (bV 1 Y) (eI (bV 2 Y) (eI (bV 3 Y) (eI (bV 4 Y) mG)))))) (aL (cO (PW.pt (w_or (iG (dN (aw F.EK (EN F) Z (aH (ag 2))))) (oj (iG (dN (aw F.FE (FH F) Z (aH (ag 3)))))))) (aK (aW gQ)) cX) (aL (cO (bR (iw Z) (ag 1) kE (cz _)) (aK (aW (aw F.EJ (EM F) Z (aH (ag 4))))) cX) (aK (aW (gu (ik (iw Z) (ag 1) kE (cz _)) (il (aw F.E1 (E2 F) Z (aH (ag 4)))))))))))
def Mp (F:bx K mg):bq P w K mg base "are_laid" (top 26) bI 7 vJ:=λ{_ _} G =>
 bt G bI (by kernel_rfl) λY _ _ _ _ _ _ Z=>(aK (aW (gu (dY qv rfl F.pI pJ (aE (ag 0) (qK ic rfl F.hZ))) (gu (ik JZ (dY qp rfl F.qf qw (aH (ag 0))) (dC F.zx rfl) (cz _)) (gu (dY (A3 rfl) rfl F.AM A7 (aH (fu ["page"] (eQ (ag 0)) (λ_ _ _ _ _ _=>⟨fH,(aw F.MR (MT F) Z (aH (ag 0)))⟩)))) (il (aw F.EA (EC F) Z (aH (ag 0)))))))))
def vE (F:bx K mg):bq P w K mg base "days_seen" (top 31) Cg 1 kj:=λ{_ _} G =>
 bt G Cg (by kernel_rfl) λY _ _ _ _ _ _ Z=>(aK (aW (fu ["page","mould","mark","half"] (eQ (ag 0)) (λ_ _ _ _ _ _=>⟨(jf (PW.pt (w_and (bR (iw Z) (bF (ag 0) aA) kE (cz _)) (w_and (bR (iw Z) (bF (ag 0) aA) (ag 1) (cz _)) (nX (bR (jQ Z) (ag 2) (bF (bF (ag 0) aA) (ag 3)) rfl)))))),(bF (ag 0) aA)⟩))))
def yw (F:bx K mg):bq P w K mg base "days_mended" (top 32) ue 1 pH:=λ{_ _} G =>
 bt G ue (by kernel_rfl) λY _ _ _ _ _ _ Z=>(aK (aW (fu ["page","mould","mark"] (eQ (ag 0)) (λ_ _ _ _ _ _=>⟨(jf (PW.pt (w_and (bR (iw Z) (bF (ag 0) aA) kE (cz _)) (w_and (bR (iw Z) (bF (ag 0) aA) (ag 1) (cz _)) (nX (bR (iw Z) (bF (ag 0) aA) (ag 2) (cz _))))))),(bF (ag 0) aA)⟩))))
def Lm (F:bx K mg):bq P w K mg base "is_any_behind" (top 30) Ci 1 vj:=λ{_ _} G =>
 bt G Ci (by kernel_rfl) λY _ _ _ _ _ _ Z=>(aK (aW (dY (Jd rfl) rfl F.Ir Jk (aH (fu ["other","day","later"] (eQ (ag 0)) (λ_ _ _ _ _ _=>⟨fH,(Qk (t6 Z) JZ (ag 1) (ag 0) (ag 2))⟩))))))
def MU (F:bx K mg):bq P w K mg base "clashes" (top 29) ue 2 rJ:=λ{_ _} G=>by
 have Y:(["day","later","lacked","mended"]:List Str).Nodup:=by decide +kernel
 exact bt G ["pages","mould","mark","lacked","mended"] (by kernel_rfl) λX _ _ _ _ _ _ Z=>(aL (bX 3 X (aw F.vC (vE F) Z (aS (ag 0) (aS (ag 1) (aS (ag 2) (aS (dC F.pY rfl) dA)))))) (aL (bX 4 X (aw F.yv (yw F) Z (fG (ag 0) (ag 1) (ag 2)))) (aK (aW (G1 (N:=["day","later","lacked","mended"]) (nt:=2) (cap:=[3,4]) rfl (A0 (by kernel_rfl)) (nR 0) (rY 0) (nR 1) (rY 1) (eQ (ML (aw F.vC (vE F) Z (aS (ag 0) (aS (ag 1) (aS (ag 2) (aS (dC F.qg rfl) dA))))) rfl rfl F.zb zp rfl F.Iv Jj)) (λcl C s H ex W=>⟨(fE (i:=0) Y rfl (Zb rfl)),fH,(RY rfl F.dq (aE (ag 0) (dC F.nT rfl))),(fE (i:=1) Y rfl (Zb rfl)),(jf (PW.pt (w_and (PW.pt (w_or (bR (jQ Z) (ag 1) (ag 2) rfl) (oj (PW.pt (w_and (bR (iw Z) (ag 1) (ag 0) (cz _)) (nX (bR (jQ Z) (ag 0) (ag 3) rfl))))))) (nX (iG (dN (aw F.Ll (Lm F) Z (fG (ag 3) (ag 0) (ag 1))))))))),(dM (aE (ag 0) (ag 1)))⟩))))))
def L8 (F:bx K mg):bq P w K mg base "faults_of" (top 28) Cj 3 vH:=λ{_ _} G=>by
 have Z:(["mould","mark","day","later","pages"]:List Str).Nodup:=by decide +kernel
 exact bt G Cj (by kernel_rfl) λX _ _ _ _ _ _ Y=>(aK (aW (Qp (N:=["mould","mark","day","later","pages"]) (nt:=4) (cap:=[0]) rfl (A0 (by kernel_rfl)) (nR 0) (rY 0) (nR 1) (rY 1) (sH (km 2 (km 3 rX))) (wB [2,3]) (eO rfl F.dq (aH (dC F.rK rfl))) (λcl C s H ex W=>⟨(fE (i:=0) Z rfl (Zb rfl)),fH,(eO rfl F.dq (aH (dC F.mv rfl))),(fE (i:=1) Z rfl (Zb rfl)),fH,(eQ (aw F.MS (MU F) Y (fG (ag 4) (ag 0) (ag 1)))),(kA rfl (jA (fE (i:=2) Z rfl (Zb rfl)) (jA (fE (i:=3) Z rfl (Zb rfl)) p6))),fH,(dM (aS (ag 0) (aS (ag 1) (aS (ag 2) (aS (ag 3) dA)))))⟩))))
def rG (F:bx K mg):bq P w K mg base "is_book" (top 27) bI 8 lq:=λ{_ _} G =>
 bt G bI (by kernel_rfl) λY _ _ _ _ _ _ Z=>(aK (aW (gu (aw F.Mm (Mp F) Z (aH (ag 0))) (il (TK.Sr (aw F.LZ (L8 F) Z (aH (ag 0))))))))
def fC (F:bx K mg):bq P w K mg base "_law_take" (top 49) Jy 1 bJ:=λ{_ _} G =>
 bt G [aan,"_law_many",aau,"_law_stirred"] (by kernel_rfl) λZ _ _ _ _ _ _ Y=>(aL (cO (bR J0 (bF (ag 0) aA) aA (cz _)) (aL (bX 2 Z (bW oo (bF (ag 0) aA) (ag 1))) (aL (A4 (bW Jb (bF (ag 0) aA) (ag 1)) (ag 0) aA) (aK (aW (ag 2))))) cX) (aL (A4 (bW oo (bW gL (bW tw (bF (ag 0) aA) aA) aA) aA) (ag 0) aA) (aL (bX 3 Z (bW oo (bW gL (bW gL (bW tw (bF (ag 0) aA) (bF (ag 0) aA)) (bW tw aA (bF (ag 0) aA))) aA) aA)) (aL (bX 3 Z (bW oo (bW gL (bW tw (ag 3) (ag 3)) (bW tw aA (ag 3))) aA)) (aK (aW (bW oo (bW Jb (ag 3) aA) (ag 1))))))))
def FI (F:bx K mg):bq P w K mg base "_law_marks" (top 50) Jz 2 rN:=λ{_ _} G =>
 bt G [aan,"_law_most","_law_way"] (by kernel_rfl) λY _ _ _ _ _ _ Z=>(aL (bX 2 Y (bW gL aA (aw F.fB (fC F) Z (aE (ag 0) aA)))) (aK (aW (ja ku rfl F.hZ ic (aH (fu [aap,aan,"_law_way"] (eO rfl F.dq (aH (ag 1))) (λ_ _ _ _ _ _=>⟨(jf (bR (iw Z) (aw F.fB (fC F) Z (aE (ag 1) (bW gL (ag 2) aA))) aA (cz _))),(ag 0)⟩)))))))
def FJ (F:bx K mg):bq P w K mg base "_law_sheet" (top 51) xp 3 rS:=λ{_ _} G =>
 bt G [aan,"_law_has","_law_lacks"] (by kernel_rfl) λY _ _ _ _ _ _ Z=>(aL (om (dM (aE (aw F.FF (FI F) Z (aE (ag 0) aA)) (aw F.FF (FI F) Z (aE (ag 0) aA)))) (mP rfl (eI (bV 1 Y) (eI (bV 2 Y) mG)))) (aK (aW (dM (aE (ag 1) (ja ku rfl F.hZ ic (aH (fu [aap,"_law_has"] (eQ (ag 2)) (λ_ _ _ _ _ _=>⟨(jf (bR (lA Z) (ag 0) (ag 1) rfl)),(ag 0)⟩)))))))))
def vF (F:bx K mg):bq P w K mg base "need_book" (top 34) bI 9 ll:=λ{_ _} G =>
 bt G bI (by kernel_rfl) λY _ _ _ _ _ _ Z=>(aK (cO (iG (dN (aw F.rF (rG F) Z (aH (ag 0))))) vQ cX))
def yz (F:bx K mg):bq P w K mg base "need_mould" (top 16) bI 4 mj:=λ{_ _} G =>
 bt G bI (by kernel_rfl) λY _ _ _ _ _ _ Z=>(aK (cO (iG (dN (aw F.EK (EN F) Z (aH (ag 0))))) vQ cX))
def Mq (F:bx K mg):bq P w K mg base "need_day" (top 17) bI 4 vK:=λ{_ _} G =>
 bt G bI (by kernel_rfl) λY _ _ _ _ _ _ Z=>(aK (cO (iG (dN (aw F.FE (FH F) Z (aH (ag 0))))) vQ cX))
def Lp (F:bx K mg):bq P w K mg base "days_present" (top 42) xq 2 vp:=λ{_ _} G =>
 bt G ["book","mould","mark","shown","mended","present","stays","day"] (by kernel_rfl) λZ _ _ _ _ _ _ Y=>(aL (bX 3 Z (aw F.vC (vE F) Y (aS (ag 0) (aS (ag 1) (aS (ag 2) (aS (dC F.qg rfl) dA)))))) (aL (bX 4 Z (aw F.yv (yw F) Y (fG (ag 0) (ag 1) (ag 2)))) (aL (bX 5 Z (oh dA)) (aL (bX 6 Z gQ) (aL (iH į rfl (eO rfl F.dq (aH (dC F.nT rfl))) (bV 7 Z) (aL (bX 6 Z (BP (ik (jQ Y) (ag 7) (ag 3) rfl) (il (gu (ag 6) (il (ik (lA Y) (ag 7) (ag 4) rfl)))))) (aK (cO (dN (ag 6)) (aK (gJ (qu (ag 5) (ag 7)))) cX)))) (aK (aW (xf (ag 5)))))))))
def Lx (F:bx K mg):bq P w K mg base "days_absent" (top 43) xq 2 vw:=λ{_ _} G =>
 bt G ["book","mould","mark","lacked","mended","absent","barred","day"] (by kernel_rfl) λZ _ _ _ _ _ _ Y=>(aL (bX 3 Z (aw F.vC (vE F) Y (aS (ag 0) (aS (ag 1) (aS (ag 2) (aS (dC F.pY rfl) dA)))))) (aL (bX 4 Z (aw F.yv (yw F) Y (fG (ag 0) (ag 1) (ag 2)))) (aL (bX 5 Z (oh dA)) (aL (bX 6 Z gQ) (aL (iH į rfl (T5 rfl F.Mj rfl F.dq (aH (dC F.nT rfl))) (bV 7 Z) (aL (cO (PW.pt (w_or (dN (ag 6)) (w_or (bR (jQ Y) (ag 7) (ag 3) rfl) (oj (bR (jQ Y) (ag 7) (ag 4) rfl))))) (aK (gJ (qu (ag 5) (ag 7)))) cX) (aK (bX 6 Z (gu (BP (ag 6) (il (ik (jQ Y) (ag 7) (ag 3) rfl))) (il (ik (lA Y) (ag 7) (ag 4) rfl))))))) (aK (aW (xf (ag 5)))))))))
def EO (F:bx K mg):bq P w K mg base "marks_on" (top 41) Be 1 rE:=λ{_ _} G =>
 bt G Be (by kernel_rfl) λY _ _ _ _ _ _ Z=>(aK (aW (ja ku rfl F.hZ ic (aH (fu ["mark","day","days_by_mark"] (eO rfl F.dq (aH (dC F.mv rfl))) (λ_ _ _ _ _ _=>⟨(jf (bR (jQ Z) (ag 1) (bF (ag 2) (ag 0)) rfl)),(ag 0)⟩))))))
def vt (F:bx K mg):bq P w K mg base "sure_sheets" (top 40) mQ 3 lj:=λ{_ _} G =>
 bt G ["book","mould","present","absent"] (by kernel_rfl) λY _ _ _ _ _ _ Z=>(aL (bX 2 Y (fu ["mark","book","mould"] (eO rfl F.dq (aH (dC F.mv rfl))) (λ_ _ _ _ _ _=>⟨fH,(aw F.Lo (Lp F) Z (fG (ag 1) (ag 2) (ag 0)))⟩))) (aL (bX 3 Y (fu ["mark","book","mould"] (eO rfl F.dq (aH (dC F.mv rfl))) (λ_ _ _ _ _ _=>⟨fH,(aw F.Lw (Lx F) Z (fG (ag 1) (ag 2) (ag 0)))⟩))) (aK (aW (fu ["day","present","absent"] (eO rfl F.dq (aH (dC F.nT rfl))) (λ_ _ _ _ _ _=>⟨fH,(dM (aE (aw F.EL (EO F) Z (aE (ag 1) (ag 0))) (aw F.EL (EO F) Z (aE (ag 2) (ag 0)))))⟩))))))
def pS (F:bx K mg):bq P w K mg base "surely" (top 36) Bf 10 ko:=λ{_ _} G =>
 bt G Bf (by kernel_rfl) λY _ _ _ _ _ _ Z=>(aL (gJ (aw F.vD (vF F) Z (aH (ag 0)))) (aL (gJ (aw F.yx (yz F) Z (aH (ag 1)))) (aL (gJ (aw F.Mn (Mq F) Z (aH (ag 2)))) (aK (aW (bF (aw F.vq (vt F) Z (aE (ag 0) (ag 1))) (ag 2)))))))
def LH (F:bx K mg):bq P w K mg base "need_sheet" (top 33) bI 6 vB:=λ{_ _} G =>
 bt G bI (by kernel_rfl) λY _ _ _ _ _ _ Z=>(aK (cO (iG (dN (aw F.EJ (EM F) Z (aH (ag 0))))) vQ cX))
def L9 (F:bx K mg):bq P w K mg base "stretches" (top 45) JA 1 rz:=λ{_ _} G =>
 bt G ["holds","told","at"] (by kernel_rfl) λZ _ _ _ _ _ _ Y=>(aL (bX 1 Z (oh dA)) (aL (iH į rfl (eO rfl F.dq (aH (dY qp rfl F.qf qw (aH (ag 0))))) (bV 2 Z) (aK (cO (PW.pt (w_and (dN (bF (ag 0) (ag 2))) (w_and (bR J0 (ag 2) aA (cz _)) (nX (dN (bF (ag 0) (bW Ja (ag 2) aA))))))) (aK (A4 (dM (aE (bF (bF (ag 1) (JW Jc aA)) aA) (ag 2))) (ag 1) (JW Jc aA))) (aK (cO (dN (bF (ag 0) (ag 2))) (aK (gJ (qu (ag 1) (dM (aE (ag 2) (ag 2)))))) cX))))) (aK (aW (xf (ag 1))))))
def O8 (F:bx K mg):bq P w K mg base "agree" (top 44) Bg 2 se:=λ{_ _} G =>
 bt G Bg (by kernel_rfl) λY _ _ _ _ _ _ Z=>(aK (aW (gu (aw F.yC (yF F) Z (aE (bF (ag 0) (dC F.qg rfl)) (bF (ag 1) (dC F.pY rfl)))) (il (aw F.yC (yF F) Z (aE (bF (ag 0) (dC F.pY rfl)) (bF (ag 1) (dC F.qg rfl))))))))
def yG (F:bx K mg):bq P w K mg base "places_of" (top 39) Bh 10 pL:=λ{_ _} G=>by
 have Y:(["mould","first","last","sheet","book"]:List Str).Nodup:=by decide +kernel
 exact bt G Bh (by kernel_rfl) λX _ _ _ _ _ _ Z=>(aL (gJ (aw F.vD (vF F) Z (aH (ag 0)))) (aL (gJ (aw F.LG (LH F) Z (aH (ag 1)))) (aK (aW (G1 (N:=["mould","first","last","sheet","book"]) (nt:=3) (cap:=[1,0]) rfl (A0 (by kernel_rfl)) (nR 0) (rY 0) (sH (km 1 (km 2 rX))) (wB [1,2]) (eO rfl F.dq (aH (dC F.rK rfl))) (λcl C s H ex W=>⟨(fE (i:=0) Y rfl (Zb rfl)),fH,(eQ (aw F.L0 (L9 F) Z (aH (fu ["sure","sheet"] (eQ (aw F.vq (vt F) Z (aE (ag 4) (ag 0)))) (λ_ _ _ _ _ _=>⟨fH,(aw F.O6 (O8 F) Z (aE (ag 1) (ag 0)))⟩))))),(kA rfl (jA (fE (i:=1) Y rfl (Zb rfl)) (jA (fE (i:=2) Y rfl (Zb rfl)) p6))),fH,(dM (fG (ag 0) (ag 1) (ag 2)))⟩))))))
def yA (F:bx K mg):bq P w K mg base "least_life" (top 37) mQ 10 nH:=λ{_ _} G=>by
 have Y:(["has","lacks"]:List Str).Nodup:=by decide +kernel
 exact bt G mQ (by kernel_rfl) λX _ _ _ _ _ _ Z=>(aL (gJ (aw F.vD (vF F) Z (aH (ag 0)))) (aL (gJ (aw F.yx (yz F) Z (aH (ag 1)))) (aK (aW (ja ku rfl F.hZ ic (aH (we (N:=["has","lacks"]) (nt:=2) (cap:=[]) rfl (tD (by kernel_rfl)) (sH (km 0 (km 1 rX))) (eQ (aw F.vq (vt F) Z (aE (ag 0) (ag 1)))) (λcl C s H ex W=>⟨(kA rfl (jA (fE (i:=0) Y rfl (Zb rfl)) (jA (fE (i:=1) Y rfl (Zb rfl)) p6))),fH,(ag 0)⟩))))))))
def yH (F:bx K mg):bq P w K mg base "most_life" (top 38) mQ 10 nK:=λ{_ _} G=>by
 have Y:(["has","lacks"]:List Str).Nodup:=by decide +kernel
 exact bt G mQ (by kernel_rfl) λX _ _ _ _ _ _ Z=>(aL (gJ (aw F.vD (vF F) Z (aH (ag 0)))) (aL (gJ (aw F.yx (yz F) Z (aH (ag 1)))) (aK (aW (ja ku rfl F.hZ ic (aH (we (N:=["has","lacks"]) (nt:=2) (cap:=[]) rfl (tD (by kernel_rfl)) (sH (km 0 (km 1 rX))) (eQ (aw F.vq (vt F) Z (aE (ag 0) (ag 1)))) (λcl C s H ex W=>⟨(kA rfl (jA (fE (i:=0) Y rfl (Zb rfl)) (jA (fE (i:=1) Y rfl (Or.inr rfl)) p6))),fH,(ja ku rfl F.hZ ic (aH (fu ["mark","lacks"] (eO rfl F.dq (aH (dC F.mv rfl))) (λ_ _ _ _ _ _=>⟨(jf (bR (lA Z) (ag 0) (ag 1) rfl)),(ag 0)⟩))))⟩))))))))
def NO (F:bx K mg):bq P w K mg base "_law_lived" (top 52) JB 2 pX:=λ{_ _} G =>
 bt G [aan,aas,"_law_there",aau,"_law_way",aaq] (by kernel_rfl) λY _ _ _ _ _ _ Z=>(aL (Im 2 3 4 rfl Y (fG (ik (iw Z) (aw F.fB (fC F) Z (aE (ag 0) aA)) aA (cz _)) (oh dA) (bW gL aA (aw F.fB (fC F) Z (aE (ag 0) aA))))) (aL (iH į rfl (eO rfl F.dq (aH aA)) (bV 5 Y) (aL (bX 2 Y (gu (BP (ag 2) (il (ik (iw Z) (aw F.fB (fC F) Z (aE (ag 0) (ag 4))) aA (cz _)))) (il (ik (lA Z) (ag 5) (ag 1) rfl)))) (aK (cO (dN (ag 2)) (aK (gJ (qu (ag 3) (ag 5)))) cX)))) (aK (aW (xf (ag 3))))))
def O9 (F:bx K mg):bq P w K mg base "_law_book" (top 53) xp 3 (wg w):=λ{_ _} G=>by
 have X:([aap,aan,"_law_often"]:List Str).Nodup:=by decide +kernel
 exact bt G [aan,aau,"_law_moulds","_law_often",aar,aas,aav,"_law_turn",aap,aaq,"_law_seen","_law_has"] (by kernel_rfl) λY _ _ _ _ _ _ Z=>(aL (om (dM (fG TK.So (bW gL aA (aw F.fB (fC F) Z (aE (ag 0) aA))) (bW gL aA (aw F.fB (fC F) Z (aE (ag 0) aA))))) (mP rfl (eI (bV 1 Y) (eI (bV 2 Y) (eI (bV 3 Y) mG))))) (aL (iH į rfl (eO rfl F.dq (aH (ag 2))) (bV 4 Y) (aL (om (dM (aE (fu [aap] (eO rfl F.dq (aH aA)) (λ_ _ _ _ _ _=>⟨fH,(oh dA)⟩)) (oh dA))) (mP rfl (eI (bV 5 Y) (eI (bV 6 Y) mG)))) (aL (iH į rfl (eO rfl F.dq (aH (aw F.fB (fC F) Z (aE (ag 0) aA)))) (bV 7 Y) (aL (om (dM (aE (aw F.fB (fC F) Z (aE (ag 0) aA)) (aw F.fB (fC F) Z (aE (ag 0) aA)))) (mP rfl (eI (bV 8 Y) (eI (bV 9 Y) mG)))) (aL (gJ (qu (bF (ag 5) (ag 8)) (ag 9))) (aK (TK.Ik rfl Z gQ (ag 1) (dM (aS kE (aS (ag 4) (aS (ag 9) (aS (ag 8) dA)))))))))) (aL (iH į rfl (eO rfl F.dq (aH aA)) (bV 8 Y) (aK (gJ (qu (ag 6) (aw F.NM (NO F) Z (aE (ag 0) (bF (ag 5) (ag 8)))))))) (aK (iH į rfl (eO rfl F.dq (aH (aw F.fB (fC F) Z (aE (ag 0) aA)))) (bV 7 Y) (aL (bX 9 Y (aw F.fB (fC F) Z (aE (ag 0) aA))) (aL (Qs 10 (N:=[aap,aan,"_law_often"]) (nt:=1) (cap:=[0,3]) Y rfl (tD (by kernel_rfl)) (nR 0) (eO rfl F.dq (aH aA)) (λcl C s H ex W=>⟨(fE (i:=0) X rfl (Zb rfl)),(jf (bR (iw Z) (aw F.fB (fC F) Z (aE (ag 1) (ag 2))) aA (cz _))),(ag 0)⟩)) (aL (bX 11 Y (ja ku rfl F.hZ ic (aH (fu [aap,aaq,aav] (eQ (ag 10)) (λ_ _ _ _ _ _=>⟨(jf (bR (jQ Z) (ag 1) (bF (ag 2) (ag 0)) rfl)),(ag 0)⟩))))) (aK (TK.Ik rfl Z gQ (ag 1) (dM (aS kE (aS (ag 4) (aS (ag 9) (aS (dM (aE (ag 11) (ja ku rfl F.hZ ic (aH (fu [aap,aaq,aav] (eQ (ag 10)) (λ_ _ _ _ _ _=>⟨(jf (bR (lA Z) (ag 1) (bF (ag 2) (ag 0)) rfl)),(ag 0)⟩)))))) dA)))))))))))))))) (aK (aW (ja ku rfl F.hZ ic (aH (dY (TK.Qz Z) rfl F.zb zp (aH (ja (TK.Qw rfl) rfl F.z9 H9 (aH (ag 1)))))))))))
def yU (F:bx K mg):bq P w K mg base "_law_within" (top 56) Bi 1 mm:=λ{_ _} G =>
 bt G Bi (by kernel_rfl) λY _ _ _ _ _ _ Z=>(aK (aW (ik (iw Z) (fu ["_law_thing",aat] (eQ (ag 0)) (λ_ _ _ _ _ _=>⟨(jf (bR (lA Z) (ag 0) (ag 1) rfl)),(ag 0)⟩)) (sY dA) (cz _))))
def Gs (F:bx K mg):bq P w K mg base "_law_days" (top 55) JC 1 sf:=λ{_ _} G =>
 bt G ["_law_told",aar,aau,"_law_one","_law_first","_law_last"] (by kernel_rfl) λZ _ _ _ _ _ _ Y=>(aL (bX 2 Z (sY dA)) (aL (iH į rfl (eQ (ag 0)) (mP rfl (eI (bV 3 Z) (eI (bV 4 Z) (eI (bV 5 Z) mG)))) (aK (cO (bR (iw Y) (ag 3) (ag 1) (cz _)) (aK (bX 2 Z (bW gL (ag 2) (O5 (aE (ag 4) (bW gL (ag 5) aA)) rfl rfl F.z9 rfl F.dq)))) cX))) (aK (aW (ag 2)))))
def SA (F:bx K mg):bq P w K mg base "law" (top 57) Uh 11 (xo w):=λ{_ _} G =>
 bt G [aao,"_law_k",aan,"_law_book_here",aar,"_law_sheet_here",aaq,"_law_lone","_law_sure","_law_ways",aav,"_law_same",aat,"_law_more_here","_law_there","_law_one","_law_two",aap,"_law_healed"] (by kernel_rfl) λY _ _ _ _ _ _ Z=>(aL (iH į rfl (eO rfl F.dq (aH (dY (HU rfl) rfl F.Iu Jl (aE aA (dY (R4 rfl) rfl F.Sy TZ (aE (dY qp rfl F.qf qw (aH (ag 0))) aA)))))) (bV 1 Y) (aL (bX 2 Y (aw F.NL (NN F) Z (aE (ag 0) (ag 1)))) (aL (Im 3 4 5 rfl Y (fG (J2 (aw F.O7 (O9 F) Z (aH (ag 2))) J1 (Je aA)) (aw F.fB (fC F) Z (aE (ag 2) aA)) (aw F.FG (FJ F) Z (aH (ag 2))))) (aL (om (dM (aE (aw F.fB (fC F) Z (aE (ag 2) aA)) (bW oo (bW gL (ag 4) aA) aA))) (mP rfl (eI (bV 6 Y) (eI (bV 7 Y) mG)))) (aL (HX 8 9 rfl Y (aE (aw F.pR (pS F) Z (fG (ag 3) (ag 4) (ag 6))) (aw F.yD (yG F) Z (aE (ag 3) (ag 5))))) (aL (bX 10 Y (dM (aE (aw F.yy (yA F) Z (aE (ag 3) (ag 4))) (aw F.yE (yH F) Z (aE (ag 3) (ag 4)))))) (aL (bX 11 Y (aw F.vY (vZ F) Z (aE (ag 3) (dM (aS kE (aS (ag 4) (aS (ag 6) (aS (ag 8) dA)))))))) (aL (cO (PW.pt (w_or (iG (dN (aw F.rF (rG F) Z (aH (ag 11))))) (oj (bR (tU Z) (dM (aE (aw F.yy (yA F) Z (aE (ag 11) (ag 4))) (aw F.yE (yH F) Z (aE (ag 11) (ag 4))))) (ag 10) (cz _))))) (aK (aW gQ)) cX) (aL (cO (bR (tU Z) (aw F.yD (yG F) Z (aE (ag 11) (ag 5))) (ag 9) (cz _)) (aK (aW gQ)) cX) (aL (bX 12 Y (aw F.vY (vZ F) Z (aE (ag 3) (dM (aS kE (aS (ag 7) (aS (ag 6) (aS (aw F.fB (fC F) Z (aE (ag 2) aA)) dA)))))))) (aL (cO (PW.pt (w_and (dN (aw F.rF (rG F) Z (aH (ag 12)))) (nX (bR (tU Z) (dM (aE (aw F.yy (yA F) Z (aE (ag 12) (ag 4))) (aw F.yE (yH F) Z (aE (ag 12) (ag 4))))) (ag 10) (cz _))))) (aK (aW gQ)) cX) (aL (bX 13 Y (aw F.vY (vZ F) Z (aE (ag 3) (dM (aS kE (aS (ag 4) (aS (ag 6) (aS (aw F.FG (FJ F) Z (aH (ag 2))) dA)))))))) (aL (cO (dN (aw F.rF (rG F) Z (aH (ag 13)))) (aL (iH į rfl (eQ (sY (aS aA (aS (ag 6) (aS (aw F.fB (fC F) Z (aE (ag 2) aA)) (aS aA dA)))))) (bV 14 Y) (aL (HX 15 16 rfl Y (aE (aw F.pR (pS F) Z (fG (ag 3) (ag 4) (ag 14))) (aw F.pR (pS F) Z (fG (ag 13) (ag 4) (ag 14))))) (aK (cO (PW.pt (w_or (iG (dN (aw F.yT (yU F) Z (aE (bF (ag 15) aA) (bF (ag 16) aA))))) (oj (iG (dN (aw F.yT (yU F) Z (aE (bF (ag 15) aA) (bF (ag 16) aA)))))))) (aK (aW gQ)) cX)))) (aK (iH į rfl (eO rfl F.dq (aH aA)) (bV 15 Y) (aK (cO (iG (dN (aw F.yT (yU F) Z (aE (aw F.Gr (Gs F) Z (aE (aw F.yD (yG F) Z (aE (ag 13) (ag 5))) (ag 15))) (aw F.Gr (Gs F) Z (aE (ag 9) (ag 15))))))) (aK (aW gQ)) cX))))) cX) (aL (bX 17 Y (aw F.fB (fC F) Z (aE (ag 2) aA))) (aL (bX 18 Y (aw F.vY (vZ F) Z (aE (ag 3) (dM (aS kE (aS (ag 4) (aS (ag 6) (aS (ag 17) dA)))))))) (aK (cO (dN (aw F.rF (rG F) Z (aH (ag 18)))) (aL (iH į rfl (eQ (fu ["_law_step",aaq] (eQ (sY (fG aA aA aA))) (λ_ _ _ _ _ _=>⟨(jf (bR (t6 Z) (bW gL (ag 1) (ag 0)) aA (cz _))),(bW gL (ag 1) (ag 0))⟩))) (bV 14 Y) (aK (cO (PW.pt (w_and (bR (jQ Z) (ag 17) (bF (aw F.pR (pS F) Z (fG (ag 18) (ag 4) (ag 14))) aA) rfl) (nX (bR (lA Z) (ag 17) (bF (aw F.pR (pS F) Z (fG (ag 3) (ag 4) (ag 14))) aA) rfl)))) (aK (aW gQ)) cX))) (aK (cO (bR (lA Z) (ag 17) (bF (aw F.pR (pS F) Z (fG (ag 18) (ag 4) (ag 6))) aA) rfl) (aK (aW gQ)) cX))) cX))))))))))))))))) (aK (aW gQ)))
end
end DI.jx
namespace DI
open PySem L2
def Wp {α:Type} (r:Res α) (Q:α->af->Prop):Prop:=∃a s,r=some (.ok a,s)/\Q a s
section
variable {α β:Type} {r:Res α} {k:α->af->Res β} {Q Q':α->af->Prop} {R:β->af->Prop} {env:Env} {s:af}
theorem Wp.ok {a:α} (h:Q a s):Wp (DI.ok a s) Q:=⟨a,s,rfl,h⟩
def Wp.mono (h:Wp r Q) (i:∀a s,Q a s->Q' a s):Wp r Q':=by
 obtain⟨a,s,e,q⟩:=h;exact⟨a,s,e,i a s q⟩
theorem Wp.aq (h:Wp r λa s=>Wp (k a s) R):Wp (DI.aq r k) R:=by
 obtain⟨a,s,e,b,Z,Y,q⟩:=h;exact⟨b,Z,by rw[e];exact Y,q⟩
theorem Wp.ne (h:Wp r Q):Wp (DI.ne r) Q:=by
 obtain⟨a,s,e,q⟩:=h;exact⟨a,s,by rw[e];rfl,q⟩
def aai (e:r=some (.ok a,s)) (h:Q a s):Wp r Q:=⟨a,s,e,h⟩
def Wp.seq {f g:aah Fl} {Q:Fl->af->Prop} (h:Wp (f env s) λfl s=>match fl with
  | .nx env=>Wp (g env s) Q
  |fl=>Q fl s):Wp (ax f g env s) Q:=by
 obtain⟨fl,Z,e,h⟩:=h;unfold ax;rw[e]
 cases fl with
 |nx env=>exact h
 |rt d=>exact⟨_,_,rfl,h⟩
 |bk e=>exact⟨_,_,rfl,h⟩
 |ct e=>exact⟨_,_,rfl,h⟩
def Wp.iQ {Q:Fl->af->Prop} (I:Nat->Env->af->Prop) (all:List D) (h0:I 0 env s)
 (step:∀i d env s,all[i]?=some d->I i env s->∃ay,g d env=some ay/\Wp (b ay s) λfl s=>match fl with
   | .nx e=>I (i+1) e s
   | .ct e=>I (i+1) e s
   | .bk e=>Q (.nx e) s
   | .rt d=>Q (.rt d) s) (fin:∀env s,I all.length env s->Q (.nx env) s):Wp (kF g b all env s) Q:=by
 have key:∀(Z:List D) (i:Nat) (env:Env) (s:af),all.drop i=Z->i<=all.length->I i env s->Wp (kF g b Z env s) Q:=by
  intro Z
  induction Z with
  |nil =>
   intro i env s Y hi h;have e:i=all.length:=by
    have:=ļ List.length Y;simp at this;omega
   subst e;exact Wp.ok (fin _ _ h)
  |cons d Z ih =>
   intro i env s Y hi h;have X:all[i]?=some d:=by
    have:=ļ (λl=>l[0]?) Y;simpa using this
   have W:all.drop (i+1)=Z:=by
    have:=ļ (List.drop 1) Y;simpa [List.drop_drop] using this
   obtain⟨ay,U,T⟩:=step i d env s X h;have V:=(Ç.mp X).1;unfold kF;rw[U];refine Wp.aq (T.mono λfl s q=>?_)
   cases fl with
   |nx e=>exact ih (i+1) e s W V q
   |ct e=>exact ih (i+1) e s W V q
   |bk e=>exact Wp.ok q
   |rt d=>exact Wp.ok q
 exact key all 0 env s rfl (ď _) h0
def wj {nt:Nat} {t:aah Bool} {Q:List D->af->Prop} (I:Nat->List D->af->Prop) (all:List D) (h0:I 0 [] s)
 (step:∀i d acc s,all[i]?=some d->I i acc s->∃env,g d (Ï nt none++caps)=some env/\Wp (t env s) λb s=>if b=true then Wp (f env s) λx s=>I (i+1) (acc++[x]) s else I (i+1) acc s)
 (fin:∀acc s,I all.length acc s->Q acc s):Wp (fR nt caps g t f all s) Q:=by
 have key:∀(Z:List D) (i:Nat) (acc:List D) (s:af),all.drop i=Z->i<=all.length->I i acc s->Wp (fR nt caps g t f Z s) λX s=>Q (acc++X) s:=by
  intro Z
  induction Z with
  |nil =>
   intro i acc s Y hi h;have e:i=all.length:=by
    have:=ļ List.length Y;simp at this;omega
   subst e;exact Wp.ok (by rw[ĸ];exact fin _ _ h)
  |cons d Z ih =>
   intro i acc s Y hi h;have W:all[i]?=some d:=by
    have:=ļ (λl=>l[0]?) Y;simpa using this
   have V:all.drop (i+1)=Z:=by
    have:=ļ (List.drop 1) Y;simpa [List.drop_drop] using this
   obtain⟨R,T,S⟩:=step i d acc s W h;have U:=(Ç.mp W).1;unfold fR;rw[T];refine Wp.aq (Wp.ne (S.mono λb s q=>?_))
   cases b with
   |true =>
    rw[é rfl] at q |-;refine Wp.aq (Wp.ne (q.mono λx s q=>?_));refine Wp.aq ((ih (i+1) (acc++[x]) s V U q).mono λX s q=>Wp.ok ?_);rw[ĕ] at q;exact q
   |false =>
    rw[ð Ö] at q |-;exact ih (i+1) acc s V U q
 have:=key all 0 [] s rfl (ď _) h0;simpa using this
end
section
variable {α β:Type} {Q:D->af->Prop} {QL:List D->af->Prop} {QB:Bool->af->Prop} {QF:Fl->af->Prop} {QO:Option Int->af->Prop} {env:Env} {s:af} {f g h:aah D} {fa:aah (List D)} {c c':aah Bool} {st cA:aah Fl} {o o':D->D->af->Res D} {u:D->af->Res D} {bf:List D->af->Res D}
def aQ {a:α} {Q:α->af->Prop}:Wp (ok a s) Q=Q a s:=propext ⟨λ⟨b,Z,e,q⟩=>by cases e;exact q,λq=>⟨a,s,rfl,q⟩⟩
def wJ {Q:α->af->Prop}:Wp (some (Except.ok a,s)) Q=Q a s:=aQ
def bp {r:Res α} {k:α->af->Res β} {R:β->af->Prop}:Wp (aq r k) R=Wp r λa s=>Wp (k a s) R:=propext ⟨λ⟨b,Z,e,q⟩=>by
 obtain⟨a,s,e1,e2⟩:=pV e;exact⟨a,s,e1,b,Z,e2,q⟩,λh=>Wp.aq h⟩
def ou {Q:α->af->Prop}:Wp (ne r) Q=Wp r Q:=propext ⟨λ⟨b,Z,e,q⟩=>⟨b,Z,zV e,q⟩,λh=>h.ne⟩
def dI {a:D} {r:Env}:Wp (aa 0 (some a::r) s) Q=Q a s:=by rw[show aa 0 (some a::r) s=ok a s from rfl,aQ]
def dJ {i:Nat} {a:Option D} {r:Env}:Wp (aa (i+1) (a::r) s) Q=Wp (aa i r s) Q:=by rw[show aa (i+1) (a::r) s=aa i r s from rfl]
def iR:Wp (eC d env s) Q=Q d s:=by rw[show eC d env s=ok d s from rfl,aQ]
def tF:Wp (e1 u f env s) Q=Wp (f env s) λx s=>Wp (u x s) Q:=by unfold e1;rw[bp]
def kI:Wp (e2 o f g env s) Q=Wp (f env s) λx s=>Wp (g env s) λy s=>Wp (o x y s) Q:=by unfold e2;simp only[bp]
def cV:Wp (ah env s) QL=QL [] s:=by unfold ah;rw[aQ]
def dX:Wp (ae f fa env s) QL=Wp (f env s) λx s=>Wp (fa env s) λxs s=>QL (x::xs) s:=by unfold ae;simp only[bp,aQ]
def tG:Wp (eB bf fa env s) Q=Wp (fa env s) λds s=>Wp (bf ds s) Q:=by unfold eB;rw[bp]
def wp_call:Wp (ar fn fa env s) Q=Wp (fa env s) λds s=>Wp (fn ds s) Q:=by unfold ar;simp only[bp,ou]
def rT {Q:α->af->Prop}:Wp (iF ds r) Q=(ds.length<=Û/\Wp r Q):=propext ⟨λ⟨b,Z,e,q⟩=>by
 unfold iF at e;split at e
 ·exact⟨by assumption,b,Z,e,q⟩
 ·(cases e),λ⟨Y,b,Z,e,q⟩=>⟨b,Z,by unfold iF;rw[é Y];exact e,q⟩⟩
def mJ:Wp (bL fa env s) Q=Wp (fa env s) λds s=>ds.length<=Û/\Q (.tup ds) s:=by unfold bL;simp only[bp,rT,aQ]
def qh:Wp (kM fa env s) Q=Wp (fa env s) λds s=>ds.length<=Û/\Q (.lst ds) s:=by unfold kM;simp only[bp,rT,aQ]
def n6:Wp (eNew fa env s) Q=Wp (fa env s) λds s=>ds.length<=Û/\Q (.ao s.length) (s++[.lst ds]):=by unfold eNew;simp only[bp,rT,aQ]
def sQ:Wp (lQ f env s) Q=Wp (f env s) λd s=>Wp (bE d s) Q:=by unfold lQ;rw[bp]
def mK:Wp (aV f env s) QB=Wp (f env s) λd s=>Wp (fJ d s) QB:=by unfold aV;rw[bp]
def nU {b:Bool}:Wp (fJ (.bl b) s) QB=QB b s:=by rw[show fJ (.bl b) s=ok b s from rfl,aQ]
def kC:Wp (cI f env s) QB=Wp (f env s) λd s=>Wp (truth d s) QB:=by unfold cI;rw[bp]
def ie {b:Bool}:Wp (truth (.bl b) s) QB=QB b s:=by rw[show truth (.bl b) s=ok b s from rfl,aQ]
def qa:Wp (gP c c' env s) QB=Wp (c env s) λb s=>if b=true then Wp (c' env s) QB else QB false s:=by
 unfold gP;rw[bp];congr 1;funext b s
 cases b<;>simp[aQ]
def qi:Wp (iU c c' env s) QB=Wp (c env s) λb s=>if b=true then QB true s else Wp (c' env s) QB:=by
 unfold iU;rw[bp];congr 1;funext b s
 cases b<;>simp[aQ]
def sg:Wp (fI c env s) QB=Wp (c env s) λb s=>QB (!b) s:=by unfold fI;simp only[bp,aQ]
def wk:Wp (eT f g env s) Q=Wp (f env s) λx s=>Wp (fJ x s) λb s=>if b=true then Wp (g env s) Q else Q (.bl false) s:=by
 unfold eT;rw[bp];congr 1;funext x s;rw[bp];congr 1;funext b s
 cases b<;>simp[aQ]
def wK:Wp (oV f g env s) Q=Wp (f env s) λx s=>Wp (fJ x s) λb s=>if b=true then Q (.bl true) s else Wp (g env s) Q:=by
 unfold oV;rw[bp];congr 1;funext x s;rw[bp];congr 1;funext b s
 cases b<;>simp[aQ]
def wo:Wp (tQ f env s) Q=Wp (f env s) λx s=>Wp (fJ x s) λb s=>Q (.bl (!b)) s:=by unfold tQ;simp only[bp,aQ]
def wL:Wp (KG c f g env s) Q=Wp (c env s) λb s=>if b=true then Wp (f env s) Q else Wp (g env s) Q:=by
 unfold KG;rw[bp];congr 1;funext b s
 cases b<;>simp
def wM:Wp (uV o o' f g h env s) Q=Wp (f env s) λx s=>Wp (g env s) λy s=>Wp (o x y s) λz s=>Wp (fJ z s) λb s=>if b=true then Wp (h env s) λu s=>Wp (o' y u s) Q else Q (.bl false) s:=by
 unfold uV;simp only[bp];congr 1;funext x s;congr 1;funext y s;congr 1;funext z s;congr 1;funext b s
 cases b<;>simp[aQ,bp]
def mz:Wp (cf env s) QF=QF (.nx env) s:=by unfold cf;rw[aQ]
def ig:Wp (aP f env s) QF=Wp (f env s) λd s=>QF (.rt d) s:=by unfold aP;simp only[bp,aQ]
def pZ:Wp (cM f env s) QF=Wp (f env s) λ_ s=>QF (.nx env) s:=by unfold cM;simp only[bp,aQ]
def v5:Wp (IZ env s) QF=QF (.ct env) s:=by unfold IZ;rw[aQ]
def pA (st:aah Fl) (Q:Fl->af->Prop):Fl->af->Prop:=λfl s=>match fl with
 | .nx env=>Wp (st env s) Q
 |fl=>Q fl s
def fQ:Wp (ax st cA env s) QF=Wp (st env s) (pA cA QF):=propext ⟨λh=>by
 unfold ax at h;rw[bp] at h;refine h.mono λZ s q=>?_
 cases Z with
 |nx e=>exact q
 |rt d=>have q:Wp (ok (Fl.rt d) s) QF:=q;rw[aQ] at q;exact q
 |bk d=>have q:Wp (ok (Fl.bk d) s) QF:=q;rw[aQ] at q;exact q
 |ct d=>have q:Wp (ok (Fl.ct d) s) QF:=q;rw[aQ] at q;exact q,λh=>Wp.seq (h.mono λZ s q=>by cases Z<;>exact q)⟩
def aak (h:∀R,R=cA->Wp (st env s) (pA R QF)):Wp (ax st cA env s) QF:=by rw[fQ];exact h _ rfl
def ff:pA st QF (.nx env) s=Wp (st env s) QF:=rfl
def mL:pA st QF (.rt d) s=QF (.rt d) s:=rfl
def wN:pA st QF (.ct env) s=QF (.ct env) s:=rfl
def jF:Wp (bS c st cA env s) QF=Wp (c env s) λb s=>if b=true then Wp (st env s) QF else Wp (cA env s) QF:=by
 unfold bS;rw[bp];congr 1;funext b s
 cases b<;>simp
def kz {gd:D->Env->Option Env}:Wp (aR f gd env s) QF=Wp (f env s) λd s=>∃e,gd d env=some e/\QF (.nx e) s:=by
 unfold aR;rw[bp];congr 1;funext d s
 cases h:gd d env with
 |none=>exact propext ⟨λ⟨_,_,e,_⟩=>(by cases e),λ⟨_,e,_⟩=>(by cases e)⟩
 |some e=>rw[aQ];exact propext ⟨λq=>⟨e,rfl,q⟩,λ⟨Z,z,q⟩=>by cases z;exact q⟩
def ow {i:Nat} {P:Env->Prop}:(∃e,gN i d env=some e/\P e)=P (env.set i (some d)):=propext ⟨λ⟨e,z,q⟩=>by cases z;exact q,λq=>⟨_,rfl,q⟩⟩
def tH {P:Env->Prop}:(∃e,gT gs (.tup ds) env=some e/\P e)=∃e,gA gs ds env=some e/\P e:=rfl
def si {P:Env->Prop}:(∃e,gA [] [] env=some e/\P e)=P env:=propext ⟨λ⟨e,z,q⟩=>by cases z;exact q,λq=>⟨_,rfl,q⟩⟩
def rV {i:Nat} {P:Env->Prop}:(∃e,gA (gN i::gs) (d::ds) env=some e/\P e)=∃e,gA gs ds (env.set i (some d))=some e/\P e:=rfl
def wq {i j:Nat}:Wp (tY i j fa env s) QF=Wp (fa env s) λds s=>∃x y,ds=[x,y]/\QF (.nx ((env.set i (some x)).set j (some y))) s:=by
 unfold tY;rw[bp];congr 1;funext ds s
 match ds with
 | [x,y] =>
  show Wp (ok (Fl.nx ((env.set i (some x)).set j (some y))) s) QF=_;rw[aQ];exact propext ⟨λq=>⟨x,y,rfl,q⟩,λ⟨Z,Y,e,q⟩=>by cases e;exact q⟩
 | []=>exact propext ⟨λ⟨_,_,e,_⟩=>(by cases e),λ⟨_,_,e,_⟩=>(by cases e)⟩
 | [_]=>exact propext ⟨λ⟨_,_,e,_⟩=>(by cases e),λ⟨_,_,e,_⟩=>(by cases e)⟩
 |_::_::_::_=>exact propext ⟨λ⟨_,_,e,_⟩=>(by cases e),λ⟨_,_,e,_⟩=>(by cases e)⟩
def wO {P:D->D->Prop}:(∃x' y',[x,y]=[x',y']/\P x' y')=P x y:=propext ⟨λ⟨_,_,e,q⟩=>by cases e;exact q,λq=>⟨x,y,rfl,q⟩⟩
def jc:Wp (eU it gd st env s) QF=Wp (it env s) λds s=>Wp (kF gd st ds env s) QF:=by unfold eU;rw[bp]
def sj {fo fi:aah D}:Wp (mU f fo fi env s) QF=Wp (f env s) λx s=>Wp (fo env s) λd s=>Wp (fi env s) λn s=>∃s',iM d n x s=some s'/\QF (.nx env) s':=by
 unfold mU;simp only[bp];congr 1;funext x s;congr 1;funext d s;congr 1;funext n s
 cases h:iM d n x s with
 |none=>exact propext ⟨λ⟨_,_,e,_⟩=>(by cases e),λ⟨_,e,_⟩=>(by cases e)⟩
 |some e=>simp only[aQ];exact propext ⟨λq=>⟨e,rfl,q⟩,λ⟨Z,z,q⟩=>by cases z;exact q⟩
def wQ:Wp (gB f g env s) Q=Wp (f env s) λd s=>iL d s=true/\Wp (g env s) λx s=>Wp (iy d x s) Q:=by
 unfold gB;rw[bp];congr 1;funext d s
 cases h:iL d s with
 |true=>rw[é rfl,bp];simp
 |false=>rw[ð Ö];exact propext ⟨λ⟨_,_,e,_⟩=>(by cases e),λ⟨e,_⟩=>(by cases e)⟩
def ug (Q:D->af->Prop):Fl->af->Prop:=λZ s=>match Z with
 | .rt d=>Q d s
 | .nx _=>Q .au s
 |_=>False
def jK:Wp (aU np ns st ds s) Q=(ds.length=np/\Wp (st (ds.map some++Ï (ns-np) none) s) (ug Q)):=by
 unfold aU;by_cases h:ds.length=np
 ·rw[é h,bp]
  refine propext ⟨λq=>⟨h,q.mono λZ s q=>?_⟩,λ⟨_,q⟩=>q.mono λZ s q=>?_⟩
  ·cases Z with
   |rt d=>exact(show Wp (ok d s) Q from q) |> λz=>by rw[aQ] at z;exact z
   |nx e=>exact(show Wp (ok D.au s) Q from q) |> λz=>by rw[aQ] at z;exact z
   |bk e=>obtain⟨_,_,e,_⟩:=q;cases e
   |ct e=>obtain⟨_,_,e,_⟩:=q;cases e
  ·cases Z with
   |rt d=>exact Wp.ok q
   |nx e=>exact Wp.ok q
   |bk e=>exact q.elim
   |ct e=>exact q.elim
 ·rw[ð h]
  exact propext ⟨λ⟨_,_,e,_⟩=>(by cases e),λ⟨e,_⟩=>absurd e h⟩
def ij:ug Q (.rt d) s=Q d s:=rfl
def wR:ug Q (.nx env) s=Q .au s:=rfl
def lB:Wp (bC nt cap it gd c f env s) Q=Wp (it env s) λds s=>ds.length<=Û/\Wp (fR nt (gv cap env) gd c f ds s) λxs s=>Q (.lst xs) s:=by
 unfold bC;simp only[bp,rT,aQ]
def xr:Wp (oY f l' h' env s) Q=Wp (f env s) λd s=>Wp (l' env s) λlo s=>Wp (h' env s) λhi s=>Wp (nZ d lo hi s) Q:=by unfold oY;simp only[bp]
def wU:Wp (oX env s) QO=QO none s:=by unfold oX;rw[aQ]
def Aa {i:Int} (hi:f env s=ok (.int i) s):Wp (oA f env s) QO=QO (some i) s:=by unfold oA;rw[hi,eM,aQ]
end
def bA (s:af) (k:Nat):Prop:=∃a b:Int,s[k]?=some (.lst [.int a,.int b])/\0<=a/\0<=b/\b<2147483647
structure Ex (k:Nat) (s s':af):Prop where
 len:s.length<=s'.length
 val:∀j,j<s.length->j≠k->s'[j]?=s[j]?
def Ex.refl (k:Nat) (s:af):Ex k s s:=⟨aal _,λ_ _ _=>rfl⟩
theorem Ex.trans (h:Ex k a b) (g:Ex k b c):Ex k a c:=⟨è h.len g.len,λj Z Y=>(g.val j (Ë Z h.len) Y).trans (h.val j Z Y)⟩
theorem Ex.set (k:Nat) (s:af) (c:Cell):Ex k s (s.set k c):=⟨by simp,λj _ Z=>Ù (ų Z)⟩
def Ex.app (k:Nat) (s:af) (c:List Cell):Ex k s (s++c):=⟨by simp,λj Z _=>Õ Z⟩
def bA.lt (h:bA s k):k<s.length:=by
 obtain⟨a,b,e,_⟩:=h;exact(Ç.mp e).1
def bA.app (h:bA s k) (c:List Cell):bA (s++c) k:=by
 obtain⟨a,b,e,r⟩:=h;exact⟨a,b,by rw[Õ (Ç.mp e).1];exact e,r⟩
theorem bA.set (h:bA s k) (hj:j≠k) (c:Cell):bA (s.set j c) k:=by
 obtain⟨a,b,e,r⟩:=h;exact⟨a,b,by rw[Ù hj];exact e,r⟩
def DA (x y:D) (k:Nat) (s:af) (h:s[k]?=some (.lst [x,y])):aI (.ao k) (.int 0) s=ok x s:=by
 simp[aI,j8,res,h,dS,fL,bB]
def DB (x y:D) (k:Nat) (s:af) (h:s[k]?=some (.lst [x,y])):aI (.ao k) (.int 1) s=ok y s:=by
 simp[aI,j8,res,h,dS,fL,bB]
def J8 (x y z:D) (k:Nat) (s:af) (h:s[k]?=some (.lst [x,y])):iM (.ao k) (.int 0) z s=some (s.set k (.lst [z,y])):=by
 simp[iM,h,fL]
def J9 (x y z:D) (k:Nat) (s:af) (h:s[k]?=some (.lst [x,y])):iM (.ao k) (.int 1) z s=some (s.set k (.lst [x,z])):=by
 simp[iM,h,fL]
@[simp] theorem qj {a:D} {r:Env} {s:af}:aa 0 (some a::r) s=ok a s:=rfl
@[simp] theorem qk {i:Nat} {a:Option D} {r:Env} {s:af}:aa (i+1) (a::r) s=aa i r s:=rfl
def ltI (i j:Int) (s:af):jm (.int i) (.int j) s=ok (.bl (decide (i<j))) s:=rfl
def DC (i j:Int) (s:af):tW (.int i) (.int j) s=ok (.bl (decide (j<i))) s:=rfl
def WN (i j:Int) (s:af):xI (.int i) (.int j) s=ok (.bl (decide (j<=i))) s:=rfl
def WO (i j:Int) (s:af):tV (.int i) (.int j) s=ok (.bl (decide (i<=j))) s:=rfl
def Ck (i j:Int) (s:af):cN (.int i) (.int j) s=ok (.int (i+j)) s:=rfl
def Ka (i j:Int) (s:af):sZ (.int i) (.int j) s=ok (.int (i-j)) s:=rfl
def K4 (i j:Int) (s:af):cP (.int i) (.int j) s=ok (.bl (i==j)) s:=rfl
def WQ (i j:Int) (s:af):iu (.int i) (.int j) s=ok (.bl (!(i==j))) s:=rfl
def oE {i j:Int} (s:af) (h:0<j):kG (.int i) (.int j) s=ok (.int (i % j)) s:=by
 simp[kG,BV,h,bB]
def Kb (s:af) (h:0<j) (h2:j<1073741824):tm (.int i) (.int j) s=ok (.int (i / j)) s:=by
 simp[tm,BW,h,h2,bB]
def uh (s:af) (h:tj i j=true):iI (.int i) (.int j) s=ok (.int (i*j)) s:=by
 simp[iI,BU,h,bB]
def mulOk_of (h1:-(2 ^ 64)<i) (h2:i<2 ^ 64):tj i j=true:=by
 unfold tj;rw[ß h1,ß h2];rfl
def fF (h:bA s k) (h1:0<m) (h2:m<1073741824):Wp (bJ [.ao k,.int m] s) λd s'=>∃r:Int,d=.int r/\0<=r/\r<m/\bA s' k/\Ex k s s':=by
 obtain⟨a,b,e,Y,U,T⟩:=h;have X:=(Ç.mp e).1;by_cases W:0<a
 ·have Z:(s.set k (.lst [.int (a / m),.int b]))[k]?=some (.lst [.int (a / m),.int b]):=ì X
  refine⟨.int (a % m),s.set k (.lst [.int (a / m),.int b]),?_,a % m,rfl,Yz _ (by omega),Ū _ h1,⟨a / m,b,Z,Int.ediv_nonneg Y (by omega),U,T⟩,Ex.set _ _ _⟩;simp only[bJ,aU,ax,bS,aV,e2,qj,qk,eC,eM,Þ,ĵ,ė,Į,DA _ _ k s e,DC,fJ,á,û,ß W,ø,aR,gN,oE s h1,mU,Kb s h1 h2,J8 _ _ _ k s e,aP,ģ,Ĥ,Ï]
 ·have S:decide (0<a)=false:=ñ W
  have ex:0<=(b*48271+29) % 2147483647/\(b*48271+29) % 2147483647<2147483647:=⟨Yz _ (by decide),Ū _ (by decide)⟩;generalize R:(b*48271+29) % 2147483647=x at ex;have Z:(s.set k (.lst [.int a,.int x]))[k]?=some (.lst [.int a,.int x]):=ì X;generalize V:(x*x+39373*x+7) % 2147483629=y;have L:0<=y/\y<2147483629:=by rw[<- V];exact⟨Yz _ (by decide),Ū _ (by decide)⟩
  generalize Q:(y*y+16807*y) % 2147483587=z;refine⟨.int (z / 8 % m),s.set k (.lst [.int a,.int x]),?_,_,rfl,Yz _ (by omega),Ū _ h1,⟨a,x,Z,Y,ex.1,ex.2⟩,Ex.set _ _ _⟩;have P:iI (.int b) (.int 48271) s=ok (.int (b*48271)) s:=uh s (mulOk_of (by omega) (by omega));have O:∀s',iI (.int x) (.int x) s'=ok (.int (x*x)) s':=λs'=>uh s' (mulOk_of (by omega) (by omega));have N:∀s',iI (.int 39373) (.int x) s'=ok (.int (39373*x)) s':=λs'=>uh s' (mulOk_of (by decide) (by decide));have m4:∀s',iI (.int y) (.int y) s'=ok (.int (y*y)) s':=λs'=>uh s' (mulOk_of (by omega) (by omega));have M:∀s',iI (.int 16807) (.int y) s'=ok (.int (16807*y)) s':=λs'=>uh s' (mulOk_of (by decide) (by decide));simp only[bJ,aU,ax,bS,aV,e2,qj,qk,eC,eM,Þ,ĵ,ė,Į,DA _ _ k s e,DB _ _ k s e,DC,fJ,á,û,S,Ã,ã,ø,cf,mU,P,Ck,oE _ (show (0:Int)<2147483647 by decide),R,J9 _ _ _ k s e,aR,gN,DB _ _ k _ Z,O,N,
   oE _ (show (0:Int)<2147483629 by decide),V,ģ,Ĥ,Ï,m4,M,oE _ (show (0:Int)<2147483587 by decide),Q,aP,Kb _ (show (0:Int)<8 by decide) (by decide),oE _ h1]
def le_size (h:n<=1000000):n<=Û:=è h (by decide)
def zy (h1:-1000000<=j) (h2:j<=1000000):jg j=true:=by
 unfold jg;rw[ß (show -(2 ^ 62)<=j by omega),ß (show j<2 ^ 62 by omega)];rfl
def Pa {α:Type} {ds:List D} {r:Res α} (h:ds.length<=1000000):iF ds r=r:=é (le_size h)
def sR {α:Type} {xs:List α} {i:Int} (h0:0<=i) (h1:i<xs.length):∃x,dS xs i=some x/\xs[i.toNat]?=some x:=by
 have Z:i.toNat<xs.length:=by omega
 refine⟨xs[i.toNat],?_,É Z⟩;unfold dS fL;rw[é h0,é h1];exact É Z
def QK {ns:List Int} {i:Int} {s:af} (h0:0<=i):∃c:Int,rA [.aZ ns,.int i] s=ok (.int c) s:=by
 by_cases h:i<(ns.length:Int)
 ·obtain⟨x,Z,_⟩:=sR h0 h
  refine⟨x,?_⟩;have Y:aI (.aZ ns) (.int i) s=ok (.int x) s:=by simp[aI,j8,res,Z,bB]
  simp only[rA,aU,ax,bS,aV,e2,eB,ae,ah,ix,xJ,res,bB,qj,qk,eC,eM,Þ,ĵ,ė,Į,á,û,ø,ltI,fJ,ß h,aP,Y,Ï]
 ·refine⟨0,?_⟩
  simp only[rA,aU,ax,bS,aV,e2,eB,ae,ah,ix,xJ,res,bB,qj,qk,eC,eM,Þ,ĵ,ė,Į,á,û,ø,ltI,fJ,ñ h,Ã,ã,cf,aP,Ï]
def Pb {ns:List Int} {i:Int} {s:af} (h0:0<=i):Wp (vU [.aZ ns,.int i] s) λd s'=>d=.ao s.length/\bA s' s.length/\∃c,s'=s++[c]:=by
 obtain⟨c,Z⟩:=QK (ns:=ns) (s:=s) h0;have Y:∀s,xg (.int 10) (.int 18) s=ok (.int (10 ^ 18)) s:=λs=>by
  have e:BX (.int 10) (.int 18)=some (.int (10 ^ 18)):=by
   show (if (decide ((0:Int)<=18)&&decide ((18:Int)<=1000000)&&decide ((10:Int).natAbs<2 ^ 64))=true then some (D.int (10 ^ (18:Int).toNat)) else none)=_
   rw[é (by decide)];rfl
  simp only[xg,e,bB]
 refine⟨.ao s.length,s++[.lst [.int (if c-10 ^ 18 > 0 then c-10 ^ 18 else 0),.int (c % 2147483647)]],?_,rfl,⟨_,_,by simp;exact⟨rfl,rfl⟩,?_,Yz _ (by decide),Ū _ (by decide)⟩,_,rfl⟩
 ·simp only[vU,aU,ax,aR,ar,ae,ah,qj,qk,eC,eM,Þ,ĵ,ė,Į,á,û,ø,Z,lJ,gN,ģ,Ĥ,Ï,aP,eNew,eB,qr,e2,Y,Ka,oE _ (show (0:Int)<2147483647 by decide)]
  rw[Pa (by simp)];rfl
 ·split<;>omega
structure cx (m:Nat) (ns:List Int):Prop where
 lo:∀x∈ns,0<=x/\x<m
 up:ns.Pairwise (· < ·)
noncomputable abbrev mD (ns:List Int):D:=.tup (ns.map D.int)
def cx.len (h:cx m ns):ns.length<=m:=by
 have key:∀(l:List Int) (b:Int),l.Pairwise (· < ·)->(∀x∈l,b<=x/\x<m)->(l.length:Int)<=m-b\/l=[]:=by
  intro l
  induction l with
  |nil=>intro b _ _;exact .inr rfl
  |cons x l ih =>
   intro b X Z;obtain⟨W,V⟩:=ÿ.mp X;have U:=Z x Î;left
   rcases ih (x+1) V (λy Y=>⟨by have:=W y Y;omega,(Z y (Ð _ Y)).2⟩) with h|h
   ·rw[á];omega
   ·subst h
    simp;omega
 rcases key ns 0 h.up h.lo with h'|h'
 ·omega
 ·subst h';simp
def NP {k n:Nat} {w:Int} (h1:bA s1 k) (w0:0<=w) (w1:w<4):Wp (fR 1 (gv [0,2] [some (.ao k),some (.int n),some (.int (1+w))]) (gN 0) (aV (e2 cP (ar bJ (ae (aa 1) (ae (e2 cN (aa 2) (eC (.int 1))) ah))) (eC (.int 0)))) (aa 0) (bc 0 n) s1)
   λxs s'=>∃ns,xs=ns.map D.int/\cx n ns/\bA s' k/\Ex k s1 s':=by
 refine wj (λi Z s'=>∃ns:List Int,Z=ns.map D.int/\cx i ns/\bA s' k/\Ex k s1 s') (bc 0 n) ⟨[],rfl,⟨by simp,.nil⟩,h1,Ex.refl _ _⟩ (λi d Z s' X W=>?_) λZ s' W=>?_
 ·obtain⟨ns,rfl,Y,S,V⟩:=W
  rw[ia] at X;split at X
  ·cases X
   refine⟨[some (.int (0+i)),some (.ao k),some (.int (1+w))],rfl,?_⟩;have R:=fF S (m:=1+w+1) (by omega) (by omega);obtain⟨d,Q,P,r,rfl,M,L,U,T⟩:=R;have O:aV (e2 cP (ar bJ (ae (aa 1) (ae (e2 cN (aa 2) (eC (.int 1))) ah))) (eC (.int 0))) [some (.int (0+(i:Int))),some (.ao k),some (.int (1+w))] s'=ok (r==0) Q:=by
    simp only[aV,e2,ar,ae,ah,qj,qk,eC,eM,Ck,P,lJ,K4,fJ]
   refine aai O ?_;split
   ·refine Wp.ok ⟨ns++[0+(i:Int)],by simp,⟨λx hx=>?_,?_⟩,U,V.trans T⟩
    ·rcases â.mp hx with hx|hx
     ·have:=Y.lo x hx;omega
     ·rw[Ø.mp hx];omega
    ·refine ZP.mpr ⟨Y.up,by simp,λx hx y N=>?_⟩
     rw[Ø.mp N];have:=Y.lo x hx;omega
   ·exact⟨ns,rfl,⟨λx hx=>by have:=Y.lo x hx;omega,Y.up⟩,U,V.trans T⟩
  ·cases X
 ·rw[fe] at W
  exact W
def fS (h:fa env s=ok [.int n] s1) (hn:n<=1000000):cb fa env s=ok (bc 0 n) s1:=by
 unfold cb;rw[h,eM]
 show (if jg (n:Int)=true then ok (bc 0 (n:Int).toNat) s1 else none)=_
 rw[é (zy (by omega) (by omega)),č]
def Ab {n:Nat} {i:Int} (h:fa env s=ok [.int i] s1) (hi:i=n) (hn:n<=1000000):cb fa env s=ok (bc 0 n) s1:=by
 subst hi;exact fS h hn
def SD (h:fa env s=ok [.int i,.int j] s1) (h1:-1000000<=i) (h2:i<=1000000) (h3:-1000000<=j) (h4:j<=1000000):x9 fa env s=ok (bc i (j-i).toNat) s1:=by
 unfold x9;rw[h,eM]
 show (if (jg i&&jg j)=true then ok (bc i (j-i).toNat) s1 else none)=_
 rw[é (by rw[zy h1 h2,zy h3 h4];rfl)]
def wV:Wp (jm (.int i) (.int j) s) Q=Q (.bl (decide (i<j))) s:=by rw[ltI,aQ]
def sS:Wp (tW (.int i) (.int j) s) Q=Q (.bl (decide (j<i))) s:=by rw[DC,aQ]
def wW:Wp (xI (.int i) (.int j) s) Q=Q (.bl (decide (j<=i))) s:=by rw[WN,aQ]
def sT:Wp (tV (.int i) (.int j) s) Q=Q (.bl (decide (i<=j))) s:=by rw[WO,aQ]
def wu:Wp (cN (.int i) (.int j) s) Q=Q (.int (i+j)) s:=by rw[Ck,aQ]
def sk:Wp (sZ (.int i) (.int j) s) Q=Q (.int (i-j)) s:=by rw[Ka,aQ]
def sU:Wp (cP (.int i) (.int j) s) Q=Q (.bl (i==j)) s:=by rw[K4,aQ]
def wX:Wp (iu (.int i) (.int j) s) Q=Q (.bl (!(i==j))) s:=by rw[WQ,aQ]
def Gu {k n:Nat} (h:bA s k) (hn:n<=8):Wp (rN [.ao k,.int n] s) λd s'=>∃ns,d=mD ns/\cx n ns/\bA s' k/\Ex k s s':=by
 unfold rN;simp only[aQ,wJ,ou,dI,dJ,iR,tF,kI,cV,dX,tG,wp_call,mJ,qh,n6,sQ,mK,nU,kC,ie,qa,qi,sg,wk,wK,wo,wL,wM,mz,ig,pZ,v5,fQ,ff,mL,wN,jF,kz,ow,tH,si,rV,wq,wO,jc,sj,wQ,jK,ij,wR,lB,xr,wU,Þ,ĵ,ė,Į,á,û,ģ,Ĥ,Ï,Zq,Nat.reduceSub,Nat.reduceAdd,wV,sS,wW,sT,wu,sk,sU,wX];refine(fF h (by decide) (by decide)).mono λd Q Z=>?_;obtain⟨w,rfl,Y,X,W,V⟩:=Z;simp only[aQ,wJ,ou,dI,dJ,iR,tF,kI,cV,dX,tG,wp_call,mJ,qh,n6,sQ,mK,nU,kC,ie,qa,qi,sg,wk,wK,wo,wL,wM,mz,ig,pZ,v5,fQ,ff,mL,wN,jF,kz,ow,tH,si,rV,wq,wO,jc,sj,wQ,jK,ij,wR,lB,xr,wU,Þ,ĵ,ė,Į,á,û,ģ,Ĥ,Ï,Zq,Nat.reduceSub,Nat.reduceAdd,wV,sS,wW,sT,wu,sk,sU,wX];refine aai (fS rfl (by omega)) ⟨by rw[fe];exact le_size (by omega),(NP W Y X).mono λP O U=>?_⟩;obtain⟨ns,rfl,T,S,R⟩:=U;exact aai rfl ⟨ns,rfl,T,S,V.trans R⟩
end DI
local macro_rules | `(tactic| simp only[VC])=>`(tactic| simp only[DI.aQ,DI.wJ,DI.ou,DI.dI,DI.dJ,DI.iR,DI.tF,DI.kI,DI.cV,DI.dX,DI.tG,DI.wp_call,DI.mJ,DI.qh,DI.n6,DI.sQ,DI.mK,DI.nU,DI.kC,DI.ie,DI.qa,DI.qi,DI.sg,DI.wk,DI.wK,DI.wo,DI.wL,DI.wM,DI.mz,DI.ig,DI.pZ,DI.v5,DI.fQ,DI.ff,DI.mL,DI.wN,DI.jF,DI.kz,DI.ow,DI.tH,DI.si,DI.rV,DI.wq,DI.wO,DI.jc,DI.sj,DI.wQ,DI.jK,DI.ij,DI.wR,DI.lB,DI.xr,DI.wU,List.map_cons,List.map_nil,List.cons_append,List.nil_append,List.length_cons,List.length_nil,List.set_cons_succ,List.set_cons_zero,List.replicate,true_and,Nat.reduceSub,Nat.reduceAdd,DI.wV,DI.sS,DI.wW,DI.sT,DI.wu,DI.sk,DI.sU,DI.wX])
local macro_rules | `(tactic| simp only[VC,$xs,*])=>`(tactic| simp only[DI.aQ,DI.wJ,DI.ou,DI.dI,DI.dJ,DI.iR,DI.tF,DI.kI,DI.cV,DI.dX,DI.tG,DI.wp_call,DI.mJ,DI.qh,DI.n6,DI.sQ,DI.mK,DI.nU,DI.kC,DI.ie,DI.qa,DI.qi,DI.sg,DI.wk,DI.wK,DI.wo,DI.wL,DI.wM,DI.mz,DI.ig,DI.pZ,DI.v5,DI.fQ,DI.ff,DI.mL,DI.wN,DI.jF,DI.kz,DI.ow,DI.tH,DI.si,DI.rV,DI.wq,DI.wO,DI.jc,DI.sj,DI.wQ,DI.jK,DI.ij,DI.wR,DI.lB,DI.xr,DI.wU,List.map_cons,List.map_nil,List.cons_append,List.nil_append,List.length_cons,List.length_nil,List.set_cons_succ,List.set_cons_zero,List.replicate,true_and,Nat.reduceSub,Nat.reduceAdd,DI.wV,DI.sS,DI.wW,DI.sT,DI.wu,DI.sk,DI.sU,DI.wX,$xs,*])
namespace DI
open PySem L2
def aaj {α:Type} {r:Res α} {d:α} {s:af} (h:Wp r λa s'=>a=d/\s'=s):r=DI.ok d s:=by
 obtain⟨a,s',e,rfl,rfl⟩:=h;exact e
def mw {f:aah D} {env:Env} {s s1:af} {ds:List D} (h:f env s=ok (.tup ds) s1):bG f env s=ok ds s1:=by
 unfold bG;rw[h];rfl
def iD (h:f env s=ok (.lst ds) s1):bG f env s=ok ds s1:=by
 unfold bG;rw[h];rfl
theorem zc:∀(ns:List Int),cJ (ns.map D.int)=true
 | []=>rfl
 |n::ns=>by simp only[Þ,cJ,lay,zc ns,Ķ]
def Hg (x:Int) (ns:List Int):((ns.map D.int).any λy=>beq y (.int x))=decide (x∈ns):=by
 induction ns with
 |nil=>simp
 |cons n ns ih =>
  simp only[Þ,List.any_cons,ih,beq];by_cases h:n=x
  ·subst h;simp
  ·have Z:¬ x=n:=λe=>h e.symm
   simp[h,Z]
def so {x:Int} {ns:List Int} {s:af}:eV (.int x) (mD ns) s=ok (.bl (decide (x∈ns))) s:=by
 have Z:qt 100 (.int x) (ns.map D.int)=true:=by simp only[qt,lay,zc,dep,Ķ,ď,Ĭ]
 have e:inD (.int x) (ns.map D.int)=some (decide (x∈ns)):=by unfold inD;rw[é Z,Hg]
 unfold eV;rw[show oq (mD ns) s=some (ns.map D.int) from rfl];simp only[e];rfl
def pO:dH (.int x) (mD ns) s=ok (.bl (!decide (x∈ns))) s:=by
 have Z:qt 100 (.int x) (ns.map D.int)=true:=by simp only[qt,lay,zc,dep,Ķ,ď,Ĭ]
 have e:inD (.int x) (ns.map D.int)=some (decide (x∈ns)):=by unfold inD;rw[é Z,Hg]
 unfold dH;rw[show oq (mD ns) s=some (ns.map D.int) from rfl];simp only[e];rfl
noncomputable def sub (a b:List Int):Bool:=a.all λx=>decide (x∈b)
def wx {α:Type} (p:α->Bool) (xs:List α) (s:af):qI [.lst (xs.map λx=>D.bl (p x))] s=ok (.bl (xs.all p)) s:=by
 have e:hU (xs.map λx=>D.bl (p x))=some (xs.map p):=by
  have:=Qn (bs:=xs.map p);rw[ĉ] at this;exact this
 show bB ((hU (xs.map λx=>D.bl (p x))).map λ(bs:List Bool)=>D.bl (bs.all id)) s=_;rw[e];show ok (D.bl ((xs.map p).all id)) s=_;rw[List.all_map];rfl
def filter_tt {α:Type} (xs:List α):xs.filter (λ_=>true)=xs:=by simp
def i9 {nt:Nat} {caps:Env} {g:D->Env->Option Env} {t:aah Bool} {f:aah D} {s:af} (p:Int->Bool) (h:Int->D) (ns:List Int) (hh:∀n∈ns,∃env,g (.int n) (Ï nt none++caps)=some env/\t env s=ok (p n) s/\(p n=true->f env s=ok (h n) s)) :
  fR nt caps g t f (ns.map D.int) s=ok ((ns.filter p).map h) s:=by
 induction ns with
 |nil=>rfl
 |cons n ns ih =>
  obtain⟨env,Y,X,W⟩:=hh n Î;have ih:=ih λV U=>hh V (Ð _ U);rw[Þ];unfold fR;rw[Y];simp only[X,lJ,eM]
  cases Z:p n with
  |true=>simp only[ø,W Z,lJ,eM,ih,ť,Z,Þ]
  |false=>simp only[Ã,ã,ih,ť,Z]
def comp_map {α:Type} (d:α->D) (p:α->Bool) (h:α->D) (xs:List α) (hh:∀x∈xs,∃env,g (d x) (Ï nt none++caps)=some env/\t env s=ok (p x) s/\(p x=true->f env s=ok (h x) s)) :
  fR nt caps g t f (xs.map d) s=ok ((xs.filter p).map h) s:=by
 induction xs with
 |nil=>rfl
 |cons n T ih =>
  obtain⟨env,Y,X,W⟩:=hh n Î;have ih:=ih λV U=>hh V (Ð _ U);rw[Þ];unfold fR;rw[Y];simp only[X,lJ,eM]
  cases Z:p n with
  |true=>simp only[ø,W Z,lJ,eM,ih,ť,Z,Þ]
  |false=>simp only[Ã,ã,ih,ť,Z]
def NQ:yM [.int i] s=ok (.bl (decide (0<=i))) s:=by
 rfl
def pT:pN [.int i,.int m] s=ok (.bl (decide (0<=i)&&decide (i<m))) s:=by
 refine aaj ?_;unfold pN;simp only[VC,NQ];by_cases h:0<=i
 ·simp[h]
 ·simp[h]
def Hh:rH [.int i] s=ok (.bl (decide (0<=i)&&decide (i<8))) s:=by
 refine aaj ?_;unfold rH;simp only[VC,pT,Zq]
def Gv (xs:List D):cutD xs (some 1) none=xs.drop 1:=by
 unfold cutD HT.aN
 cases xs with
 |nil=>simp
 |cons x xs =>
  simp only[á]
  have e:(if (1:Int)<0 then (1+((xs.length+1:Nat):Int)).toNat else min (1:Int).toNat (xs.length+1))=1:=by simp
  simp
noncomputable def rise:List Int->Bool
 | []=>true
 | [_]=>true
 |a::b::r=>decide (a<b)&&rise (b::r)
def QM (h:ns.Pairwise (· < ·)):rise ns=true:=by
 induction ns with
 |nil=>rfl
 |cons a ns ih =>
  cases ns with
  |nil=>rfl
  |cons b r =>
   obtain⟨Z,Y⟩:=ÿ.mp h;simp only[rise,ih Y,Bool.and_true];exact ß (Z b Î)
theorem Gw:∀(ns:List Int),((ns.zip (ns.drop 1)).all λp=>decide (p.1<p.2))=rise ns
 | []=>rfl
 | [_]=>rfl
 |a::b::r=>by
  have ih:=Gw (b::r);simp only[List.drop_succ_cons,List.drop_zero,ķ,List.all_cons,rise] at ih |-;rw[ih]
def NR (xs ys:List Int):ip (xs.map D.int) (ys.map D.int)=(xs.zip ys).map λp=>D.tup [.int p.1,.int p.2]:=by
 unfold ip;rw[List.zip_map,ĉ];rfl
def Gx (h:fa env s=ok [.tup xs,.tup ys] s1):qF fa env s=ok (ip xs ys) s1:=by
 unfold qF;rw[h];rfl
def NS (hl:ns.length<=1000000):nJ [mD ns] s=ok (.bl (rise ns)) s:=by
 refine aaj ?_;unfold nJ;simp only[VC];have Z:qF (ae (aa 0) (ae (oY (aa 0) (oA (eC (.int 1))) oX) ah)) [some (mD ns)] s=ok (ip (ns.map D.int) ((ns.drop 1).map D.int)) s:=by
  refine Gx (aaj ?_);simp only[VC];rw[Aa (i:=1) rfl]
  try simp only[VC]
  refine aai (show nZ (mD ns) (some 1) none s=ok (.tup (cutD (ns.map D.int) (some 1) none)) s from rfl) ⟨?_,rfl⟩;rw[Gv,List.map_drop]
 refine aai Z ⟨le_size (by rw[zj];simp only[Ä];omega),?_⟩;rw[NR];refine aai (comp_map (λp:Int×Int=>D.tup [.int p.1,.int p.2]) (λ_=>true) (λp=>.bl (decide (p.1<p.2))) _ λp _=>⟨[some (.int p.1),some (.int p.2)],rfl,rfl,λ_=>rfl⟩) ?_;rw[filter_tt];exact aai (wx _ _ _) ⟨by rw[Gw],rfl⟩
structure X1 (rs:List (List Int)):Prop where
 lo:1<=rs.length
 hi:rs.length<=10
 yk:∀r∈rs,cx 8 r
def getD_some {α:Type} {xs:List α} {i:Nat} {d:α} (h:i<xs.length):xs[i]?=some (xs.getD i d):=by
 rw[Ċ,É h];rfl
def Hi (lo:Int) (n:Nat):bc lo n=(Ó n).map λi:Nat=>D.int (lo+i):=rfl
def SE (rs:List (List Int)) (laid:List Int) (m:Int):Bool:=((Ó laid.length).filter λi=>laid.getD i 0==m).all λi=>sub (rs.getD i []) (rs.getD laid.length [])
def ql {α:Type} (d:α->D) (p:α->Bool) (h:α->List D) (xs:List α) (hh:∀x∈xs,∃env,g (d x) lP=some env/\t env s=ok (p x) s/\(p x=true->act env s=ok (h x) s)) :
  gU g t act lP (xs.map d) s=ok ((xs.filter p).flatMap h) s:=by
 induction xs with
 |nil=>rfl
 |cons n T ih =>
  obtain⟨env,Y,X,W⟩:=hh n Î;have ih:=ih λV U=>hh V (Ð _ U);rw[Þ];unfold gU;rw[Y];simp only[X,lJ,eM]
  cases Z:p n with
  |true=>simp only[ø,W Z,lJ,eM,ih,ť,Z,List.flatMap_cons]
  |false=>simp only[Ã,ã,ih,ť,Z]
def zz :
  Wp (sJ nt cap it gd c act env s) Q=Wp (it env s) λds s=>Wp (gU gd c act (Ï nt none++gv cap env) ds s) λxs s=>xs.length<=Û/\Q (.lst xs) s:=by
 unfold sJ;simp only[bp,ou,rT,aQ]
def step (rs:List (List Int)) (told:List (List Int)):List (List Int):=told.flatMap λlaid=>([0,1].filter λm=>SE rs laid m).map λm=>laid++[m]
def fK (h:a.length+b.length<=1000000):cN (mD a) (mD b) s=ok (mD (a++b)) s:=by
 have e:kN (mD a) (mD b)=some (mD (a++b)):=by
  show (if lR (a.map D.int) (b.map D.int)=true then some (D.tup (a.map D.int++b.map D.int)) else none)=_
  have Z:lR (a.map D.int) (b.map D.int)=true:=by
   unfold lR;rw[Ä,Ä];exact ß (le_size h)
  rw[é Z];show some (D.tup (a.map D.int++b.map D.int))=some (D.tup ((a++b).map D.int));rw[ü]
 show bB (kN (mD a) (mD b)) s=_;rw[e];rfl
open TK
noncomputable def markB (i:Int):Bool:=decide (0<=i)&&decide (i<8)
noncomputable def gr (i:Int):Bool:=decide (0<=i)&&decide (i<4)
noncomputable def gW (i:Int):Bool:=decide (0<=i)&&decide (i<31)
def jd (ns:List Int):Bool:=ns.all markB&&rise ns
noncomputable def jG (a b:List Int):Bool:=!(a.any λx=>decide (x∈b))
def cw:Pg->Bool
 | .made m d h l=>gr m&&gW d&&(jd h&&(jd l&&jG h l))
 | .aO m d k=>gr m&&gW d&&markB k
def iS:Pg->Prop
 | .made _ _ h l=>h.length<=1000/\l.length<=1000
 | .aO _ _ _=>True
def Pc:hU (bs.map D.bl)=some bs:=by
 induction bs with
 |nil=>rfl
 |cons b bs ih=>simp only[Þ,hU,ih];rfl
def Gy {α:Type} (p:α->Bool) (xs:List α) (s:af):qJ [.lst (xs.map λx=>D.bl (p x))] s=ok (.bl (xs.any p)) s:=by
 have e:hU (xs.map λx=>D.bl (p x))=some (xs.map p):=by
  have:=Pc (bs:=xs.map p);rw[ĉ] at this;exact this
 simp only[qJ,res,e,bB,ŷ,List.any_map,ż,id]
def Gz (hl:ns.length<=1000):rq [mD ns] s=ok (.bl (jd ns)) s:=by
 refine aaj ?_;unfold rq;simp only[VC];refine aai (show jl [mD ns,.ty "tuple"] s=ok (.bl true) s from rfl) ?_;simp only[VC,ø];refine aai (mw rfl) ⟨le_size (by rw[Ä];omega),?_⟩;refine aai (i9 (λ_=>true) (λx=>.bl (markB x)) ns λn _=>⟨[some (.int n)],rfl,rfl,λ_=>?_⟩) ?_
 ·refine aaj ?_
  simp only[VC,Hh,markB,Zq]
 ·rw[filter_tt]
  refine aai (wx _ _ _) ?_;simp only[VC];unfold jd
  cases e:ns.all markB with
  |true =>
   simp only[ø,Ā];exact aai (NS (by omega)) ⟨rfl,rfl⟩
  |false=>simp
def zA (ha:a.length<=1000):pK [mD a,mD b] s=ok (.bl (jG a b)) s:=by
 refine aaj ?_;unfold pK;simp only[VC];refine aai (mw rfl) ⟨le_size (by rw[Ä];omega),?_⟩;refine aai (i9 (λ_=>true) (λx=>.bl (decide (x∈b))) a λn _=>⟨[some (.int n),some (mD b)],rfl,rfl,λ_=>?_⟩) ?_
 ·refine aaj ?_
  simp only[VC,so,Zq]
 ·rw[filter_tt]
  refine aai (Gy _ _ _) ?_;simp only[VC];exact⟨rfl,trivial⟩
def GA (h1:h.length<=1000) (h2:l.length<=1000):rB [.tup [mD h,mD l]] s=ok (.bl (jd h&&(jd l&&jG h l))) s:=by
 refine aaj ?_;unfold rB;simp only[VC];refine aai (show jl [.tup [mD h,mD l],.ty "tuple"] s=ok (.bl true) s from rfl) ?_;simp only[VC,ï,Ã,ã];refine aai (show ix [.tup [mD h,mD l]] s=ok (.int 2) s from rfl) ?_;simp only[VC];simp only[VC,Ĝ,ï,Ã,ã];refine aai (Gz h1) ?_;simp only[VC]
 cases jd h with
 |false=>simp
 |true =>
  simp only[ø,Ā];refine aai (Gz h2) ?_;simp only[VC]
  cases jd l with
  |false=>simp
  |true =>
   simp only[ø,Ā];exact aai (zA h1) ⟨rfl,rfl⟩
def v7:rD [.int i] s=ok (.bl (gr i)) s:=by
 refine aaj ?_;unfold rD;simp only[VC,pT,gr,Ħ]
def AN:rQ [.int i] s=ok (.bl (gW i)) s:=by
 refine aaj ?_;unfold rQ;simp only[VC,pT,gW,Ħ]
def ma:cP (.str x) (.str y) s=ok (.bl (decide (x=y))) s:=by
 show ok (D.bl (x==y)) s=_
 by_cases e:x=y<;>simp[e]
def QN:¬ (ē "made"=ē "mended"):=by decide +kernel
def Ad:¬ (ē "mended"=ē "made"):=by decide +kernel
def QP (hf:iS p):vL [p.d] s=ok (.bl (cw p)) s:=by
 refine aaj ?_;unfold vL;have key:∀(a b c d:D),p.d=.tup [a,b,c,d]->jl [p.d,.ty "tuple"] s=ok (.bl true) s/\ix [p.d] s=ok (.int 4) s:=λa b c d e=>by rw[e];exact⟨rfl,rfl⟩
 cases p with
 |made m d h l =>
  obtain⟨Z,Y⟩:=key _ _ _ _ rfl;simp only[VC];refine aai Z ?_;simp only[VC,ï,Ã,ã];refine aai Y ?_;simp only[VC];simp only[VC,Ĝ,ï,Ã,ã,Pg.d];refine aai v7 ?_;simp only[VC,cw]
  cases gr m with
  |false=>simp[mL,ij,ig,iR]
  |true =>
   simp only[ï,Ã,ã,Ā];refine aai AN ?_;simp only[VC]
   cases gW d with
   |false=>simp[mL,ij,ig,iR]
   |true =>
    simp only[VC,ï,Ã,ã,Ā];refine aai ma ?_;simp only[VC,Ĭ,ø];exact aai (GA hf.1 hf.2) ⟨rfl,rfl⟩
 |aO m d k =>
  obtain⟨Z,Y⟩:=key _ _ _ _ rfl;simp only[VC];refine aai Z ?_;simp only[VC,ï,Ã,ã];refine aai Y ?_;simp only[VC];simp only[VC,Ĝ,ï,Ã,ã,Pg.d];refine aai v7 ?_;simp only[VC,cw]
  cases gr m with
  |false=>simp[mL,ij,ig,iR]
  |true =>
   simp only[ï,Ã,ã,Ā];refine aai AN ?_;simp only[VC]
   cases gW d with
   |false=>simp[mL,ij,ig,iR]
   |true =>
    simp only[VC,ï,Ã,ã,Ā];refine aai ma ?_;simp only[VC,ñ Ad,Ã,ã];refine aai ma ?_;simp only[VC,Ĭ,ø];exact aai Hh ⟨rfl,rfl⟩
abbrev bD (ps:List Pg):D:=.tup (ps.map Pg.d)
def SF:jm p.d q.d s=ok (.bl (cu.lt p q)) s:=by
 unfold jm;rw[é (by rw[mI _ (jh p),mI _ (jh q)];simp only[Ķ,Ā,Å];have:=wG p;omega),Jt];rfl
noncomputable def tI (ps:List Pg):Bool:=(ps.zip (ps.drop 1)).all λp=>cu.lt p.1 p.2
def Pd (xs ys:List Pg):ip (xs.map Pg.d) (ys.map Pg.d)=(xs.zip ys).map λp=>D.tup [p.1.d,p.2.d]:=by
 unfold ip;rw[List.zip_map,ĉ];rfl
def MV (hl:ps.length<=1000):nJ [bD ps] s=ok (.bl (tI ps)) s:=by
 refine aaj ?_;unfold nJ;simp only[VC];have Z:qF (ae (aa 0) (ae (oY (aa 0) (oA (eC (.int 1))) oX) ah)) [some (bD ps)] s=ok (ip (ps.map Pg.d) ((ps.drop 1).map Pg.d)) s:=by
  refine Gx (aaj ?_);simp only[VC];rw[Aa (i:=1) rfl]
  try simp only[VC]
  refine aai (show nZ (bD ps) (some 1) none s=ok (.tup (cutD (ps.map Pg.d) (some 1) none)) s from rfl) ⟨?_,rfl⟩;rw[Gv,List.map_drop]
 refine aai Z ⟨le_size (by rw[zj];simp only[Ä];omega),?_⟩;rw[Pd];refine aai (comp_map (λp:Pg×Pg=>D.tup [p.1.d,p.2.d]) (λ_=>true) (λp=>.bl (cu.lt p.1 p.2)) _ λp _=>⟨[some p.1.d,some p.2.d],rfl,rfl,λ_=>?_⟩) ?_
 ·refine aaj ?_
  simp only[VC,SF,Ħ]
 rw[filter_tt];exact aai (wx _ _ _) ⟨rfl,rfl⟩
def gM (ps:List Pg):Bool:=decide (ps.length<=24)&&(ps.all cw&&tI ps)
def QQ (hl:ps.length<=1000) (hf:∀p∈ps,iS p):vJ [bD ps] s=ok (.bl (gM ps)) s:=by
 refine aaj ?_;unfold vJ gM;simp only[VC];refine aai (show jl [bD ps,.ty "tuple"] s=ok (.bl true) s from rfl) ?_;simp only[VC,ø];refine aai (show ix [bD ps] s=ok (.int ps.length) s from by show ok (D.int (ps.map Pg.d).length) s=_;rw[Ä]) ?_;simp only[VC];by_cases h:ps.length<=24
 ·have Z:(ps.length:Int)<=24:=by omega
  simp only[h,Z,Ĭ,ø,Ā];refine aai (mw rfl) ⟨le_size (by rw[Ä];omega),?_⟩;refine aai (comp_map Pg.d (λ_=>true) (λp=>.bl (cw p)) ps λp Y=>⟨[some p.d],rfl,rfl,λ_=>?_⟩) ?_
  ·refine aaj ?_
   simp only[VC,QP (hf p Y),Ħ]
  ·rw[filter_tt]
   refine aai (wx _ _ _) ?_;simp only[VC]
   cases ps.all cw with
   |false=>simp
   |true =>
    simp only[ø,Ā];exact aai (MV hl) ⟨rfl,rfl⟩
 ·have Z:¬ (ps.length:Int)<=24:=by omega
  simp[h,Z]
noncomputable def _root_.TK.Pg.day:Pg->Int
 | .made _ d _ _=>d
 | .aO _ d _=>d
noncomputable def mf (m k:Int):Pg->Bool
 | .made Z _ h _=>decide (Z=m)&&decide (k∈h)
 |_=>false
noncomputable def nC (m k:Int):Pg->Bool
 | .made Z _ _ l=>decide (Z=m)&&decide (k∈l)
 |_=>false
noncomputable def kc (m k:Int):Pg->Bool
 | .aO Z _ Y=>decide (Z=m)&&decide (Y=k)
 |_=>false
def shown (ps:List Pg) (m k:Int):List Int:=(ps.filter (mf m k)).map Pg.day
def cW (ps:List Pg) (m k:Int):List Int:=(ps.filter (nC m k)).map Pg.day
def cj (ps:List Pg) (m k:Int):List Int:=(ps.filter (kc m k)).map Pg.day
noncomputable abbrev lI (ns:List Int):D:=.lst (ns.map D.int)
def jy (a b c d:D) (s:af):aI (.tup [a,b,c,d]) (.int 0) s=ok a s/\aI (.tup [a,b,c,d]) (.int 1) s=ok b s/\aI (.tup [a,b,c,d]) (.int 2) s=ok c s/\aI (.tup [a,b,c,d]) (.int 3) s=ok d s:=⟨rfl,rfl,rfl,rfl⟩
def i5 (a b:D) (s:af):aI (.tup [a,b]) (.int 0) s=ok a s/\aI (.tup [a,b]) (.int 1) s=ok b s:=⟨rfl,rfl⟩
def DD (p:Pg) (s:af):aI p.d (.int 1) s=ok (.int (match p with | .made m _ _ _=>m | .aO m _ _=>m)) s/\aI p.d (.int 2) s=ok (.int p.day) s:=by cases p<;>exact⟨rfl,rfl⟩
def wy (hl:ps.length<=1000):kj [bD ps,.int m,.int k,.int 0] s=ok (lI (shown ps m k)) s/\kj [bD ps,.int m,.int k,.int 1] s=ok (lI (cW ps m k)) s:=by
 constructor
 ·refine aaj ?_
  unfold kj;simp only[VC];refine aai (mw rfl) ⟨le_size (by rw[Ä];omega),?_⟩;refine aai (comp_map Pg.d (mf m k) (λp=>.int p.day) ps λp Y=>⟨[some p.d,some (.int m),some (.int k),some (.int 0)],rfl,?_,λ_=>?_⟩) ?_
  ·refine aaj ?_
   cases p with
   |made Z d h l =>
    simp only[VC,Pg.d];rw[(jy _ _ _ _ s).1];simp only[VC,ma,Ĭ,ø];rw[(jy _ _ _ _ s).2.1];simp only[VC,mf];by_cases e:Z=m
    ·simp only[e,Ĝ,ø,Ĭ,Ā]
     rw[(jy _ _ _ _ s).2.2.2];simp only[VC];rw[(i5 _ _ s).1];simp only[VC];refine aai (so (ns:=h)) ?_;simp only[VC,Ħ]
    ·simp[e]
   |aO Z d X =>
    simp only[VC,Pg.d];rw[(jy _ _ _ _ s).1];simp only[VC,ma,ñ Ad,Ã,ã,mf,Ħ]
  ·refine aaj ?_
   simp only[VC,(DD p s).2,Ħ]
  ·simp only[shown,lI,ĉ,ż,Ħ]
 ·refine aaj ?_
  unfold kj;simp only[VC];refine aai (mw rfl) ⟨le_size (by rw[Ä];omega),?_⟩;refine aai (comp_map Pg.d (nC m k) (λp=>.int p.day) ps λp Y=>⟨[some p.d,some (.int m),some (.int k),some (.int 1)],rfl,?_,λ_=>?_⟩) ?_
  ·refine aaj ?_
   cases p with
   |made Z d h l =>
    simp only[VC,Pg.d];rw[(jy _ _ _ _ s).1];simp only[VC,ma,Ĭ,ø];rw[(jy _ _ _ _ s).2.1];simp only[VC,nC];by_cases e:Z=m
    ·simp only[e,Ĝ,ø,Ĭ,Ā]
     rw[(jy _ _ _ _ s).2.2.2];simp only[VC];rw[(i5 _ _ s).2];simp only[VC];refine aai (so (ns:=l)) ?_;simp only[VC,Ħ]
    ·simp[e]
   |aO Z d X =>
    simp only[VC,Pg.d];rw[(jy _ _ _ _ s).1];simp only[VC,ma,ñ Ad,Ã,ã,nC,Ħ]
  ·refine aaj ?_
   simp only[VC,(DD p s).2,Ħ]
  ·simp only[cW,lI,ĉ,ż,Ħ]
def Ae (hl:ps.length<=1000):pH [bD ps,.int m,.int k] s=ok (lI (cj ps m k)) s:=by
 refine aaj ?_;unfold pH;simp only[VC];refine aai (mw rfl) ⟨le_size (by rw[Ä];omega),?_⟩;refine aai (comp_map Pg.d (kc m k) (λp=>.int p.day) ps λp X=>⟨[some p.d,some (.int m),some (.int k)],rfl,?_,λ_=>?_⟩) ?_
 ·refine aaj ?_
  cases p with
  |aO Z d Y =>
   simp only[VC,Pg.d];rw[(jy _ _ _ _ s).1];simp only[VC,ma,Ĭ,ø];rw[(jy _ _ _ _ s).2.1];simp only[VC,kc];by_cases e:Z=m
   ·simp only[e,Ĝ,ø,Ĭ,Ā]
    rw[(jy _ _ _ _ s).2.2.2];simp only[VC]
    by_cases e:Y=k<;>simp[e]
   ·simp[e]
  |made Z d h l =>
   simp only[VC,Pg.d];rw[(jy _ _ _ _ s).1];simp only[VC,ma,ñ QN,Ã,ã,kc,Ħ]
 ·refine aaj ?_
  simp only[VC,(DD p s).2,Ħ]
 ·simp only[cj,lI,ĉ,ż,Ħ]
def mM (h:n<=1000):n<=Û:=le_size (by omega)
def qz:eV (.int x) (lI ns) s=ok (.bl (decide (x∈ns))) s:=by
 show eV (.int x) (mD ns) s=_;exact so
def nN:dH (.int x) (lI ns) s=ok (.bl (!decide (x∈ns))) s:=by
 show dH (.int x) (mD ns) s=_;exact pO
noncomputable def xO (ds:List Int) (a b:Int):Bool:=ds.any λx=>decide (a<x)&&decide (x<=b)
def NT (hl:ds.length<=1000):vj [lI ds,.int a,.int b] s=ok (.bl (xO ds a b)) s:=by
 refine aaj ?_;unfold vj;simp only[VC];refine aai (iD rfl) ⟨mM (by rw[Ä];omega),?_⟩;refine aai (i9 (λ_=>true) (λx=>.bl (decide (a<x)&&decide (x<=b))) ds λn _=>⟨[some (.int n),some (.int a),some (.int b)],rfl,rfl,λ_=>?_⟩) ?_
 ·refine aaj ?_
  simp only[VC]
  by_cases e:a<n<;>simp[e,aQ,sT,dJ,dI]
 ·rw[filter_tt]
  exact aai (Gy _ _ _) ⟨rfl,rfl⟩
def nD (ps:List Pg) (m k d l:Int):Bool:=(decide (l∈cW ps m k)||(decide (l=d)&&decide (d∈cj ps m k)))&&!xO (cj ps m k) d l
noncomputable def n9 (d:Int):List Int:=(Ó (31-d).toNat).map λi:Nat=>d+(i:Int)
def kD (ps:List Pg) (m k:Int):List (Int×Int):=(fg (shown ps m k)).flatMap λd=>((n9 d).filter (nD ps m k d)).map λl=>(d,l)
def v8 {ps:List Pg} {f:Pg->Bool}:((ps.filter f).map Pg.day).length<=ps.length:=by rw[Ä];exact ū _ _
theorem nO {α β:Type} {f:α->List β} {b:Nat}:∀{l:List α},(∀x∈l,(f x).length<=b)->(l.flatMap f).length<=l.length*b
 | [],_=>by simp
 |x::l,h=>by
  rw[List.flatMap_cons,í,á,Nat.succ_mul];have Y:=h x Î;have X:=nO (l:=l) λy Z=>h y (Ð _ Z);omega
def E3 (d:Int) (h:0<=d):(n9 d).length<=31:=by unfold n9;rw[Ä,Ŀ];omega
structure oF (ps:List Pg):Prop where
 len:ps.length<=24
 lo:∀p∈ps,0<=p.day/\p.day<31
def oF.of (h:oF ps) (hx:x∈(ps.filter f).map Pg.day):0<=x/\x<31:=by
 obtain⟨p,Z,rfl⟩:=å.mp hx;exact h.lo p (ê.mp Z).1
def MW {ps:List Pg} {m k:Int} {s:af} (h:oF ps):rJ [bD ps,.int m,.int k] s=ok (.lst ((kD ps m k).map λp=>D.tup [.int p.1,.int p.2])) s:=by
 have Y:=h.len;have S:(shown ps m k).length<=24:=è v8 Y;have R:(cW ps m k).length<=24:=è v8 Y;have Q:(cj ps m k).length<=24:=è v8 Y;refine aaj ?_;unfold rJ;simp only[VC];refine aai (wy (by omega)).2 ?_;refine aai (Ae (by omega)) ?_;rw[zz];have hs:bG (e1 pU (ar kj (ae (aa 0) (ae (aa 1) (ae (aa 2) (ae (eC (.int (0))) ah)))))) [some (bD ps),some (.int m),some (.int k),some (lI (cW ps m k)),some (lI (cj ps m k))] s=ok ((fg (shown ps m k)).map D.int) s:=by
  refine iD (aaj ?_);simp only[VC];refine aai (wy (by omega)).1 ?_;refine aai (show pU (lI (shown ps m k)) s=ok (lI (fg (shown ps m k))) s from ?_) ⟨rfl,rfl⟩;unfold pU;simp only[Nw];rw[é (by have:=yY (shown ps m k);rw[Å];omega)]
 refine aai hs ?_;have day:∀d∈fg (shown ps m k),0<=d/\d<31:=λd Z=>h.of (nM.mp Z);refine aai (ql D.int (λ_=>true) (λd=>((n9 d).filter (nD ps m k d)).map λl=>D.tup [.int d,.int l]) _ λd Z=>⟨[some (.int d),none,some (lI (cW ps m k)),some (lI (cj ps m k))],rfl,rfl,λ_=>?_⟩) ?_
 ·have Z:=day d Z
  unfold more;rw[SD (i:=d) (j:=31) rfl (by omega) (by omega) (by omega) (by omega),eM];have T:bc d (31-d).toNat=(n9 d).map D.int:=by unfold n9;rw[Hi,ĉ];rfl
  rw[T];rw[ql D.int (nD ps m k d) (λl=>[D.tup [.int d,.int l]]) (n9 d) λl Y=>⟨[some (.int d),some (.int l),some (lI (cW ps m k)),some (lI (cj ps m k))],rfl,?_,λ_=>?_⟩]
  ·rw[<- Z5]
  ·refine aaj ?_
   simp only[VC,qz];unfold nD;have X:=NT (ds:=cj ps m k) (a:=d) (b:=l) (s:=s) (by omega);by_cases W:l∈cW ps m k
   ·simp only[VC,W,Ĭ,ø,Bool.true_or,Ā]
    exact aai X (by simp only[VC,Ħ])
   ·simp only[W,decide_false,Ã,ã,Bool.false_or]
    by_cases V:l=d
    ·subst V
     simp only[VC,Ĝ,ø,Ĭ,Ā];by_cases U:l∈cj ps m k
     ·simp only[U,Ĭ,ø,Ā]
      exact aai X (by simp only[VC,Ħ])
     ·simp[U]
    ·simp[V]
  ·refine aaj ?_
   unfold emit;rw[bp];simp only[VC];exact⟨by decide,trivial⟩
 ·rw[filter_tt]
  refine⟨?_,?_,rfl⟩
  ·refine mM (è (nO (b:=31) λd Z=>?_) ?_)
   ·rw[Ä]
    exact è (ū _ _) (E3 d (day d Z).1)
   ·have:=yY (shown ps m k)
    have:(fg (shown ps m k)).length<=24:=by omega
    omega
  ·unfold kD
   simp only[List.map_flatMap,ĉ,ż]
noncomputable def m4:List Int:=(Ó 4).map λi:Nat=>(i:Int)
noncomputable def k8:List Int:=(Ó 8).map λi:Nat=>(i:Int)
def lF (ps:List Pg):List (Int×Int×Int×Int):=m4.flatMap λm=>k8.flatMap λk=>(kD ps m k).map λp=>(m,k,p.1,p.2)
noncomputable def fD (p:Int×Int×Int×Int):D:=.tup [.int p.1,.int p.2.1,.int p.2.2.1,.int p.2.2.2]
def NU {ps:List Pg} (h:oF ps) (m k:Int):(kD ps m k).length<=744:=by
 have Y:(shown ps m k).length<=24:=è v8 h.len;have:=yY (shown ps m k);refine è (nO (b:=31) λd Z=>?_) (by omega);rw[Ä];exact è (ū _ _) (E3 d (h.of (nM.mp Z)).1)
def NV {ps:List Pg} {s:af} (h:oF ps):vH [bD ps] s=ok (.lst ((lF ps).map fD)) s:=by
 refine aaj ?_;unfold vH;simp only[jK,ig,ij,Þ,ĵ,ė,Į,á,û,Ï,Zq,Nat.reduceSub,Nat.reduceAdd];rw[zz];refine aai (fS (n:=4) rfl (by decide)) ?_;have Z:bc 0 4=m4.map D.int:=rfl;have Y:bc 0 8=k8.map D.int:=rfl;rw[Z];refine aai (ql D.int (λ_=>true) (λm=>k8.flatMap λk=>(kD ps m k).map λp=>fD (m,k,p.1,p.2)) m4 λm X=>⟨[some (.int m),none,none,none,some (bD ps)],rfl,rfl,λ_=>?_⟩) ?_
 ·unfold more
  rw[fS (n:=8) rfl (by decide),eM,Y];rw[ql D.int (λ_=>true) (λk=>(kD ps m k).map λp=>fD (m,k,p.1,p.2)) k8 λk W=>⟨[some (.int m),some (.int k),none,none,some (bD ps)],rfl,rfl,λ_=>?_⟩]
  ·rw[filter_tt]
  ·have hi:bG (ar rJ (ae (aa 4) (ae (aa 0) (ae (aa 1) ah)))) [some (.int m),some (.int k),none,none,some (bD ps)] s=ok ((kD ps m k).map λp=>D.tup [.int p.1,.int p.2]) s:=by
    refine iD (aaj ?_);simp only[VC];exact aai (MW h) ⟨rfl,rfl⟩
   rw[hi,eM];rw[ql (λp:Int×Int=>D.tup [.int p.1,.int p.2]) (λ_=>true) (λp=>[fD (m,k,p.1,p.2)]) (kD ps m k) λp V=>⟨[some (.int m),some (.int k),some (.int p.1),some (.int p.2),some (bD ps)],rfl,rfl,λ_=>?_⟩]
   ·rw[filter_tt,<- Z5]
   ·refine aaj ?_
    unfold emit;rw[bp];simp only[VC];exact⟨by decide,rfl,trivial⟩
 ·rw[filter_tt]
  refine⟨?_,?_,rfl⟩
  ·refine le_size (è (nO (b:=8*744) λm X=>?_) (by decide))
   refine è (nO (b:=744) λk W=>?_) (by decide);rw[Ä];exact NU h m k
  ·unfold lF
   simp only[List.map_flatMap,ĉ,ż]
def cG (ps:List Pg):Bool:=gM ps&&(lF ps).isEmpty
def zd (h:gM ps=true):oF ps:=by
 unfold gM at h;simp only[È,Å,ë] at h;refine⟨h.1,λp Z=>?_⟩;have:=h.2.1 p Z
 cases p<;>simp only[cw,gW,È,Å] at this<;>exact this.1.2
def Af (hl:ps.length<=1000) (hf:∀p∈ps,iS p):lq [bD ps] s=ok (.bl (cG ps)) s:=by
 refine aaj ?_;unfold lq;simp only[VC];refine aai (QQ hl hf) ?_;simp only[VC];unfold cG
 cases h:gM ps with
 |false=>simp
 |true =>
  simp only[ø,Ā];unfold Bb;simp only[VC,bp];refine aai (NV (zd h)) ?_;refine aai (show truth (.lst ((lF ps).map fD)) s=ok (!((lF ps).map fD).isEmpty) s from rfl) ?_;simp only[aQ];refine⟨?_,trivial⟩
  cases lF ps<;>rfl
def AO:m∈m4↔0<=m/\m<4:=by
 unfold m4;rw[å];constructor
 ·rintro ⟨i,hi,rfl⟩
  have:=ò.mp hi;omega
 ·rintro ⟨Z,Y⟩
  exact⟨m.toNat,ò.mpr (by omega),by omega⟩
def jH:m∈k8↔0<=m/\m<8:=by
 unfold k8;rw[å];constructor
 ·rintro ⟨i,hi,rfl⟩
  have:=ò.mp hi;omega
 ·rintro ⟨Z,Y⟩
  exact⟨m.toNat,ò.mpr (by omega),by omega⟩
def Pe (h:cG ps=true) (hm:0<=m/\m<4) (hk:0<=k/\k<8) (hd:d∈shown ps m k) (h1:d<=l) (h2:l<31):nD ps m k d l=false:=by
 unfold cG at h;rw[È,ZM] at h
 cases Z:nD ps m k d l with
 |false=>rfl
 |true =>
  exfalso;have Y:(d,l)∈kD ps m k:=by
   refine Y2.mpr ⟨d,nM.mpr hd,å.mpr ⟨l,ê.mpr ⟨?_,Z⟩,rfl⟩⟩;exact å.mpr ⟨(l-d).toNat,ò.mpr (by omega),by omega⟩
  have:(m,k,d,l)∈lF ps:=Y2.mpr ⟨m,AO.mpr hm,Y2.mpr ⟨k,jH.mpr hk,å.mpr ⟨(d,l),Y,rfl⟩⟩⟩;rw[h.2] at this;cases this
section
variable (s l m:Nat->Bool)
noncomputable def pr:Nat->Bool
 |0=>s 0
 |d+1=>s (d+1)||(pr d&&!m (d+1))
noncomputable def fN:Nat->Bool
 |0=>false
 |n+1=>(fN n||l (30-n))&&!m (30-n)
def br (d:Nat):Bool:=fN l m (31-d)
def ab (d:Nat):Bool:=br l m (d+1)||(l d||m d)
def tJ (h:d<=30):br l m d=((br l m (d+1)||l d)&&!m d):=by
 unfold br;have e1:31-d=(30-d)+1:=by omega
 have e2:31-(d+1)=30-d:=by omega
 rw[e1,e2];simp only[fN];rw[show 30-(30-d)=d by omega]
def Ui:br l m 31=false:=rfl
noncomputable def f0 (d:Nat):Bool:=!s d
noncomputable def t0 (d:Nat):Bool:=!m d&&!l d
def fw:Nat->Bool×Bool
 |0=>(f0 s 0,t0 l m 0)
 |d+1=>(f0 s (d+1)&&((fw d).1||(m (d+1)&&((fw d).1||(fw d).2))),t0 l m (d+1)&&((fw d).1||(fw d).2))
def sr:Prop:=∀d e,s d=true->d<=e->e<=30->(l e=true\/(e=d/\m d=true))->∃x,d<x/\x<=e/\m x=true
variable {s l m}
theorem qm:∀{d:Nat},pr s m d=true↔∃e,e<=d/\s e=true/\∀x,e<x->x<=d->m x=false
 |0=>by
  simp only[pr];constructor
  ·intro h;exact⟨0,aal _,h,λx Y Z=>by omega⟩
  ·rintro ⟨e,Y,Z,_⟩
   have:e=0:=by omega
   rw[<- this];exact Z
 |d+1=>by
  simp only[pr,Ŝ,È,ě];rw[qm (d:=d)];constructor
  ·rintro (h | ⟨⟨e,Y,Z,X⟩,V⟩)
   ·exact⟨d+1,aal _,h,λx Y Z=>by omega⟩
   ·refine⟨e,by omega,Z,λx W U=>?_⟩
    by_cases T:x=d+1
    ·rw[T];exact V
    ·exact X x W (by omega)
  ·rintro ⟨e,Y,Z,X⟩
   by_cases S:e=d+1
   ·left;rw[<- S];exact Z
   ·right
    exact⟨⟨e,by omega,Z,λx W U=>X x W (by omega)⟩,X (d+1) (by omega) (aal _)⟩
def Uj:∀{n:Nat},n<=31->br l m (31-n)=true->∃e,31-n<=e/\e<=30/\l e=true/\∀x,31-n<=x->x<=e->m x=false:=by
 intro n
 induction n with
 |zero=>intro _ h;rw[show 31-0=31 from rfl,Ui] at h;cases h
 |succ n ih =>
  intro T h;have e1:31-(n+1)+1=31-n:=by omega
  rw[tJ l m (by omega),e1,È,Ŝ,ě] at h
  rcases h.1 with h1|h1
  ·obtain⟨e,S,Y,X,W⟩:=ih (by omega) h1
   refine⟨e,by omega,Y,X,λx V Z=>?_⟩;by_cases U:x=31-(n+1)
   ·rw[U];exact h.2
   ·exact W x (by omega) Z
  ·refine⟨31-(n+1),aal _,by omega,h1,λx V Z=>?_⟩
   rw[show x=31-(n+1) by omega];exact h.2
section
variable (N:sr s l m)
include N
def Uk (hd:d<=30) (h:pr s m d=true):t0 l m d=true:=by
 obtain⟨e,T,Y,X⟩:=qm.mp h;unfold t0;rw[È,ě,ě];constructor
 ·cases Z:m d with
  |false=>rfl
  |true =>
   by_cases S:e=d
   ·subst S
    obtain⟨x,W,V,_⟩:=N e e Y (aal _) hd (.inr ⟨rfl,Z⟩);omega
   ·have:=X d (by omega) (aal _)
    rw[this] at Z;cases Z
 ·cases R:l d with
  |false=>rfl
  |true =>
   obtain⟨x,W,V,U⟩:=N e d Y T hd (.inl R);rw[X x W V] at U;cases U
def JD (hd:d<=30) (h:pr s m d=true):ab l m d=false:=by
 have Z:=Uk N hd h;unfold t0 at Z;rw[È,ě,ě] at Z;unfold ab;rw[Z.1,Z.2]
 cases X:br l m (d+1) with
 |false=>rfl
 |true =>
  exfalso;have W:br l m (31-(30-d))=true:=by rw[show 31-(30-d)=d+1 by omega];exact X
  obtain⟨e,M,V,U,T⟩:=Uj (by omega) W;obtain⟨c,L,S,R⟩:=qm.mp h;obtain⟨x,Q,P,Y⟩:=N c e S (by omega) V (.inl U);by_cases O:x<=d
  ·rw[R x Q O] at Y;cases Y
  ·rw[T x (by omega) P] at Y;cases Y
end
end
theorem Hj:∀{ns:List Int},rise ns=true->ns.Pairwise (· < ·)
 | [],_=>.nil
 | [a],_=>by simp
 |a::b::r,h=>by
  simp only[rise,È,Å] at h;have ih:=Hj h.2;refine ÿ.mpr ⟨λx hx=>?_,ih⟩
  rcases Ò.mp hx with rfl|hx
  ·exact h.1
  ·have:=(ÿ.mp ih).1 x hx
   omega
def E4 (h:jd ns=true):cx 8 ns:=by
 unfold jd at h;rw[È,ë] at h;refine⟨λx Z=>?_,Hj h.2⟩;have:=h.1 x Z;unfold markB at this;simp only[È,Å] at this;exact this
def pP (h:cx n ns) (hn:n<=8):jd ns=true:=by
 unfold jd;rw[È,ë];refine⟨λx Z=>?_,QM h.up⟩;have:=h.lo x Z;unfold markB;simp only[È,Å];omega
theorem cx.filter (h:cx n ns) (p:Int->Bool):cx n (ns.filter p):=⟨λx Z=>h.lo x (ê.mp Z).1,h.up.filter p⟩
def NW (hm:0<=m/\m<4) (hd:0<=d/\d<31) (hk:0<=k/\k<8):cw (.aO m d k)=true:=by
 simp only[cw,gr,gW,markB,È,Å];omega
def NX (hm:0<=m/\m<4) (hd:0<=d/\d<31) (h1:cx n h) (h2:cx n l) (hn:n<=8) (ha:∀x∈h,x∉l):cw (.made m d h l)=true:=by
 simp only[cw,gr,gW,È,Å,jG,ě,YK];exact⟨⟨hm,hd⟩,pP h1 hn,pP h2 hn,ha⟩
def eG (W:Ĉ) (R:Pg->Prop) (s:af) (j n:Nat):Prop:=∃Z:List Pg,s[j]?=some (.dT (Z.map λp=>(p.d,hs W p.d)))/\(Z.Nodup/\∀p∈Z,R p)/\Z.length<=n
def eG.lt (h:eG W R s j n):j<s.length:=by
 obtain⟨Z,e,_⟩:=h;exact(Ç.mp e).1
def eG.ex (h:eG W R s j n) (x:Ex k s s') (hj:j≠k):eG W R s' j n:=by
 have Z:=h.lt;obtain⟨Y,e,r⟩:=h;exact⟨Y,(x.val j Z hj).trans e,r⟩
def eG.more (h:eG W R s j n) (hm:n<=m):eG W R s j m:=by
 obtain⟨Z,e,r,l⟩:=h;exact⟨Z,e,r,by omega⟩
def eG.app (h:eG W R s j n) (c:List Cell):eG W R (s++c) j n:=by
 have Z:=h.lt;obtain⟨Y,e,r⟩:=h;exact⟨Y,by rw[Õ Z];exact e,r⟩
theorem eG.set (h:eG W R s j n) (hi:i≠j) (c:Cell):eG W R (s.set i c) j n:=by
 obtain⟨Z,e,r⟩:=h;exact⟨Z,by rw[Ù hi];exact e,r⟩
def eG.mono (h:eG W R s j n) (hR:∀p,R p->R' p):eG W R' s j n:=by
 obtain⟨Z,e,r,l⟩:=h;exact⟨Z,e,⟨r.1,λp Y=>hR p (r.2 p Y)⟩,l⟩
def Ex.pB (h:Ex k s s') (hj:s.length<=j) (c:Cell):Ex k s (s'.set j c) :=
 ⟨by rw[ġ];exact h.len,λi hi Z=>by rw[Ù (by omega)];exact h.val i hi Z⟩
def kA (p:Pg):∃ks,p.d=.tup ks/\bN ks=true/\bM ks<=6:=by
 have Z:=jh p;have Y:=wG p;obtain⟨x,r,e⟩:=Gh p;rw[e] at Z Y;simp only[kd,dep] at Z Y;exact⟨_,e,Z,by omega⟩
def Iw (W:Ĉ) (ps:List Pg):(ps.map λp=>(p.d,hs W p.d)).all (keyOk W)=true:=by
 rw[List.all_map,ë];intro p _;obtain⟨X,e,Z,Y⟩:=kA p;simp only[Function.comp,keyOk];rw[e];simp only[Z,ß Y,Ĭ,Ķ]
def SG (h:eG W R s j n) (hf:R p) (hn:n<1000):∃c,jT W (.ao j) p.d (.bl true) s=some (s.set j c)/\eG W R (s.set j c) j (n+1):=by
 have T:=h.lt;obtain⟨Z,e,X,len⟩:=h;obtain⟨Q,V,P,O⟩:=kA p;have S:=Iw W Z;generalize Y:(Z.map λp=>(p.d,hs W p.d))=U at e S;have K:U.length=Z.length:=by rw[<- Y,Ä]
 refine⟨.dT (TK.fK W U (.tup Q)),?_,?_⟩
 ·rw[V]
  unfold jT;simp only[e];rw[é];rw[P,ß O,S,ß (Ë (show U.length<1000 by omega) (le_size (by decide)))];rfl
 ·unfold TK.fK
  split
  ·exact⟨Z,by rw[Y];exact ì T,X,by omega⟩
  ·rename_i N
   refine⟨Z++[p],?_,⟨Ż.mpr ⟨X.1,by simp,λa M b L=>?_⟩,λq hq=>?_⟩,by simp;omega⟩
   ·rw[ì T,ü,Y]
    simp only[Þ,ĵ,V]
   ·rw[Ø.mp L]
    rintro rfl;refine N (Ő.mpr ⟨(a.d,hs W a.d),?_,?_⟩)
    ·rw[<- Y];exact å.mpr ⟨a,M,rfl⟩
    ·rw[<- V];exact(n5 _ _ (jh a) (jh a)).mpr rfl
   ·rcases â.mp hq with hq|hq
    ·exact X.2 q hq
    ·rw[Ø.mp hq];exact hf
def Hk:Wp (lK W f fo fi env s) QF=Wp (f env s) λx s=>Wp (fo env s) λd s=>Wp (fi env s) λn s=>∃s',jT W d n x s=some s'/\QF (.nx env) s':=by
 unfold lK;simp only[bp];congr 1;funext x s;congr 1;funext d s;congr 1;funext n s
 cases jT W d n x s with
 |none=>exact propext ⟨λ⟨_,_,e,_⟩=>(by cases e),λ⟨_,e,_⟩=>(by cases e)⟩
 |some s'=>exact propext ⟨λh=>⟨s',rfl,by simpa only [aQ] using h⟩,λ⟨t,e,h⟩=>by cases e;simpa only [aQ] using h⟩
def QR:Wp (xk env s) Q=Q (.ao s.length) (s++[.dT []]):=by unfold xk;rw[aQ]
theorem Ah:∀{ps:List Pg},ps.Pairwise (λa b=>cu.lt a b=true)->tI ps=true
 | [],_=>rfl
 | [a],_=>rfl
 |a::b::r,h=>by
  obtain⟨Z,Y⟩:=ÿ.mp h;have ih:=Ah Y;unfold tI at ih |-;simp only[List.drop_succ_cons,List.drop_zero,ķ,List.all_cons,È] at ih |-;exact⟨Z b Î,ih⟩
def GB (h:ps.Nodup):(ST.eR cu ps).Pairwise λa b=>cu.lt a b=true:=by
 have Y:=ST.vV (O:=cu) ps;have X:(ST.eR cu ps).Nodup:=(ST.lp ps).nodup_iff.mpr h;refine(Y.and X).imp λ{a b} Z=>?_
 cases W:cu.lt a b with
 |true=>rfl
 |false=>exact(Z.2 (cu.vc a b W Z.1)).elim
def Wp.JE (h:Wp (fa env s) λds s=>∃x y z,ds=[x,y,z]/\QF (.nx (((env.set i (some x)).set j (some y)).set k (some z))) s):Wp (t9 i j k fa env s) QF:=by
 unfold t9;refine Wp.aq (h.mono λds s ⟨x,y,z,e,q⟩=>?_);subst e;exact Wp.ok q
abbrev WR (p:Pg):Prop:=cw p=true
structure Laid (ps:List Pg):Prop where
 pg:∀p∈ps,cw p=true
 up:ps.Pairwise λa b=>cu.lt a b=true
theorem Laid.gM (h:Laid ps) (hl:ps.length<=24):gM ps=true:=by
 unfold DI.gM;rw[ß hl,ë.mpr h.pg,Ah h.up];rfl
def Laid.sub (h:Laid ps) (hs:qs.Sublist ps):Laid qs:=⟨λp Z=>h.pg p (hs.subset Z),h.up.sublist hs⟩
def hV (s:af) (j n:Nat):Prop:=∃Z:List Int,s[j]?=some (.lst (Z.map D.int))/\Z.length<=n
def hV.lt (h:hV s j n):j<s.length:=by
 obtain⟨Z,e,_⟩:=h;exact(Ç.mp e).1
def hV.ex (h:hV s j n) (x:Ex k s s') (hj:j≠k):hV s' j n:=by
 have Z:=h.lt;obtain⟨Y,e,r⟩:=h;exact⟨Y,(x.val j Z hj).trans e,r⟩
theorem hV.set (h:hV s j n) (hi:i≠j) (c:Cell):hV (s.set i c) j n:=by
 obtain⟨Z,e,r⟩:=h;exact⟨Z,by rw[Ù hi];exact e,r⟩
def hV.app (h:hV s j n) (c:List Cell):hV (s++c) j n:=by
 have Z:=h.lt;obtain⟨Y,e,r⟩:=h;exact⟨Y,by rw[Õ Z];exact e,r⟩
def hV.more (h:hV s j n) (hm:n<=m):hV s j m:=by
 obtain⟨Z,e,l⟩:=h;exact⟨Z,e,by omega⟩
def nE (s:af) (j n:Nat):Prop:=∃ls:List (List Int),s[j]?=some (.lst (ls.map lI))/\ls.length=n
def nE.lt (h:nE s j n):j<s.length:=by
 obtain⟨Z,e,_⟩:=h;exact(Ç.mp e).1
def nE.ex (h:nE s j n) (x:Ex k s s') (hj:j≠k):nE s' j n:=by
 have Z:=h.lt;obtain⟨Y,e,r⟩:=h;exact⟨Y,(x.val j Z hj).trans e,r⟩
theorem nE.set (h:nE s j n) (hi:i≠j) (c:Cell):nE (s.set i c) j n:=by
 obtain⟨Z,e,r⟩:=h;exact⟨Z,by rw[Ù hi];exact e,r⟩
structure BI (W:Ĉ) (k j b n q:Nat) (s0 s:af):Prop where
 st:bA s k
 dict:eG W WR s j n
 aO:∀i,i<8->hV s (b+i) q
 ext:Ex k s0 s
section
variable {W:Ĉ} {k j b n q:Nat} {s0 s:af}
def BI.draw (h:BI W k j b n q s0 s) (hj:j≠k) (hb:∀i,i<8->b+i≠k) (x:Ex k s s') (hs:bA s' k):BI W k j b n q s0 s' :=
 ⟨hs,h.dict.ex x hj,λi hi=>(h.aO i hi).ex x (hb i hi),h.ext.trans x⟩
def BI.put (h:BI W k j b n q s0 s) (hj:j≠k) (ke:∀i,i<8->b+i≠j) (hl:s0.length<=j) (hf:cw p=true) (hn:n<1000):∃s',jT W (.ao j) p.d (.bl true) s=some s'/\BI W k j b (n+1) q s0 s'/\Ex j s s':=by
 obtain⟨c,e,d⟩:=SG h.dict hf hn;exact⟨_,e,⟨h.st.set hj c,d,λi hi=>(h.aO i hi).set (ų (ke i hi)) c,h.ext.pB hl c⟩,Ex.set j s c⟩
end
noncomputable def memD (b:Nat):D:=.lst ((Ó 8).map λi:Nat=>D.ao (b+i))
def Iy (h0:0<=i) (h1:i<8):aI (memD b) (.int i) s=ok (.ao (b+i.toNat)) s:=by
 obtain⟨x,e1,e2⟩:=sR (xs:=(Ó 8).map λi:Nat=>D.ao (b+i)) h0 (by simpa using h1);have:x=.ao (b+i.toNat):=by
  rw[Ü,ĥ (by omega)] at e2;exact(aam e2).symm
 subst this;simp only[aI,j8,res,memD,e1,bB]
def QS (q:Q (memD s.length) (s++Ï 8 (.lst []))):Wp (bC 1 [] (cb (ae (eC (.int 8)) ah)) (gN 0) cR (eNew ah) env s) Q:=by
 rw[lB];refine aai (fS (n:=8) rfl (by decide)) ⟨by rw[fe];exact le_size (by decide),?_⟩;refine wj (λi Z W=>Z=(Ó i).map (λx:Nat=>D.ao (s.length+x))/\W=s++Ï i (.lst [])) (bc 0 8) ⟨rfl,by simp⟩ (λi d Z W Y X=>?_) λZ W X=>?_
 ·obtain⟨rfl,rfl⟩:=X
  rw[ia] at Y;split at Y
  ·cases Y
   refine⟨[some (.int (0+i))],rfl,?_⟩;refine aai (show cR _ _=ok true _ from rfl) ?_;rw[é rfl];simp only[n6,cV];refine⟨by decide,?_,?_⟩
   ·rw[YA,ü]
    simp
   ·rw[List.replicate_succ',ĕ]
  ·cases Y
 ·rw[fe] at X
  obtain⟨rfl,rfl⟩:=X;exact q
section
variable (ps:List Pg) (m k:Int)
def sN (d:Nat):Bool:=decide ((d:Int)∈shown ps m k)
def lN (d:Nat):Bool:=decide ((d:Int)∈cW ps m k)
def mN (d:Nat):Bool:=decide ((d:Int)∈cj ps m k)
def cy:List Int:=((Ó 31).filter λd=>pr (sN ps m k) (mN ps m k) d).map λd:Nat=>(d:Int)
def bU:List Int:=((Ó 31).filter λn=>ab (lN ps m k) (mN ps m k) (30-n)).map λn:Nat=>((30-n:Nat):Int)
end
def Hl (h:cG ps=true) (hm:0<=m/\m<4) (hk:0<=k/\k<8):sr (sN ps m k) (lN ps m k) (mN ps m k):=by
 intro d e hs U T Z;simp only[sN,lN,mN,Å] at hs Z;have c:=Pe h hm hk hs (l:=(e:Int)) (by omega) (by omega);unfold nD at c;have Y:(decide ((e:Int)∈cW ps m k)||(decide ((e:Int)=(d:Int))&&decide ((d:Int)∈cj ps m k)))=true:=by
  rcases Z with Z | ⟨S,X⟩
  ·rw[ß Z];rfl
  ·rw[ß (show (e:Int)=d by omega),ß X];simp
 rw[Y,Ā,Bool.not_eq_false'] at c;unfold xO at c;obtain⟨x,W,V⟩:=Ő.mp c;simp only[È,Å] at V;refine⟨x.toNat,by omega,by omega,?_⟩;simp only[mN,Å];rw[show ((x.toNat:Nat):Int)=x by omega];exact W
def su {m k:Int} {d:Nat} (h:d<=30):decide ((d:Int)∈cy ps m k)=pr (sN ps m k) (mN ps m k) d:=by
 have:(d:Int)∈cy ps m k↔pr (sN ps m k) (mN ps m k) d=true:=by
  unfold cy;rw[å];constructor
  ·rintro ⟨e,Y,X⟩
   have:e=d:=by omega
   rw[<- this];exact(ê.mp Y).2
  ·intro Z
   exact⟨d,ê.mpr ⟨ò.mpr (by omega),Z⟩,rfl⟩
 cases Z:pr (sN ps m k) (mN ps m k) d with
 |true=>exact ß (this.mpr Z)
 |false=>exact ñ λz=>by rw[this.mp z] at Z;cases Z
def sv {m k:Int} {d:Nat} (h:d<=30):decide ((d:Int)∈bU ps m k)=ab (lN ps m k) (mN ps m k) d:=by
 have:(d:Int)∈bU ps m k↔ab (lN ps m k) (mN ps m k) d=true:=by
  unfold bU;rw[å];constructor
  ·rintro ⟨e,Y,V⟩
   obtain⟨X,W⟩:=ê.mp Y;have:=ò.mp X;have:30-e=d:=by omega
   rw[<- this];exact W
  ·intro Z
   exact⟨30-d,ê.mpr ⟨ò.mpr (by omega),by rw[show 30-(30-d)=d by omega];exact Z⟩,by omega⟩
 cases Z:ab (lN ps m k) (mN ps m k) d with
 |true=>exact ß (this.mpr Z)
 |false=>exact ñ λz=>by rw[this.mp z] at Z;cases Z
def Hm {s:af} {ns:List Int} {x:Int} (hn:ns.length<1000):iL (.ao s.length) (s++[.lst (ns.map D.int)])=true/\iy (.ao s.length) (.int x) (s++[.lst (ns.map D.int)])=ok .au (s++[.lst ((ns++[x]).map D.int)]):=by
 have e:(s++[Cell.lst (ns.map D.int)])[s.length]?=some (.lst (ns.map D.int)):=by simp
 refine⟨by simp only[iL,e],?_⟩;unfold iy;simp only[e];rw[é (by rw[Å,Ä];exact Ë hn (le_size (by decide)))];simp[YB]
def Hn {s:af} {ns:List Int}:bE (.ao s.length) (s++[.lst (ns.map D.int)])=ok (lI ns) (s++[.dead]):=by
 have e:(s++[Cell.lst (ns.map D.int)])[s.length]?=some (.lst (ns.map D.int)):=by simp
 simp only[bE,e];simp[YB]
def E5 {p:Nat->Bool} {f:Nat->Int} {i:Nat}:((Ó (i+1)).filter p).map f=((Ó i).filter p).map f++(if p i=true then [f i] else []):=by
 rw[YA,List.filter_append,ü];congr 1
 cases h:p i<;>simp[h]
def FK {p:Nat->Bool} {f:Nat->Int} {i:Nat}:(((Ó i).filter p).map f).length<=i:=by
 rw[Ä];exact è (ū _ _) (by rw[Ŀ];exact aal _)
def pv (s m:Nat->Bool):Nat->Bool
 |0=>false
 |i+1=>pr s m i
def MX (hl:ps.length<=1000):vp [bD ps,.int m,.int k] s=ok (lI (cy ps m k)) (s++[.dead]):=by
 refine aaj ?_;unfold vp;simp only[VC];refine aai (wy hl).1 ?_;refine aai (Ae hl) ?_
 try simp only[VC]
 refine⟨by decide,?_⟩;refine aai (fS (n:=31) rfl (by decide)) ?_;refine Wp.iQ (λi env Y=>i<=31->∃Z,env=[some (bD ps),some (.int m),some (.int k),some (lI (shown ps m k)),some (lI (cj ps m k)),some (.ao s.length),some (.bl (pv (sN ps m k) (mN ps m k) i)),Z]/\Y=s++[.lst ((((Ó i).filter λd=>pr (sN ps m k) (mN ps m k) d).map λd:Nat=>(d:Int)).map D.int)]) _ (λ_=>⟨_,rfl,rfl⟩) (λi d env Y W V=>?_) (λenv Y V=>?_)
 ·rw[ia] at W
  split at W
  ·rename_i hi
   cases W;obtain⟨Z,rfl,rfl⟩:=V (by omega);refine⟨_,rfl,?_⟩;have U:(0:Int)+(i:Int)=i:=by omega
   have key:(decide ((i:Int)∈shown ps m k)||(pv (sN ps m k) (mN ps m k) i&&!decide ((i:Int)∈cj ps m k)))=pr (sN ps m k) (mN ps m k) i:=by
    cases i with
    |zero=>simp[pv,pr,sN]
    |succ i=>rfl
   have fin:∀c:Bool,c=pr (sN ps m k) (mN ps m k) i->if c=true then iL (.ao s.length) (s++[.lst ((((Ó i).filter λd=>pr (sN ps m k) (mN ps m k) d).map λd:Nat=>(d:Int)).map D.int)])=true/\Wp (iy (.ao s.length) (.int (0+(i:Int))) (s++[.lst ((((Ó i).filter λd=>pr (sN ps m k) (mN ps m k) d).map λd:Nat=>(d:Int)).map D.int)])) λx Y=>i+1<=31->∃Z,([some (bD ps),some (.int m),some (.int k),some (lI (shown ps m k)),some (lI (cj ps m k)),some (.ao s.length),some (.bl c),some (.int (0+(i:Int)))]:Env)=[some (bD ps),some (.int m),some (.int k),some (lI (shown ps m k)),some (lI (cj ps m k)),some (.ao s.length),some (.bl (pv (sN ps m k) (mN ps m k) (i+1))),Z]/\Y=s++[.lst ((((Ó (i+1)).filter λd=>pr (sN ps m k) (mN ps m k) d).map λd:Nat=>(d:Int)).map D.int)]
     else i+1<=31->∃Z,([some (bD ps),some (.int m),some (.int k),some (lI (shown ps m k)),some (lI (cj ps m k)),some (.ao s.length),some (.bl c),some (.int (0+(i:Int)))]:Env)=[some (bD ps),some (.int m),some (.int k),some (lI (shown ps m k)),some (lI (cj ps m k)),some (.ao s.length),some (.bl (pv (sN ps m k) (mN ps m k) (i+1))),Z]/\s++[.lst ((((Ó i).filter λd=>pr (sN ps m k) (mN ps m k) d).map λd:Nat=>(d:Int)).map D.int)]=s++[.lst ((((Ó (i+1)).filter λd=>pr (sN ps m k) (mN ps m k) d).map λd:Nat=>(d:Int)).map D.int)]:=λc T=>by
    rw[E5];have R:pv (sN ps m k) (mN ps m k) (i+1)=c:=T.symm;rw[R,<- T]
    cases c with
    |true =>
     rw[é rfl];obtain⟨Q,P⟩:=Hm (s:=s) (ns:=((Ó i).filter λd=>pr (sN ps m k) (mN ps m k) d).map λd:Nat=>(d:Int)) (x:=0+(i:Int)) (Nat.lt_of_le_of_lt FK (by omega));exact⟨Q,aai P λ_=>⟨_,rfl,by rw[U];rfl⟩⟩
    |false =>
     rw[ð Ö];exact λ_=>⟨_,rfl,by simp⟩
   simp only[VC,qz,U];rw[U] at fin;by_cases X:(i:Int)∈shown ps m k
   ·simp only[X,Ĭ,ø]
    exact fin true (by rw[<- key,ß X];rfl)
   ·simp only[X,decide_false,Ã,ã]
    cases S:pv (sN ps m k) (mN ps m k) i with
    |false =>
     simp only[VC,Ã,ã];exact fin false (by rw[<- key,ñ X,S];rfl)
    |true =>
     simp only[VC,ø,nN];exact fin _ (by rw[<- key,ñ X,S];rfl)
  ·cases W
 ·rw[fe] at V
  obtain⟨Z,rfl,rfl⟩:=V (aal _);simp only[VC];exact aai Hn ⟨rfl,rfl⟩
noncomputable def downs:List D:=(Ó 31).map λn:Nat=>D.int ((30-n:Nat):Int)
def SH:Dm (ae (eC (.int 31)) ah) env s=ok downs s:=by
 have:(bc 0 31).reverse=downs:=by rfl
 rw[<- this];rfl
def NY:downs[i]?=if i<31 then some (.int ((30-i:Nat):Int)) else none:=by
 unfold downs;rw[Ü];by_cases h:i<31
 ·rw[é h,ĥ h];rfl
 ·rw[ð h,Ģ (by simpa using h)];rfl
abbrev iC (ps:List Pg) (m k:Int) (i:Nat):List Int:=((Ó i).filter λn=>ab (lN ps m k) (mN ps m k) (30-n)).map λn:Nat=>((30-n:Nat):Int)
def NZ (hl:ps.length<=1000):vw [bD ps,.int m,.int k] s=ok (lI (bU ps m k)) (s++[.dead]):=by
 refine aaj ?_;unfold vw;simp only[VC];refine aai (wy hl).2 ?_;refine aai (Ae hl) ?_
 try simp only[VC]
 refine⟨by decide,?_⟩;refine aai SH ?_;refine Wp.iQ (λi env Z=>i<=31->∃W,env=[some (bD ps),some (.int m),some (.int k),some (lI (cW ps m k)),some (lI (cj ps m k)),some (.ao s.length),some (.bl (fN (lN ps m k) (mN ps m k) i)),W]/\Z=s++[.lst ((iC ps m k i).map D.int)]) _ (λ_=>⟨_,rfl,rfl⟩) (λi d env Z X U=>?_) (λenv Z U=>?_)
 ·rw[NY] at X
  split at X
  ·rename_i hi
   cases X;obtain⟨W,rfl,rfl⟩:=U (by omega);refine⟨_,rfl,?_⟩;generalize X:((30-i:Nat):Int)=d;have L:ab (lN ps m k) (mN ps m k) (30-i)=(fN (lN ps m k) (mN ps m k) i||(decide (d∈cW ps m k)||decide (d∈cj ps m k))):=by
    unfold ab br lN mN;rw[show 31-(30-i+1)=i by omega,X]
   have K:fN (lN ps m k) (mN ps m k) (i+1)=((fN (lN ps m k) (mN ps m k) i||decide (d∈cW ps m k))&&!decide (d∈cj ps m k)):=by
    show ((fN _ _ i||lN ps m k (30-i))&&!mN ps m k (30-i))=_;unfold lN mN;rw[X]
   have sec:∀Y,Y=s++[.lst ((iC ps m k (i+1)).map D.int)]->Wp (aR (eT (oV (aa 6) (e2 eV (aa 7) (aa 3))) (e2 dH (aa 7) (aa 4))) (gN 6) [some (bD ps),some (.int m),some (.int k),some (lI (cW ps m k)),some (lI (cj ps m k)),some (.ao s.length),some (.bl (fN (lN ps m k) (mN ps m k) i)),some (.int d)] Y) λT Z=>match T with
     | .nx env=>i+1<=31->∃W,env=[some (bD ps),some (.int m),some (.int k),some (lI (cW ps m k)),some (lI (cj ps m k)),some (.ao s.length),some (.bl (fN (lN ps m k) (mN ps m k) (i+1))),W]/\Z=s++[.lst ((iC ps m k (i+1)).map D.int)]
     | .ct env=>i+1<=31->∃W,env=[some (bD ps),some (.int m),some (.int k),some (lI (cW ps m k)),some (lI (cj ps m k)),some (.ao s.length),some (.bl (fN (lN ps m k) (mN ps m k) (i+1))),W]/\Z=s++[.lst ((iC ps m k (i+1)).map D.int)]
     | .bk env=>pA (aP (lQ (aa 5))) (ug λa Z=>a=lI (bU ps m k)/\Z=s++[.dead]) (.nx env) Z
     | .rt d=>pA (aP (lQ (aa 5))) (ug λa Z=>a=lI (bU ps m k)/\Z=s++[.dead]) (.rt d) Z:=λY S=>by
    simp only[VC,qz,nN];rw[K]
    cases fN (lN ps m k) (mN ps m k) i with
    |true =>
     simp only[VC,ø,nN];exact λ_=>⟨some (.int d),by simp,S⟩
    |false =>
     simp only[Ã,ã,Bool.false_or];by_cases c:d∈cW ps m k
     ·simp only[VC,c,Ĭ,ø,nN]
      exact λ_=>⟨some (.int d),by simp,S⟩
     ·simp only[c,decide_false,Ã,ã]
      exact λ_=>⟨some (.int d),by simp,S⟩
   have P:=Hm (s:=s) (ns:=iC ps m k i) (x:=d) (Nat.lt_of_le_of_lt FK (by omega))
   have O:iC ps m k (i+1)=iC ps m k i++(if ab (lN ps m k) (mN ps m k) (30-i)=true then [d] else []):=by
    rw[<- X];exact E5
   have yes:ab (lN ps m k) (mN ps m k) (30-i)=true->Wp (cM (gB (aa 5) (aa 7)) [some (bD ps),some (.int m),some (.int k),some (lI (cW ps m k)),some (lI (cj ps m k)),some (.ao s.length),some (.bl (fN (lN ps m k) (mN ps m k) i)),some (.int d)] (s++[.lst ((iC ps m k i).map D.int)])) λT Z=>T=.nx [some (bD ps),some (.int m),some (.int k),some (lI (cW ps m k)),some (lI (cj ps m k)),some (.ao s.length),some (.bl (fN (lN ps m k) (mN ps m k) i)),some (.int d)]/\Z=s++[.lst ((iC ps m k (i+1)).map D.int)]:=λR=>by
    simp only[VC];refine⟨P.1,aai P.2 ?_⟩;rw[O,R];simp
   have no:ab (lN ps m k) (mN ps m k) (30-i)=false->s++[Cell.lst ((iC ps m k i).map D.int)]=s++[Cell.lst ((iC ps m k (i+1)).map D.int)]:=λR=>by
    rw[O,R];simp
   have go:∀{c:Bool},c=ab (lN ps m k) (mN ps m k) (30-i)->∀{Q:Fl->af->Prop},(∀Y,Y=s++[.lst ((iC ps m k (i+1)).map D.int)]->Q (.nx [some (bD ps),some (.int m),some (.int k),some (lI (cW ps m k)),some (lI (cj ps m k)),some (.ao s.length),some (.bl (fN (lN ps m k) (mN ps m k) i)),some (.int d)]) Y)->if c=true then Wp (cM (gB (aa 5) (aa 7)) [some (bD ps),some (.int m),some (.int k),some (lI (cW ps m k)),some (lI (cj ps m k)),some (.ao s.length),some (.bl (fN (lN ps m k) (mN ps m k) i)),some (.int d)] (s++[.lst ((iC ps m k i).map D.int)])) Q else Wp (cf [some (bD ps),some (.int m),some (.int k),some (lI (cW ps m k)),some (lI (cj ps m k)),some (.ao s.length),some (.bl (fN (lN ps m k) (mN ps m k) i)),some (.int d)] (s++[.lst ((iC ps m k i).map D.int)])) Q:=λ{c} N {Q} q=>by
    cases c with
    |true =>
     rw[é rfl];exact(yes N.symm).mono λT Y ⟨e1,e2⟩=>by subst e1;exact q Y e2
    |false =>
     rw[ð Ö,mz];exact q _ (no N.symm)
   rw[fQ,jF];simp only[qi,kC,dI,dJ,ie,mK,kI,qz,aQ,nU,ģ,Ĥ];rw[L] at go
   cases M:fN (lN ps m k) (mN ps m k) i with
   |true =>
    simp only[ø];rw[M] at go sec;exact go (c:=true) rfl λY V=>sec Y V
   |false =>
    simp only[Ã,ã];rw[M] at go sec;by_cases c:d∈cW ps m k
    ·simp only[c,Ĭ,ø]
     exact go (c:=true) (by simp[c]) λY V=>sec Y V
    ·simp only[c,decide_false,Ã,ã]
     exact go (by simp[c]) λY V=>sec Y V
  ·cases X
 ·rw[show downs.length=31 from rfl] at U
  obtain⟨W,rfl,rfl⟩:=U (aal _);simp only[VC];exact aai Hn ⟨rfl,rfl⟩
def pC (F:Int->List Int):D:=.lst (k8.map λk=>lI (F k))
def SI (h:0<=k/\k<8):aI (pC F) (.int k) s=ok (lI (F k)) s:=by
 obtain⟨x,e1,e2⟩:=sR (xs:=k8.map λk=>lI (F k)) h.1 (by show k<8;exact h.2);have:x=lI (F k):=by
  rw[Ü] at e2;have Z:k8[k.toNat]?=some k:=by
   unfold k8;rw[Ü,ĥ (by omega)];simp;omega
  rw[Z] at e2;exact(aam e2).symm
 subst this;simp only[aI,j8,res,pC,e1,bB]
def Kc:bc 0 8=k8.map D.int:=rfl
def JF:rE [pC F,.int d] s=ok (mD (k8.filter λk=>decide (d∈F k))) s:=by
 refine aaj ?_;unfold rE;simp only[VC];refine aai (fS (n:=8) rfl (by decide)) ⟨by rw[fe];exact le_size (by decide),?_⟩;rw[Kc];refine aai (i9 (λk=>decide (d∈F k)) (λk=>.int k) k8 λk Z=>⟨[some (.int k),some (.int d),some (pC F)],rfl,?_,λ_=>rfl⟩) ?_
 ·refine aaj ?_
  simp only[VC];refine aai (SI (jH.mp Z)) ?_;simp only[VC,qz,Ħ]
 ·exact aai (show dw [.lst ((k8.filter λk=>decide (d∈F k)).map λk=>.int k)] s=ok (mD (k8.filter λk=>decide (d∈F k))) s from rfl) ⟨rfl,rfl⟩
noncomputable def dh:List Int:=(Ó 31).map λi:Nat=>(i:Int)
def Ul:bc 0 31=dh.map D.int:=by unfold dh;rw[Hi,ĉ];congr 1;funext i;simp
def dO (P A:Int->List Int) (d:Int):D:=.tup [mD (k8.filter λk=>decide (d∈P k)),mD (k8.filter λk=>decide (d∈A k))]
def Ho (hf:∀k s,fn [b,.int mu,.int k] s=ok (lI (F k)) (s++[.dead])) (e0:env[0]?=some (some b)) (e1:env[1]?=some (some (.int mu))) (q:∀c,Q (pC F) (s++c)) :
  Wp (bC 1 [0,1] (cb (ae (eC (.int (8))) ah)) (gN 0) cR (ar fn (ae (aa 1) (ae (aa 2) (ae (aa 0) ah)))) env s) Q:=by
 rw[lB];refine aai (fS (n:=8) rfl (by decide)) ⟨by rw[fe];exact le_size (by decide),?_⟩;have V:gv [0,1] env=[some b,some (.int mu)]:=by simp[gv,e0,e1]
 rw[V];refine wj (λi Z W=>i<=8->Z=((Ó i).map λi:Nat=>(i:Int)).map (λk=>lI (F k))/\∃c,W=s++c) (bc 0 8) (λ_=>⟨rfl,[],by simp⟩) (λi d Z W Y X=>?_) λZ W X=>?_
 ·rw[ia] at Y
  split at Y
  ·rename_i hi
   cases Y;obtain⟨rfl,c,rfl⟩:=X (by omega);refine⟨[some (.int (0+i)),some b,some (.int mu)],rfl,?_⟩;refine aai (show cR _ _=ok true _ from rfl) ?_;rw[é rfl];simp only[VC];refine aai (hf (0+(i:Int)) _) λ_=>⟨?_,c++[.dead],by simp⟩;rw[YA,ü,ü];simp
  ·cases Y
 ·rw[fe] at X
  obtain⟨rfl,c,rfl⟩:=X (aal _);exact q c
def Ai (hl:ps.length<=1000):Wp (lj [bD ps,.int m] s) λd s'=>d=.lst (dh.map (dO (cy ps m) (bU ps m)))/\∃c,s'=s++c:=by
 unfold lj;rw[jK];refine⟨rfl,?_⟩;rw[fQ,kz];refine Ho (b:=bD ps) (mu:=m) (λk s=>MX hl) rfl rfl λc=>?_;simp only[ow,Þ,ĵ,ė,Į,Ï,Nat.reduceSub,ģ,Ĥ,ff];rw[fQ,kz];refine Ho (b:=bD ps) (mu:=m) (λk s=>NZ hl) rfl rfl λZ=>?_;simp only[ow,ģ,Ĥ,ff,ig,lB,ij];refine aai (fS (n:=31) rfl (by decide)) ⟨by rw[fe];exact le_size (by decide),?_⟩;rw[Ul];refine aai (i9 (λ_=>true) (dO (cy ps m) (bU ps m)) dh λd Y=>⟨[some (.int d),some (pC (cy ps m)),some (pC (bU ps m))],rfl,rfl,λ_=>?_⟩) ?_
 ·refine aaj ?_
  simp only[VC];refine aai JF ?_;refine aai JF ?_;exact⟨by decide,rfl,rfl⟩
 ·rw[filter_tt]
  exact⟨rfl,c++Z,by simp⟩
def N0 (hl:ps.length<=1000) (hf:∀p∈ps,iS p) (hb:cG ps=true) (hm:0<=m/\m<4) (hd:0<=d/\d<31):Wp (ko [bD ps,.int m,.int d] s) λx s'=>x=dO (cy ps m) (bU ps m) d/\∃c,s'=s++c:=by
 unfold ko;have Z:∀s,ll [bD ps] s=ok .au s:=λs=>by
  refine aaj ?_;unfold ll;simp only[VC];refine aai (Af hl hf) ?_;rw[hb];simp only[VC,ï,Ã,ã,Ħ]
 have Y:∀s,mj [.int m] s=ok .au s:=λs=>by
  refine aaj ?_;unfold mj;simp only[VC];refine aai v7 ?_;rw[show gr m=true by unfold gr;simp[hm]];simp only[VC,ï,Ã,ã,Ħ]
 have X:∀s,vK [.int d] s=ok .au s:=λs=>by
  refine aaj ?_;unfold vK;simp only[VC];refine aai AN ?_;rw[show gW d=true by unfold gW;simp[hd]];simp only[VC,ï,Ã,ã,Ħ]
 simp only[VC];refine aai (Z _) (aai (Y _) (aai (X _) ?_));refine(Ai hl).mono λx s' W=>?_;obtain⟨rfl,c,rfl⟩:=W;obtain⟨x,e1,e2⟩:=sR (xs:=dh.map (dO (cy ps m) (bU ps m))) hd.1 (by show d<31;exact hd.2);have:x=dO (cy ps m) (bU ps m) d:=by
  rw[Ü] at e2;have V:dh[d.toNat]?=some d:=by
   unfold dh;rw[Ü,ĥ (by omega)];simp;omega
  rw[V] at e2;exact(aam e2).symm
 subst this;refine aai (show aI (.lst (dh.map (dO (cy ps m) (bU ps m)))) (.int d) (s++c)=ok (dO (cy ps m) (bU ps m) d) (s++c) by simp only[aI,j8,res,e1,bB]) ⟨rfl,c,rfl⟩
noncomputable abbrev je (F:Nat->Bool):Cell:=.lst ((Ó 32).map λd=>D.bl (F d))
def Hq {α:Type} {n:Nat} {f:Nat->α} {d:Int} (h0:0<=d) (h1:d<n):dS ((Ó n).map f) d=some (f d.toNat):=by
 obtain⟨x,e1,e2⟩:=sR (xs:=(Ó n).map f) h0 (by simpa using h1);rw[Ü,ĥ (by omega)] at e2;rw[e1];exact e2.symm
def SJ:Pg->Prop
 | .made _ _ h l=>∀x∈h,x∉l
 | .aO _ _ _=>True
section
variable (b:Nat->Bool)
noncomputable def dW (n:Nat):Bool:=decide (0<n)&&b (n-1)
def bb:Nat->List (Nat×Nat)
 |0=>[]
 |n+1=>if (b n&&dW b n)=true then (bb n).dropLast++[(((bb n).getLast?.getD (0,0)).1,n)] else if b n=true then bb n++[(n,n)] else bb n
noncomputable def uj:Nat->Nat->Nat
 |0,e=>e
 |f+1,e=>if b (e+1)=true then uj f (e+1) else e
def i6 (n:Nat):Bool:=b n&&!dW b n
def Cm (f n:Nat):List (Nat×Nat):=((Ó n).filter (i6 b)).map λd=>(d,uj b f d)
variable {b}
theorem Hr:∀{f d e:Nat},d<=e->(∀x,d<x->x<=e->b x=true)->b (e+1)=false->e-d<f->uj b f d=e
 |0,_,_,_,_,_,h=>by omega
 |f+1,d,e,W,Z,Y,V=>by
  unfold uj;by_cases h:d=e
  ·subst h
   rw[Y];simp
  ·rw[é (Z (d+1) (by omega) (by omega))]
   exact Hr (by omega) (λx U X=>Z x (by omega) X) Y (by omega)
def Told (b:Nat->Bool) (f n:Nat):Prop :=
 (dW b n=false/\bb b n=Cm b f n)\/(dW b n=true/\∃S d,(Ó n).filter (i6 b)=S++[d]/\d<n/\(∀x,d<=x->x<n->b x=true)/\bb b n=(S.map λd=>(d,uj b f d))++[(d,n-1)])
theorem JG (f:Nat):∀n,n<=f->Told b f n
 |0,_=>.inl ⟨rfl,rfl⟩
 |n+1,O=>by
  have Y:(Ó (n+1)).filter (i6 b)=(Ó n).filter (i6 b)++if i6 b n=true then [n] else []:=by
   rw[YA,List.filter_append];congr 1
   by_cases h:i6 b n=true<;>simp[ť,h]
  have W:dW b (n+1)=b n:=by simp[dW]
  rcases JG f n (by omega) with ⟨X,h⟩ | ⟨X,S,d,U,N,T,R⟩
  ·cases Z:b n with
   |false =>
    refine .inl ⟨by rw[W,Z],?_⟩;simp only[bb,Z,ŭ,Ã,ã,h];unfold Cm;rw[Y,show i6 b n=false by simp[i6,Z]];simp
   |true =>
    refine .inr ⟨by rw[W,Z],(Ó n).filter (i6 b),n,?_,by omega,λx V Q=>?_,?_⟩
    ·rw[Y,show i6 b n=true by simp[i6,Z,X]]
     simp
    ·rw[show x=n by omega];exact Z
    ·simp only[bb,Z,X,Bool.and_false,Ã,ã,ø,h]
     rfl
  ·have hs:i6 b n=false:=by simp[i6,X]
   rw[hs] at Y;simp only[Ã,ã,ĸ] at Y;have M:0<n:=by omega
   cases Z:b n with
   |false =>
    refine .inl ⟨by rw[W,Z],?_⟩;simp only[bb,Z,ŭ,Ã,ã,R];unfold Cm;rw[Y,U,ü];simp only[Þ,ĵ];rw[Hr (f:=f) (d:=d) (e:=n-1) (by omega) (λx V Q=>T x (by omega) (by omega)) (by rw[show n-1+1=n by omega];exact Z) (by omega)]
   |true =>
    refine .inr ⟨by rw[W,Z],S,d,by rw[Y,U],by omega,λx V Q=>?_,?_⟩
    ·by_cases P:x=n
     ·rw[P];exact Z
     ·exact T x V (by omega)
    ·simp only[bb,Z,X,Ķ,ø,R]
     simp
end
noncomputable def brk (l:List Int):List Int:=((Ó (l.length-1)).filter λi=>l.getD (i+1) 0==l.getD i 0).map λi:Nat=>1+(i:Int)
def QT {c:af} {ds:List D}:bE (.ao c.length) (c++[.lst ds])=ok (.lst ds) (c++[.dead]):=by
 unfold bE;have e:(c++[Cell.lst ds])[c.length]?=some (.lst ds):=by simp
 simp only[e];rw[YB _ _ (aal _)];simp
def Ex.get (h:Ex k s s') (e:s[j]?=some c) (hj:j≠k):s'[j]?=some c:=by
 rw[h.val j (Ç.mp e).1 hj];exact e
theorem Ex.hi (h:Ex k s s') (hj:s.length<=j) (c:Cell):Ex k s (s'.set j c):=⟨by rw[ġ];exact h.len,λi hi Z=>by rw[Ù (by omega)];exact h.val i hi Z⟩
structure RI (s0:af) (k rh mh:Nat) (rs:List (List Int)) (s:af):Prop where
 st:bA s k
 ex:Ex k s0 s
 run:s[rh]?=some (.lst (rs.map mD))
 mo:∃a b,s[mh]?=some (.lst [mD a,mD b])/\cx 8 a/\cx 8 b
 yk:∀r∈rs,cx 8 r
 k1:k<s0.length
 r1:s0.length<=rh
 m1:s0.length<=mh
 ne:rh≠mh
def RI.draw (h:RI s0 k rh mh rs s) (g:bA s' k) (x:Ex k s s'):RI s0 k rh mh rs s':=by
 have:=h.k1;have:=h.r1;have:=h.m1;obtain⟨a,b,e,Z,Y⟩:=h.mo;exact⟨g,h.ex.trans x,x.get h.run (by omega),⟨a,b,x.get e (by omega),Z,Y⟩,h.yk,h.k1,h.r1,h.m1,h.ne⟩
def RI.push (h:RI s0 k rh mh rs s) (hr:cx 8 r):RI s0 k rh mh (rs++[r]) (s.set rh (.lst (rs.map mD++[mD r]))):=by
 have:=h.k1;have:=h.r1;have:=h.m1;have:=h.ne;obtain⟨a,b,e,Z,Y⟩:=h.mo;refine⟨h.st.set (by omega) _,h.ex.hi (by omega) _,?_,⟨a,b,by rw[Ù (by omega)];exact e,Z,Y⟩,λx hx=>?_,h.k1,h.r1,h.m1,h.ne⟩
 ·rw[ì (Ç.mp h.run).1,ü]
  rfl
 ·rcases â.mp hx with hx|hx
  ·exact h.yk x hx
  ·rw[Ø.mp hx];exact hr
def RI.put (h:RI s0 k rh mh rs s) (h0:at_=0\/at_=1):(∃a,aI (.ao mh) (.int at_) s=ok (mD a) s/\cx 8 a)/\∀c,cx 8 c->∃s',iM (.ao mh) (.int at_) (mD c) s=some s'/\RI s0 k rh mh rs s':=by
 have:=h.k1;have:=h.r1;have:=h.m1;have:=h.ne;obtain⟨a,b,e,Z,Y⟩:=h.mo;have key:∀a b,cx 8 a->cx 8 b->RI s0 k rh mh rs (s.set mh (.lst [mD a,mD b])):=λa b Z Y=>⟨h.st.set (by omega) _,h.ex.hi (by omega) _,by rw[Ù (by omega)];exact h.run,⟨a,b,ì (Ç.mp e).1,Z,Y⟩,h.yk,h.k1,h.r1,h.m1,h.ne⟩
 rcases h0 with rfl|rfl
 ·exact⟨⟨a,DA _ _ _ _ e,Z⟩,λc X=>⟨_,J8 _ _ _ _ _ e,key _ _ X Y⟩⟩
 ·exact⟨⟨b,DB _ _ _ _ e,Y⟩,λc X=>⟨_,J9 _ _ _ _ _ e,key _ _ Z X⟩⟩
structure Ft (n W:Nat) (d:D):Prop where
 pl:plain d=true
 sh:(py d).showable=true
 nd:(py d).hasDict=false
 dp:(py d).depth<=n
 wt:(py d).weight<=W
 lv:(py d).leavesShort 40=true
def Cn (d:D):Bool:=plain d&&(py d).showable&&!(py d).hasDict&&decide ((py d).depth<=0)&&decide ((py d).weight<=110)&&(py d).leavesShort 40
def Bj (h:Cn d=true):Ft 0 110 d:=by
 unfold Cn at h;simp only[È,Å,ě] at h;obtain⟨⟨⟨⟨⟨Z,Y⟩,X⟩,W⟩,V⟩,U⟩:=h;exact⟨Z,Y,X,W,V,U⟩
def SK:∀n:Fin 62,Cn (.int ((n.val:Int)-1))=true:=by decide +kernel
def qo (h1:-1<=n) (h2:n<=60):Ft 0 110 (.int n):=by
 refine Bj ?_;have:=SK ⟨(n+1).toNat,by omega⟩;have e2:(((n+1).toNat:Nat):Int)-1=n:=by omega
 rw[e2] at this;exact this
theorem Iz:∀{ds:List D},(∀x∈ds,Ft n W x)->lD ds=true/\PyData.showableAll (bT ds)=true/\PyData.hasDictAll (bT ds)=false/\Yx (bT ds)<=n/\ZN (bT ds)<=ds.length*(W+1)/\PyData.leavesShortAll 40 (bT ds)=true
 | [],_=>⟨rfl,rfl,rfl,ď _,by simp[bT,ZN],rfl⟩
 |x::Z,h=>by
  obtain⟨z,a,b,c,d,e⟩:=Iz (ds:=Z) λy Y=>h y (Ð _ Y);have k:=h x Î;refine⟨?_,?_,?_,?_,?_,?_⟩
  ·simp only[lD,k.pl,z,Ķ]
  ·simp only[bT,PyData.showableAll,k.sh,a,Ķ]
  ·simp only[bT,PyData.hasDictAll,k.nd,b,Bool.or_self]
  ·simp only[bT,Yx];have:=k.dp;omega
  ·simp only[bT,ZN,á]
   have:=k.wt;rw[Nat.add_mul];omega
  ·simp only[bT,PyData.leavesShortAll,k.lv,e,Ķ]
def wY (hl:ds.length<=c) (h:∀x∈ds,Ft n W x):Ft (n+1) (c*(W+1)) (.tup ds):=by
 obtain⟨z,a,b,X,Z,Y⟩:=Iz h;have hw:ZN (bT ds)<=c*(W+1):=è Z (Nat.mul_le_mul_right _ hl);exact⟨by simp only[plain];exact z,by simp only[py,PyData.showable];exact a,by simp only[py,PyData.hasDict];exact b,by simp only[py,PyData.depth];omega,by simp only[py,PyData.weight];exact hw,by simp only[py,PyData.leavesShort];exact Y⟩
def ne_str:iu (.str x) (.str x) s=ok (.bl false) s:=by
 show (match jJ (.str x) (.str x) with|some b=>ok (D.bl (!b)) s|none=>none)=_
 have e:jJ (.str x) (.str x)=some true:=by
  unfold jJ;rw[é (show (nA (.str x)&&nA (.str x))=true from rfl)];simp[beq]
 rw[e];rfl
structure K7 (p:Pg):Prop where
 day:0<=p.day/\p.day<31
 iS:iS p
 apart:SJ p
 ft:Ft 3 7116 p.d
def Ft.mono (h:Ft n W d) (h1:n<=n') (h2:W<=W'):Ft n' W' d:=⟨h.pl,h.sh,h.nd,è h.dp h1,è h.wt h2,h.lv⟩
def IA:Ft 0 110 (.str "made")/\Ft 0 110 (.str "mended"):=⟨Bj (by decide +kernel),Bj (by decide +kernel)⟩
def IC (h:cx 8 ns):Ft 1 888 (mD ns):=by
 refine wY (c:=8) (W:=110) (by rw[Ä];exact h.len) λx Z=>?_;obtain⟨y,Y,rfl⟩:=å.mp Z;have:=h.lo y Y;exact qo (by omega) (by omega)
def Hs (h:cw p=true):K7 p:=by
 cases p with
 |made m d P l =>
  simp only[cw,gr,gW,È,Å] at h;obtain⟨⟨T,Y⟩,S,R,X⟩:=h;have V:=E4 S;have U:=E4 R;refine⟨Y,⟨by have:=V.len;omega,by have:=U.len;omega⟩,λx Z Q=>?_,?_⟩
  ·unfold jG at X
   rw[ě,YK] at X;exact X x Z (ß Q)
  ·refine wY (c:=4) (n:=2) (W:=1778) (by simp) λx Z=>?_
   simp only[Ò,þ,or_false] at Z
   rcases Z with rfl|rfl|rfl|rfl
   ·exact IA.1.mono (by omega) (by omega)
   ·exact(qo (by omega) (by omega)).mono (by omega) (by omega)
   ·exact(qo (by omega) (by omega)).mono (by omega) (by omega)
   ·refine wY (c:=2) (n:=1) (W:=888) (by simp) λx Z=>?_
    simp only[Ò,þ,or_false] at Z
    rcases Z with rfl|rfl
    ·exact IC V
    ·exact IC U
 |aO m d k =>
  simp only[cw,gr,gW,markB,È,Å] at h;obtain⟨⟨T,Y⟩,O⟩:=h;refine⟨Y,trivial,trivial,(wY (c:=4) (n:=0) (W:=110) (by simp) λx Z=>?_).mono (by omega) (by omega)⟩;simp only[Ò,þ,or_false] at Z
  rcases Z with rfl|rfl|rfl|rfl
  ·exact IA.2
  ·exact qo (by omega) (by omega)
  ·exact qo (by omega) (by omega)
  ·exact qo (by omega) (by omega)
def FL (h:cG ps=true):ps.length<=24/\∀p∈ps,K7 p:=by
 unfold cG gM at h;simp only[È,Å,ë] at h;exact⟨h.1.1,λp Z=>Hs (h.1.2.1 p Z)⟩
def SM {n:Nat}:nZ (bD ps) none (some (n:Int)) s=ok (bD (ps.take n)) s:=by
 show ok (D.tup (cutD (ps.map Pg.d) none (some (n:Int)))) s=_;unfold cutD;rw[HT.PQ];show ok (D.tup (((ps.map Pg.d).drop 0).take (min n (ps.map Pg.d).length-0))) s=_;rw[List.drop_zero,Nat.sub_zero,<- List.map_take,Ä];congr 3;rw[List.take_eq_take_min (i:=n)]
def zB (hl:ps.length<=1000) (hf:∀p∈ps,iS p) (hb:cG ps=true):ll [bD ps] s=ok .au s:=by
 refine aaj ?_;unfold ll;simp only[VC];refine aai (Af hl hf) ?_;rw[hb];simp only[VC,ï,Ã,ã,Ħ]
def FN (hm:0<=m/\m<4):mj [.int m] s=ok .au s:=by
 refine aaj ?_;unfold mj;simp only[VC];refine aai v7 ?_;rw[show gr m=true by unfold gr;simp[hm]];simp only[VC,ï,Ã,ã,Ħ]
def GC {ps:List Pg} {m:Int} {s:af} {r:Env} (hl:ps.length<=1000):∃c,bG (ar lj (ae (aa 0) (ae (aa 1) ah))) (some (bD ps)::some (.int m)::r) s=ok (dh.map (dO (cy ps m) (bU ps m))) (s++c):=by
 obtain⟨x,Z,e,rfl,c,rfl⟩:=Ai (m:=m) (s:=s) hl;refine⟨c,iD (aaj ?_)⟩;simp only[wp_call,dX,cV,dI,dJ];exact aai e ⟨rfl,rfl⟩
theorem zC {α:Type} (f:α->D) (h:∀x,lay (f x)=true):∀l:List α,cJ (l.map f)=true
 | []=>rfl
 |x::l=>by rw[Þ,cJ,h x,zC f h l];rfl
def N1 (h:cJ ds=true):jJ (.lst ds) (.lst [])=some ds.isEmpty:=by
 unfold jJ;rw[ð (by simp[nA]),é (by simp only[lay,h,cJ,dep,bM,Ķ,Ā,Å];exact ß (è (Nat.min_le_right _ 1) (show 1<=100 by decide)))]
 cases ds<;>rfl
def eq_nil (h:cJ ds=true):cP (.lst ds) (.lst []) s=ok (.bl ds.isEmpty) s:=by
 show (match jJ (.lst ds) (.lst []) with|some b=>ok (D.bl b) s|none=>none)=_
 rw[N1 h]
noncomputable abbrev kf (p:Nat×Nat):D:=.tup [.int p.1,.int p.2]
def Co {f:Nat->D} {d:Int} {s:af} (h:0<=d/\d<31):aI (.lst ((Ó 31).map f)) (.int d) s=ok (f d.toNat) s:=by
 simp only[aI,j8,res,Hq h.1 h.2,bB]
def Kd {n:Nat}:fL (n+1) (-1)=some n:=by
 unfold fL;rw[ð (by omega),é (by omega)];congr 1;omega
def VA {xs:List D} {x:D}:dS (xs++[x]) (-1)=some x:=by
 unfold dS;rw[í,Ũ,Kd];simp
def SN {s:af} {k:Nat} {ds:List D} {x:D} (h:s[k]?=some (.lst (ds++[x]))):aI (.ao k) (.int (-1)) s=ok x s:=by
 unfold aI j8 res;simp only[h,VA];rfl
def QU {s:af} {k:Nat} {ds:List D} {x y:D} (h:s[k]?=some (.lst (ds++[x]))):iM (.ao k) (.int (-1)) y s=some (s.set k (.lst (ds++[y]))):=by
 unfold iM;simp only[h];have e:fL (ds++[x]).length (-1)=some ds.length:=by rw[í,Ũ,Kd]
 rw[e];simp
theorem zD (b:Nat->Bool):∀n,(bb b n).length<=n
 |0=>aal _
 |n+1=>by
  have:=zD b n;unfold bb;split
  ·rename_i h
   simp only[í,List.length_dropLast,á,û];omega
  ·split
   ·simp;omega
   ·omega
def N2 {b:Nat->Bool} {n:Nat} (h:dW b n=true):∃L d e,bb b n=L++[(d,e)]:=by
 rcases JG (b:=b) n n (aal _) with ⟨Z,_⟩ | ⟨_,S,d,_,_,_,e⟩
 ·rw[h] at Z;cases Z
 ·exact⟨_,_,_,e⟩
def SO {b:Nat->Bool} {s:af}:rz [.lst ((Ó 31).map λi=>.bl (b i))] s=ok (.lst ((bb b 31).map kf)) (s++[.dead]):=by
 refine aaj ?_;unfold rz;simp only[jK,á,û,Nat.reduceAdd,Nat.reduceSub,Ï,Þ,ĵ,ė,Į,Zq,fQ,kz,ow,n6,cV,ģ,Ĥ,ff,jc];refine⟨by decide,?_⟩;refine aai (fS (n:=31) rfl (by decide)) ?_;refine Wp.iQ (λi env Z=>i<=31->∃a2,env=[some (.lst ((Ó 31).map λi=>.bl (b i))),some (.ao s.length),a2]/\Z=s++[.lst ((bb b i).map kf)]) _ (λ_=>⟨_,rfl,rfl⟩) (λi d env Z Y X=>?_) (λenv Z X=>?_)
 ·rw[ia] at Y
  split at Y
  ·rename_i hi
   cases Y;obtain⟨a2,rfl,rfl⟩:=X (by omega);refine⟨_,rfl,?_⟩;simp only[ģ,Ĥ,Z9];have cell:(s++[Cell.lst ((bb b i).map kf)])[s.length]?=some (.lst ((bb b i).map kf)):=by simp
   have upd:∀c:Cell,(s++[Cell.lst ((bb b i).map kf)]).set s.length c=s++[c]:=λc=>by simp[YB]
   have ln:=zD b i;have app:(b i&&dW b i)=false->Wp (bS (cI (e2 aI (aa 0) (aa 2))) (cM (gB (aa 1) (bL (ae (aa 2) (ae (aa 2) ah))))) cf [some (.lst ((Ó 31).map λi=>.bl (b i))),some (.ao s.length),some (.int i)] (s++[.lst ((bb b i).map kf)])) λW Z=>W=.nx [some (.lst ((Ó 31).map λi=>.bl (b i))),some (.ao s.length),some (.int i)]/\Z=s++[.lst ((bb b (i+1)).map kf)]:=λO=>by
    rw[jF];simp only[VC,Co (show 0<=(i:Int)/\(i:Int)<31 by omega),č]
    have V:bb b (i+1)=if (b i&&dW b i)=true then (bb b i).dropLast++[(((bb b i).getLast?.getD (0,0)).1,i)] else if b i=true then bb b i++[(i,i)] else bb b i:=rfl
    rw[V,O]
    cases U:b i with
    |false=>simp
    |true =>
     simp only[ø,Ã,ã]
     refine⟨by simp only[iL,cell],by decide,aai (show iy _ _ _=ok .au (s++[.lst ((bb b i++[(i,i)]).map kf)]) from ?_) (by first|exact⟨rfl,rfl⟩|rfl)⟩
     unfold iy;simp only[cell];rw[é (by rw[Å,Ä];exact Ë (show (bb b i).length<1000 by omega) (le_size (by decide))),upd,ü];rfl
   rw[jF];simp only[qa,kC,kI,dI,dJ,Co (show 0<=(i:Int)/\(i:Int)<31 by omega),č,aQ,ie]
   cases U:b i with
   |false =>
    simp only[Ã,ã];exact(app (by rw[U];rfl)).mono λW R h=>by obtain⟨rfl,rfl⟩:=h;exact λ_=>⟨_,rfl,rfl⟩
   |true =>
    simp only[ø,mK,kI,iR,dI,dJ,sS,nU];by_cases Q:0<i
    ·rw[ß (show (i:Int) > 0 by omega)]
     simp only[ø,sk,Co (show 0<=(i:Int)-1/\(i:Int)-1<31 by omega),aQ,ie];rw[show ((i:Int)-1).toNat=i-1 by omega];have T:dW b i=b (i-1):=by unfold dW;rw[ß Q];rfl
     cases S:b (i-1) with
     |false =>
      simp only[Ã,ã];exact(app (by rw[T,S,Bool.and_false])).mono λW R h=>by obtain⟨rfl,rfl⟩:=h;exact λ_=>⟨_,rfl,rfl⟩
     |true =>
      simp only[ø];obtain⟨L,d,e,P⟩:=N2 (b:=b) (n:=i) (by rw[T];exact S);rw[P,ü] at cell upd |-;rw[sj];simp only[mJ,dX,cV,kI,tF,dI,dJ,iR];refine aai (show tu (.int 1) _=ok (.int (-1)) _ from rfl) ?_;refine aai (SN cell) ?_;refine aai (show aI (kf (d,e)) (.int 0) _=ok (.int d) _ from rfl) ?_;refine⟨le_size (by simp only[á,û];decide),aai (show tu (.int 1) _=ok (.int (-1)) _ from rfl) ⟨_,QU cell,λ_=>⟨_,rfl,?_⟩⟩⟩;rw[upd]
      have V:bb b (i+1)=if (b i&&dW b i)=true then (bb b i).dropLast++[(((bb b i).getLast?.getD (0,0)).1,i)] else if b i=true then bb b i++[(i,i)] else bb b i:=rfl
      have:bb b (i+1)=L++[(d,i)]:=by
       rw[V,U,T,S,P];simp
      rw[this,ü];rfl
    ·rw[ñ (show ¬ (i:Int) > 0 by omega)]
     simp only[Ã,ã];exact(app (by unfold dW;rw[ñ Q];simp)).mono λW R h=>by obtain⟨rfl,rfl⟩:=h;exact λ_=>⟨_,rfl,rfl⟩
  ·cases Y
 ·rw[fe] at X
  obtain⟨a2,rfl,rfl⟩:=X (aal _);simp only[ig,ff,ij,sQ,dI,dJ];exact aai QT ⟨rfl,rfl⟩
theorem Ht {α:Type} (d:α->D) (h:α->List D):∀(xs:List α) (s:af),(∀x∈xs,∃env,g (d x) lP=some env/\(∀s,t env s=ok true s)/\∀s,Wp (act env s) λys s'=>ys=h x/\∃c,s'=s++c) ->
  Wp (gU g t act lP (xs.map d) s) λys s'=>ys=xs.flatMap h/\∃c,s'=s++c
 | [],s,_=>by
  rw[ĵ];unfold gU;rw[aQ];exact⟨rfl,[],by simp⟩
 |x::xs,s,Y=>by
  obtain⟨env,X,W,V⟩:=Y x Î;rw[Þ];unfold gU;rw[X];simp only[W,lJ,eM,ø,bp,ou];refine(V s).mono λys S Z=>?_;obtain⟨rfl,c,rfl⟩:=Z;refine(Ht d h xs (s++c) λy Z=>Y y (Ð _ Z)).mono λzs R U=>?_;obtain⟨rfl,T,rfl⟩:=U;rw[aQ,List.flatMap_cons];exact⟨rfl,c++T,by rw[ĕ]⟩
abbrev cS (h l:List Int):D:=.tup [mD h,mD l]
def gn (ps:List Pg) (m:Int) (h l:List Int) (d:Nat):Bool:=h.all (λk=>!ab (lN ps m k) (mN ps m k) d)&&l.all λk=>!pr (sN ps m k) (mN ps m k) d
structure Sh (h l:List Int):Prop where
 a:cx 8 h
 b:cx 8 l
 ap:∀x∈h,x∉l
def GD (hk:cx 8 h):jG h (k8.filter p)=h.all λk=>!p k:=by
 unfold jG;rw[List.not_any_eq_all_not];rw[Ĩ,ë,ë];have e:∀x∈h,(!decide (x∈k8.filter p))=!p x:=λx Z=>by
  congr 1;rw[Ĩ,Å,ê];exact⟨λz=>z.2,λz=>⟨jH.mpr (hk.lo x Z),z⟩⟩
 exact⟨λz x Z=>by rw[<- e x Z];exact z x Z,λz x Z=>by rw[e x Z];exact z x Z⟩
def Pf {m:Int} {h l:List Int} {d:Nat} (hs:Sh h l) (hd:d<=30):se [cS h l,dO (cy ps m) (bU ps m) d] s=ok (.bl (gn ps m h l d)) s:=by
 refine aaj ?_;have Z:=hs.a.len;have Y:=hs.b.len;unfold se dO gn;simp only[VC];refine aai (i5 _ _ _).1 (aai (i5 _ _ _).2 ?_);refine aai (zA (by omega)) ?_;rw[GD hs.a];simp only[VC,sv hd]
 cases h.all λk=>!ab (lN ps m k) (mN ps m k) d with
 |false=>simp
 |true =>
  simp only[ø,Ā];refine aai (i5 _ _ _).2 (aai (i5 _ _ _).1 ?_);refine aai (zA (by omega)) ?_;rw[GD hs.b];simp only[su hd,Ħ]
def N3 (hs:Sh h l):vB [cS h l] s=ok .au s:=by
 refine aaj ?_;have Y:=hs.a.len;have X:=hs.b.len;unfold vB;simp only[VC];refine aai (GA (by omega) (by omega)) ?_;rw[pP hs.a (aal _),pP hs.b (aal _),show jG h l=true by unfold jG;rw[ě,YK];intro x Z;simpa using hs.ap x Z];simp only[VC,Ķ,ï,Ã,ã,Ħ]
def fx (ps:List Pg) (h l:List Int):List D:=m4.flatMap λm=>(bb (gn ps m h l) 31).map λp=>D.tup [.int m,.int p.1,.int p.2]
def ID (ps:List Pg) (h l:List Int):(fx ps h l).length<=124:=by
 unfold fx;refine è (nO (b:=31) λm _=>?_) (by decide);rw[Ä];exact zD _ 31
def ze (hl:ps.length<=1000) (hf:∀p∈ps,iS p) (hb:cG ps=true) (hs:Sh h l):Wp (pL [bD ps,cS h l] s) λx s'=>x=.lst (fx ps h l)/\∃c,s'=s++c:=by
 unfold pL;rw[jK];refine⟨rfl,?_⟩;rw[fQ,pZ];simp only[wp_call,dX,cV,dI,dJ,Þ,ĵ,ė,Į,Ï,Nat.reduceSub];refine aai (zB hl hf hb) ?_;rw[ff,fQ,pZ];simp only[wp_call,dX,cV,dI,dJ];refine aai (N3 hs) ?_;rw[ff,ig,zz];refine aai (fS (n:=4) rfl (by decide)) ?_;rw[show bc 0 4=m4.map D.int from rfl];refine(Ht D.int (λm=>(bb (gn ps m h l) 31).map λp=>D.tup [.int m,.int p.1,.int p.2]) m4 s λm X=>⟨[some (.int m),none,none,some (cS h l),some (bD ps)],rfl,λ_=>rfl,λs=>?_⟩).mono λW s' Z=>?_
 ·unfold more
  rw[bp];have hi:∃c,bG (ar rz (ae (bC 1 [3] (bG (ar lj (ae (aa 4) (ae (aa 0) ah)))) (gN 0) cR (ar se (ae (aa 1) (ae (aa 0) ah)))) ah)) [some (.int m),none,none,some (cS h l),some (bD ps)] s=ok ((bb (gn ps m h l) 31).map kf) (s++c):=by
   obtain⟨x,s',e,rfl,c,rfl⟩:=Ai (m:=m) (s:=s) hl;refine⟨c++[.dead],iD (aaj ?_)⟩;simp only[wp_call,dX,cV,lB];refine aai (iD (s1:=s++c) (ds:=dh.map (dO (cy ps m) (bU ps m))) (aaj ?_)) ⟨by rw[Ä];exact le_size (by decide),?_⟩
   ·simp only[wp_call,dX,cV,dI,dJ]
    exact aai e ⟨rfl,rfl⟩
   refine aai (comp_map (dO (cy ps m) (bU ps m)) (λ_=>true) (λd=>.bl (gn ps m h l d.toNat)) dh λd Y=>⟨[some (dO (cy ps m) (bU ps m) d),some (cS h l)],rfl,rfl,λ_=>?_⟩) ?_
   ·refine aaj ?_
    obtain⟨i,hi,rfl⟩:=å.mp Y;rw[ò] at hi;simp only[wp_call,dX,cV,dI,dJ];exact aai (Pf hs (by omega)) ⟨rfl,rfl⟩
   ·rw[filter_tt]
    unfold dh;rw[ĉ];refine aai (SO (b:=gn ps m h l)) ⟨rfl,?_⟩;rw[ĕ]
  obtain⟨c,hi⟩:=hi;refine aai hi ?_;refine aai (ql kf (λ_=>true) (λp=>[D.tup [.int m,.int p.1,.int p.2]]) (bb (gn ps m h l) 31) λp V=>⟨[some (.int m),some (.int p.1),some (.int p.2),some (cS h l),some (bD ps)],rfl,rfl,λ_=>?_⟩) ?_
  ·refine aaj ?_
   unfold emit;rw[bp];simp only[VC]
   first|exact⟨by decide,rfl,trivial⟩|exact⟨by decide,trivial⟩|decide
  ·rw[filter_tt,<- Z5]
   exact⟨rfl,c,rfl⟩
 ·obtain⟨rfl,c,rfl⟩:=Z
  refine⟨le_size (è (ID ps h l) (by decide)),?_⟩;rw[ij];exact⟨rfl,c,rfl⟩
theorem E6:∀n,(∀x,x<n->b x=b' x)->bb b n=bb b' n
 |0,_=>rfl
 |n+1,h=>by
  have ih:=E6 n λx Y=>h x (by omega);have e:dW b n=dW b' n:=by
   unfold dW;by_cases Z:0<n
   ·rw[h (n-1) (by omega)]
   ·rw[ñ Z,ŭ,ŭ]
  unfold bb;rw[ih,e,h n (by omega)]
def FO (h:bA s k):Wp (rS [.ao k] s) λd s'=>∃a b,d=cS a b/\Sh a b/\bA s' k/\Ex k s s':=by
 unfold rS;simp only[VC];refine(Gu (n:=8) h (by omega)).mono λd t1 V=>?_;obtain⟨Z,rfl,U,T,e1⟩:=V;refine(Gu (n:=8) T (by omega)).mono λd X hd2=>?_;obtain⟨Y,rfl,W,S,e2⟩:=hd2;refine⟨by decide,?_⟩
 try simp only[VC]
 refine aai (mw (ds:=Y.map D.int) rfl) ⟨mM (by rw[Ä];have:=W.len;omega),?_⟩;refine aai (i9 (λx=>!decide (x∈Z)) (λx=>.int x) Y λx _=>⟨[some (.int x),some (mD Z)],rfl,?_,λ_=>rfl⟩) ?_
 ·refine aaj ?_
  simp only[VC,pO,Ħ]
 ·refine aai (show dw [.lst ((Y.filter λx=>!decide (x∈Z)).map λx=>.int x)] X=ok (mD (Y.filter λx=>!decide (x∈Z))) X from rfl) ?_
  exact⟨by decide,Z,_,rfl,⟨U,W.filter _,λx R Q=>by simpa [R] using (ê.mp Q).2⟩,S,e1.trans e2⟩
def jI (ps:List Pg) (m d:Int):List Int:=k8.filter λk=>decide (d∈cy ps m k)
def lL (ps:List Pg) (m d:Int):List Int:=k8.filter λk=>!decide (d∈bU ps m k)
def gO (F:Int->List Int):D:=.tup (dh.map λd=>mD (F d))
def Ph {ps:List Pg} {m:Int} {s:af} (hl:ps.length<=1000) (hf:∀p∈ps,iS p) (hb:cG ps=true) (hm:0<=m/\m<4):Wp (nH [bD ps,.int m] s) λx s'=>x=gO (jI ps m)/\∃c,s'=s++c:=by
 unfold nH;simp only[VC];refine aai (zB hl hf hb) (aai (FN hm) ?_);obtain⟨c,e⟩:=GC (m:=m) (s:=s) (r:=[]) hl;refine aai e ⟨le_size (by rw[Ä];decide),?_⟩;refine aai (comp_map (dO (cy ps m) (bU ps m)) (λ_=>true) (λd=>mD (jI ps m d)) dh λd _=>⟨[some (mD (jI ps m d)),some (mD (k8.filter λk=>decide (d∈bU ps m k)))],rfl,rfl,λ_=>rfl⟩) ?_;rw[filter_tt];exact⟨_,_,rfl,rfl,c,rfl⟩
def QV {ps:List Pg} {m:Int} {s:af} (hl:ps.length<=1000) (hf:∀p∈ps,iS p) (hb:cG ps=true) (hm:0<=m/\m<4):Wp (nK [bD ps,.int m] s) λx s'=>x=gO (lL ps m)/\∃c,s'=s++c:=by
 unfold nK;simp only[VC];refine aai (zB hl hf hb) (aai (FN hm) ?_);obtain⟨c,e⟩:=GC (m:=m) (s:=s) (r:=[]) hl;refine aai e ⟨le_size (by rw[Ä];decide),?_⟩;refine aai (comp_map (dO (cy ps m) (bU ps m)) (λ_=>true) (λd=>mD (lL ps m d)) dh λd _=>⟨[some (mD (jI ps m d)),some (mD (k8.filter λk=>decide (d∈bU ps m k)))],rfl,rfl,λ_=>?_⟩) ?_
 ·refine aaj ?_
  simp only[VC];refine aai (fS (n:=8) rfl (by decide)) ⟨by rw[fe];exact le_size (by decide),?_⟩;rw[Kc];refine aai (i9 (λk=>!decide (d∈bU ps m k)) (λk=>.int k) k8 λk Z=>⟨[some (.int k),some (mD (k8.filter λk=>decide (d∈bU ps m k)))],rfl,?_,λ_=>rfl⟩) ?_
  ·refine aaj ?_
   simp only[VC,pO,ê,Z,Zq,Å,Ħ]
  ·exact⟨_,_,rfl,rfl,rfl⟩
 rw[filter_tt];exact⟨_,_,rfl,rfl,c,rfl⟩
structure Lf (md:List Int) (b:Bool) (n:Nat) (ns:List Int):Prop where
 len:ns.length<=n
 lo:∀d∈ns,0<=d/\d<n/\d∉md
 on:∀d∈ns,d+1<n->d+1∉md->d+1∈ns
 la:0<n->(n:Int)-1∈ns->b=true
def Lf.put (h:Lf md b n ns) (hn:(n:Int)∉md):Lf md true (n+1) (ns++[(n:Int)]):=by
 refine⟨by rw[í,Ũ];have:=h.len;omega,λd hd=>?_,λd hd Z Y=>?_,λ_ _=>rfl⟩
 ·rcases â.mp hd with hd|hd
  ·have:=h.lo d hd
   exact⟨this.1,by omega,this.2.2⟩
  ·rw[Ø.mp hd]
   exact⟨by omega,by omega,hn⟩
 ·rcases â.mp hd with hd|hd
  ·by_cases e:d+1=n
   ·exact â.mpr (.inr (Ø.mpr e))
   ·exact â.mpr (.inl (h.on d hd (by omega) Y))
  ·rw[Ø.mp hd] at Z
   omega
def Lf.pass (h:Lf md b n ns) (hn:b=true->(n:Int)∈md):Lf md false (n+1) ns:=by
 refine⟨by have:=h.len;omega,λd Z=>?_,λd Z X Y=>?_,λ_ Z=>?_⟩
 ·have:=h.lo d Z
  exact⟨this.1,by omega,this.2.2⟩
 ·by_cases e:d+1=n
  ·exfalso
   have W:=(h.lo d Z).1;have:=h.la (by omega) (by rw[show (n:Int)-1=d by omega];exact Z);exact Y (by rw[e];exact hn this)
  ·exact h.on d Z (by omega) Y
 ·have:=h.lo _ Z
  omega
def FP {j:Nat} {x:Int} {ns:List Int} (e:s[j]?=some (.lst (ns.map D.int))):dH (.int x) (.ao j) s=ok (.bl (!decide (x∈ns))) s:=by
 have Z:dH (.int x) (.ao j) s=dH (.int x) (lI ns) s:=by simp only[dH,oq,res,e]
 exact Z.trans nN
def Hu (e:s[j]?=some (.lst (ns.map D.int))) (hn:ns.length<1000):iL (.ao j) s=true/\iy (.ao j) (.int x) s=ok .au (s.set j (.lst ((ns++[x]).map D.int))):=by
 refine⟨by simp only[iL,e],?_⟩;unfold iy;simp only[e];rw[é (by rw[Å,Ä];exact Ë hn (le_size (by decide)))];simp
def N4 {k m:Nat} {md:List Int} (h:bA s k) (hm:s[m]?=some (.lst (md.map D.int))) (K8:m≠k):Wp (pX [.ao k,.ao m] s) λd s'=>∃(ds:List Int) (b:Bool),d=lI ds/\Lf md b 31 ds/\bA s' k/\Ex k s s':=by
 unfold pX;rw[jK];refine⟨rfl,?_⟩;rw[fQ];refine Wp.JE ?_
 try simp only[VC]
 refine(fF h (by decide) (by decide)).mono λd t1 H=>?_;obtain⟨t,rfl,r,q,K,e1⟩:=H
 try simp only[VC]
 refine⟨by decide,?_⟩;have Q:t1.length≠k:=by have:=K.lt;omega
 refine(fF (K.app _) (by decide) (by decide)).mono λd J hd2=>?_;obtain⟨T,rfl,p,o,G,e2⟩:=hd2
 try simp only[VC]
 refine⟨_,_,_,rfl,?_⟩
 try simp only[VC]
 have I:Ex k s J:=e1.trans ((Ex.app k t1 _).trans e2);have F:J[t1.length]?=some (.lst (([]:List Int).map D.int)):=(e2.val t1.length (by simp) Q).trans (by simp);have X:s.length<=t1.length:=e1.len;refine aai (fS (n:=31) rfl (by decide)) ?_;have E:=(Ç.mp hm).1;have C:m≠t1.length:=by omega
 refine Wp.iQ (λi env s'=>i<=31->∃b W Y,env=[some (.ao k),some (.ao m),some (.bl b),some (.ao t1.length),some (.int (2+T)),W]/\bA s' k/\s'[t1.length]?=some (.lst (Y.map D.int))/\Lf md b i Y/\s'[m]?=some (.lst (md.map D.int))/\Ex k s s') _ (λ_=>⟨_,_,[],rfl,G,F,⟨aal _,by simp,by simp,by simp⟩,(I.val m E K8).trans hm,I⟩) (λi d env s' P O=>?_) (λenv s' O=>?_)
 ·rw[ia] at P
  split at P
  ·rename_i hi
   cases P;obtain⟨b,W,Y,rfl,g1,g2,gl,g3,N⟩:=O (by omega);refine⟨_,rfl,?_⟩;simp only[VC,Z9];have fin:∀(c:Bool) (Z:af),(c=true->(i:Int)∉md)->(c=false->b=true->(i:Int)∈md)->bA Z k->Z[t1.length]?=some (.lst (Y.map D.int))->Z[m]?=some (.lst (md.map D.int))->Ex k s Z ->
     if c=true then iL (.ao t1.length) Z=true/\Wp (iy (.ao t1.length) (.int (i:Int)) Z) λx M=>i+1<=31->∃b W Y,([some (.ao k),some (.ao m),some (.bl c),some (.ao t1.length),some (.int (2+T)),some (.int (i:Int))]:Env)=[some (.ao k),some (.ao m),some (.bl b),some (.ao t1.length),some (.int (2+T)),W]/\bA M k/\M[t1.length]?=some (.lst (Y.map D.int))/\Lf md b (i+1) Y/\M[m]?=some (.lst (md.map D.int))/\Ex k s M
     else i+1<=31->∃b W Y,([some (.ao k),some (.ao m),some (.bl c),some (.ao t1.length),some (.int (2+T)),some (.int (i:Int))]:Env)=[some (.ao k),some (.ao m),some (.bl b),some (.ao t1.length),some (.int (2+T)),W]/\bA Z k/\Z[t1.length]?=some (.lst (Y.map D.int))/\Lf md b (i+1) Y/\Z[m]?=some (.lst (md.map D.int))/\Ex k s Z:=λc Z B A S V U R=>by
    cases c with
    |true =>
     obtain⟨y,w⟩:=Hu (x:=(i:Int)) V (by have:=gl.len;omega);rw[é rfl];exact⟨y,aai w λ_=>⟨_,_,_,rfl,S.set Q _,ì (Ç.mp V).1,gl.put (B rfl),(Ù (ų C)).trans U,R.pB X _⟩⟩
    |false =>
     rw[ð Ö];exact λ_=>⟨_,_,_,rfl,S,V,gl.pass (A rfl),U,R⟩
   cases b with
   |true =>
    simp only[ø];refine aai (FP (x:=(i:Int)) g3) ?_;simp only[ie];exact fin _ s' (by simp) (by simp) g1 g2 g3 N
   |false =>
    simp only[Ã,ã];refine(fF g1 (by omega) (by omega)).mono λd Z hd2=>?_;obtain⟨v,rfl,_,_,S,L⟩:=hd2;have V:=(L.val _ (Ç.mp g2).1 Q).trans g2;have U:=(L.val _ (Ç.mp g3).1 K8).trans g3;have R:=N.trans L;simp only[sU,nU]
    cases (v==0) with
    |true =>
     simp only[ø];refine aai (FP (x:=(i:Int)) U) ?_;simp only[ie];exact fin _ Z (by simp) (λ_ z=>by cases z) S V U R
    |false =>
     simp only[Ã,ã,ie];exact fin false Z (λz=>by cases z) (λ_ z=>by cases z) S V U R
  ·cases P
 ·rw[fe] at O
  obtain⟨b,W,Y,rfl,g1,u,gl,g3,N⟩:=O (aal _);simp only[VC];refine aai (show bE (.ao t1.length) s'=ok (lI Y) (s'.set t1.length .dead) from by simp only[bE,u]) ?_;exact⟨Y,b,rfl,gl,g1.set Q _,N.pB X _⟩
def cZ (W:Ĉ) (R T:Pg->Prop) (s:af) (j n:Nat):Prop:=∃Z:List Pg,s[j]?=some (.dT (Z.map λp=>(p.d,hs W p.d)))/\(Z.Nodup/\(∀p∈Z,R p)/\∀p,T p->p∈Z)/\Z.length<=n
section
variable {W:Ĉ} {R T:Pg->Prop} {s s':af} {j n k:Nat}
def cZ.lt (h:cZ W R T s j n):j<s.length:=by
 obtain⟨Z,e,_⟩:=h;exact(Ç.mp e).1
def cZ.ex (h:cZ W R T s j n) (x:Ex k s s') (hj:j≠k):cZ W R T s' j n:=by
 have Z:=h.lt;obtain⟨Y,e,r⟩:=h;exact⟨Y,(x.val j Z hj).trans e,r⟩
def cZ.more (h:cZ W R T s j n) (hm:n<=m):cZ W R T s j m:=by
 obtain⟨Z,e,r,l⟩:=h;exact⟨Z,e,r,by omega⟩
theorem cZ.set (h:cZ W R T s j n) (hi:i≠j) (c:Cell):cZ W R T (s.set i c) j n:=by
 obtain⟨Z,e,r⟩:=h;exact⟨Z,by rw[Ù hi];exact e,r⟩
def cZ.mono (h:cZ W R T s j n) (hR:∀p,R p->R' p) (hT:∀p,T' p->T p):cZ W R' T' s j n:=by
 obtain⟨Y,e,r,l⟩:=h;exact⟨Y,e,⟨r.1,λp Z=>hR p (r.2.1 p Z),λp Z=>r.2.2 p (hT p Z)⟩,l⟩
def Aj (h:cZ W R T s j n) (hf:R p) (hn:n<1000):∃c,jT W (.ao j) p.d (.bl true) s=some (s.set j c)/\cZ W R (λq=>T q\/q=p) (s.set j c) j (n+1):=by
 have Q:=h.lt;obtain⟨Y,e,Z,len⟩:=h;obtain⟨N,V,M,L⟩:=kA p;have P:=Iw W Y;generalize X:(Y.map λp=>(p.d,hs W p.d))=U at e P;have E:U.length=Y.length:=by rw[<- X,Ä]
 refine⟨.dT (TK.fK W U (.tup N)),?_,?_⟩
 ·rw[V]
  unfold jT;simp only[e];rw[é];rw[M,ß L,P,ß (Ë (show U.length<1000 by omega) (le_size (by decide)))];rfl
 ·unfold TK.fK
  split
  ·rename_i K
   obtain⟨D,O,J⟩:=Ő.mp K;rw[<- X] at O;obtain⟨q,hq,rfl⟩:=å.mp O;have eq:q=p:=Pg.A9 ((n5 _ _ (jh q) (jh p)).mp (by rw[V];exact J));subst eq;exact⟨Y,by rw[X];exact ì Q,⟨Z.1,Z.2.1,λI S=>by
    rcases S with S|rfl
    ·exact Z.2.2 I S
    ·exact hq⟩,by omega⟩
  ·rename_i H
   refine⟨Y++[p],?_,⟨Ż.mpr ⟨Z.1,by simp,λa G b F=>?_⟩,λq hq=>?_,λq hq=>?_⟩,by simp;omega⟩
   ·rw[ì Q,ü,X]
    simp only[Þ,ĵ,V]
   ·rw[Ø.mp F]
    rintro rfl;refine H (Ő.mpr ⟨(a.d,hs W a.d),?_,?_⟩)
    ·rw[<- X];exact å.mpr ⟨a,G,rfl⟩
    ·rw[<- V];exact(n5 _ _ (jh a) (jh a)).mpr rfl
   ·rcases â.mp hq with hq|hq
    ·exact Z.2.1 q hq
    ·rw[Ø.mp hq];exact hf
   ·rcases hq with hq|rfl
    ·exact â.mpr (.inl (Z.2.2 q hq))
    ·exact â.mpr (.inr (Ø.mpr rfl))
def cZ.plain (h:cZ W R T s j n):eG W R s j n:=by
 obtain⟨Z,e,r,l⟩:=h;exact⟨Z,e,⟨r.1,r.2.1⟩,l⟩
end
structure BJ (W:Ĉ) (k j b n:Nat) (s0 s:af) (M:Nat->List Int) (R T:Pg->Prop):Prop where
 st:bA s k
 dict:cZ W R T s j n
 aO:∀i,i<8->s[b+i]?=some (.lst ((M i).map D.int))
 ext:Ex k s0 s
section
variable {W:Ĉ} {k j b n:Nat} {s0 s:af} {M:Nat->List Int} {R T:Pg->Prop}
def BJ.draw (h:BJ W k j b n s0 s M R T) (hj:j≠k) (hb:∀i,i<8->b+i≠k) (x:Ex k s s') (hs:bA s' k):BJ W k j b n s0 s' M R T :=
 ⟨hs,h.dict.ex x hj,λi hi=>(x.val _ (Ç.mp (h.aO i hi)).1 (hb i hi)).trans (h.aO i hi),h.ext.trans x⟩
def BJ.put (h:BJ W k j b n s0 s M R T) (hj:j≠k) (ke:∀i,i<8->b+i≠j) (hl:s0.length<=j) (hf:R p) (hn:n<1000):∃s',jT W (.ao j) p.d (.bl true) s=some s'/\BJ W k j b (n+1) s0 s' M R (λq=>T q\/q=p)/\Ex j s s':=by
 obtain⟨c,e,d⟩:=Aj h.dict hf hn;exact⟨_,e,⟨h.st.set hj c,d,λi hi=>(Ù (ų (ke i hi))).trans (h.aO i hi),h.ext.pB hl c⟩,Ex.set j s c⟩
def MY (h:BJ W k j b n s0 s M R T) (hj:j≠k) (hb:∀i,i<8->b+i≠k) (ke:∀i,i<8->b+i≠j) (hl:s0.length<=j) (WU:s0.length<=b) (hn:n<1000) (hq:∀i,i<8->(M i).length<1000)
 (g:∀(x:Nat) (d:Int) (b8 b9:Option D) (s':af),x<8->0<=d/\d<31->(∀{R':Pg->Prop},(∀p,R p->R' p)->R' (.aO mu d x)->BJ W k j b (n+1) s0 s' (λi=>if i=x then M i++[d] else M i) R' (λq=>T q\/q=.aO mu d x))->(∀t,t<s.length->t≠k->t≠j->(∀i,i<8->b+i≠t)->s'[t]?=s[t]?)->Q (.nx [some (.ao k),some (.ao j),some (.int mo),some (.int of),some (.int mu),some (memD b),a6,a7,b8,b9,rl,rm]) s') :
  Wp ((ax (aR (bL (ae (ar bJ (ae (aa 0) (ae (eC (.int 8)) ah))) (ae (ar bJ (ae (aa 0) (ae (eC (.int 31)) ah))) ah))) (gT [(gN 8),(gN 9)])) (ax (cM (gB (e2 aI (aa 5) (aa 8)) (aa 9))) (TK.lK W (eC (.bl true)) (aa 1) (bL (ae (eC (.str "mended")) (ae (aa 4) (ae (aa 9) (ae (aa 8) ah)))))))) [some (.ao k),some (.ao j),some (.int mo),some (.int of),some (.int mu),some (memD b),a6,a7,a8,a9,rl,rm] s) Q:=by
 simp only[VC];refine(fF h.st (by decide) (by decide)).mono λd t1 L=>?_;obtain⟨U,rfl,K,J,I,e1⟩:=L;refine(fF I (by decide) (by decide)).mono λd S hd2=>?_;obtain⟨Z,rfl,H,G,F,e2⟩:=hd2;refine⟨by decide,?_⟩
 try simp only[VC]
 refine aai (Iy K J) ?_;obtain⟨y,rfl⟩:∃y:Nat,U=y:=⟨U.toNat,by omega⟩;rw[č];have Y:y<8:=by omega
 have X:=h.draw hj hb (e1.trans e2) F;obtain⟨E,C⟩:=Hu (x:=Z) (X.aO y Y) (hq y Y);refine⟨E,aai C ?_⟩;have B:=hb y Y;have A:=ke y Y
 have V:BJ W k j b n s0 (S.set (b+y) (.lst ((M y++[Z]).map D.int))) (λi=>if i=y then M i++[Z] else M i) R T:=⟨X.st.set B _,X.dict.set A _,λi hi=>by
  by_cases P:i=y
  ·subst P
   rw[é rfl];exact ì (Ç.mp (X.aO i hi)).1
  ·rw[ð P,Ù (by omega)]
   exact X.aO i hi,X.ext.pB (by omega) _⟩
 rw[Hk];simp only[VC];refine⟨by decide,?_⟩;obtain⟨c,O,f⟩:=Aj (p:=.aO mu Z y) (R:=λ_=>True) (T:=T) (V.dict.mono (λ_ _=>trivial) λ_ h=>h) trivial hn;refine⟨_,O,g y Z _ _ _ Y ⟨H,G⟩ (λ{R'} z w=>?_) λt v u r o=>?_⟩
 ·obtain⟨N,m,l⟩:=Aj (p:=.aO mu Z y) (R:=R') (T:=T) (V.dict.mono z λ_ h=>h) w hn
  have eq:=aam (O.symm.trans m);rw[eq];exact⟨V.st.set hj N,l,λi hi=>(Ù (ų (ke i hi))).trans (V.aO i hi),V.ext.pB hl N⟩
 ·have e:s.length<=S.length:=(e1.trans e2).len
  rw[Ù (ų r),Ù (o _ Y),(e1.trans e2).val t v u]
end
abbrev hX (L:Nat->List Int) (n:Nat):List D:=(Ó n).map λx=>lI (L x)
section
variable {W:Ĉ} {k j b n:Nat} {s0 s:af} {M L:Nat->List Int} {R T:Pg->Prop}
def MZ (h:BJ W k j b n s0 s M R T) (hL:s[b+8]?=some (.lst (hX L i))) (hi:i<8) (hj:j≠k) (hb:∀i,i<8->b+i≠k) (kg:b+8≠k) (pF:b+8≠j) (WU:s0.length<=b)
 (g:∀(ds:List Int) (c:Bool) s',Lf (M i) c 31 ds->BJ W k j b n s0 s' M R T->s'[b+8]?=some (.lst (hX (λx=>if x=i then ds else L x) (i+1)))->Q (.nx [some (.ao k),some (.ao j),some (.int mo),some (.int of),some (.int mu),some (memD b),some (.ao (b+8)),a7,some (.int i),a9,rl,rm]) s') :
  Wp ((cM (gB (aa 6) (ar pX (ae (aa 0) (ae (e2 aI (aa 5) (aa 8)) ah))))) [some (.ao k),some (.ao j),some (.int mo),some (.int of),some (.int mu),some (memD b),some (.ao (b+8)),a7,some (.int i),a9,rl,rm] s) Q:=by
 simp only[VC];refine⟨by simp only[iL,hL],?_⟩;refine aai (Iy (i:=(i:Int)) (by omega) (by omega)) ?_;rw[č];refine(N4 h.st (h.aO i hi) (hb i hi)).mono λd t1 X=>?_;obtain⟨ds,c,rfl,lf,V,e1⟩:=X;have Z:=h.draw hj hb e1 V;have Y:t1[b+8]?=some (.lst (hX L i)):=(e1.val _ (Ç.mp hL).1 kg).trans hL
 have ap:iy (.ao (b+8)) (lI ds) t1=ok .au (t1.set (b+8) (.lst (hX (λx=>if x=i then ds else L x) (i+1)))):=by
  unfold iy;simp only[Y];rw[é (by rw[Å,Ä,Ŀ];exact Ë (show i<1000 by omega) (le_size (by decide)))];congr 4;unfold hX;rw[YA,ü];congr 1
  ·refine θ λx U=>?_
   rw[ò] at U
   show lI (L x)=lI (if x=i then ds else L x)
   rw[ð (by omega)]
  ·simp
 refine aai ap (g ds c _ lf ⟨Z.st.set kg _,Z.dict.set pF _,λi hi=>(Ù (by omega)).trans (Z.aO i hi),Z.ext.pB (by omega) _⟩ (ì (Ç.mp Y).1))
def M0 (h:BJ W k j b n s0 s M R T) (hL:s[b+8]?=some (.lst (hX L 8))) (hj:j≠k) (hb:∀i,i<8->b+i≠k) (kg:b+8≠k) (ke:∀i,i<8->b+i≠j) (pF:b+8≠j) (hl:s0.length<=j) (hn:n<1000) (o1:0<of) (o2:of<=3) (ym:0<=mu/\mu<4)
 (hR:∀(d:Int) (u v:List Int),cw (.made mu d u v)=true->(∀x∈u,d∈L x.toNat)->(∀x∈v,d∉L x.toNat)->R (.made mu d u v))
 (g:∀(b9 fy fz:Option D) (s':af),BJ W k j b (n+1) s0 s' M R T->s'[b+8]?=some (.lst (hX L 8))->Q (.nx [some (.ao k),some (.ao j),some (.int mo),some (.int of),some (.int mu),a5,some (.ao (b+8)),a7,a8,b9,fy,fz]) s') :
  Wp ((ax (aR (ar bJ (ae (aa 0) (ae (eC (.int 31)) ah))) (gN 9)) (ax (aR (bC 1 [0,3] (cb (ae (eC (.int 8)) ah)) (gN 0) (aV (e2 cP (ar bJ (ae (aa 1) (ae (aa 2) ah))) (eC (.int 0)))) (aa 0)) (gN 10)) (ax (aR (eB dw (ae (bC 1 [9,6] (bG (aa 10)) (gN 0) (aV (e2 eV (aa 1) (e2 aI (aa 2) (aa 0)))) (aa 0)) ah)) (gN 11)) (TK.lK W (eC (.bl true)) (aa 1) (bL (ae (eC (.str "made")) (ae (aa 4) (ae (aa 9) (ae (bL (ae (aa 11) (ae (eB dw (ae (bC 1 [9,6] (bG (aa 10)) (gN 0) (aV (e2 dH (aa 1) (e2 aI (aa 2) (aa 0)))) (aa 0)) ah)) ah))) ah))))))))) [some (.ao k),some (.ao j),some (.int mo),some (.int of),some (.int mu),a5,some (.ao (b+8)),a7,a8,a9,rl,rm] s) Q:=by
 rw[fQ];simp only[VC];refine(fF h.st (by decide) (by decide)).mono λd t1 G=>?_;obtain⟨Y,rfl,F,E,C,e1⟩:=G;have A:=h.draw hj hb e1 C;have z:t1[b+8]?=some (.lst (hX L 8)):=(e1.val _ (Ç.mp hL).1 kg).trans hL
 try simp only[VC]
 refine aai (fS (n:=8) rfl (by decide)) ⟨by rw[fe];exact le_size (by decide),?_⟩;have seen:Wp (fR 1 (gv [0,3] [some (.ao k),some (.ao j),some (.int mo),some (.int of),some (.int mu),a5,some (.ao (b+8)),a7,a8,some (.int Y),rl,rm]) (gN 0) (aV (e2 cP (ar bJ (ae (aa 1) (ae (aa 2) ah))) (eC (.int 0)))) (aa 0) (bc 0 8) t1)
   λK s'=>∃Z:List Int,K=Z.map D.int/\(∀x∈Z,0<=x/\x<8)/\(Z.Pairwise (· < ·)/\Z.length<=8)/\BJ W k j b n s0 s' M R T/\s'[b+8]?=some (.lst (hX L 8)):=by
  refine wj (λi U s'=>i<=8->∃Z:List Int,U=Z.map D.int/\(∀x∈Z,0<=x/\x<8/\x<i)/\(Z.Pairwise (· < ·)/\Z.length<=i)/\BJ W k j b n s0 s' M R T/\s'[b+8]?=some (.lst (hX L 8))) (bc 0 8) (λ_=>⟨[],rfl,by simp,⟨.nil,aal _⟩,A,z⟩) (λi d U s' S P=>?_) λU s' P=>?_
  ·rw[ia] at S
   split at S
   ·rename_i hi
    cases S;obtain⟨Z,rfl,X,⟨O,y⟩,B,J⟩:=P (by omega);refine⟨[some (.int (0+i)),some (.ao k),some (.int of)],rfl,?_⟩;simp only[VC];refine(fF B.st o1 (by omega)).mono λd V hd2=>?_;obtain⟨m,rfl,_,_,w,e2⟩:=hd2
    try simp only[VC]
    have I:=B.draw hj hb e2 w;have L2:V[b+8]?=some (.lst (hX L 8)):=(e2.val _ (Ç.mp J).1 kg).trans J;split
    ·exact λ_=>⟨Z++[0+(i:Int)],by simp,λx hx=>by
      rcases â.mp hx with hx|hx
      ·have:=X x hx;omega
      ·rw[Ø.mp hx];omega,⟨ZP.mpr ⟨O,Zm _ _,λa t b hb=>by rw[Ø.mp hb];have:=X a t;omega⟩,by simp;omega⟩,I,L2⟩
    ·exact λ_=>⟨Z,rfl,λx hx=>by have:=X x hx;omega,⟨O,by omega⟩,I,L2⟩
   ·cases S
  ·rw[fe] at P
   obtain⟨Z,e,X,r⟩:=P (aal _);exact⟨Z,e,λx hx=>⟨(X x hx).1,(X x hx).2.1⟩,r⟩
 refine seen.mono λK V hx=>?_;obtain⟨Z,rfl,X,⟨O,y⟩,q,le⟩:=hx;have mk:cx 8 Z:=⟨X,O⟩
 try simp only[VC]
 have H:∀x∈Z,aI (.ao (b+8)) (.int x) V=ok (lI (L x.toNat)) V:=λx hx=>by
  have:=X x hx;simp only[aI,j8,res,le,hX,Hq (n:=8) this.1 (by omega),bB]
 refine aai (iD (ds:=Z.map D.int) rfl) ⟨mM (by rw[Ä];omega),?_⟩;refine aai (i9 (λx=>decide (Y∈L x.toNat)) (λx=>.int x) Z λx hx=>⟨[some (.int x),some (.int Y),some (.ao (b+8))],rfl,?_,λ_=>rfl⟩) ?_
 ·refine aaj ?_
  simp only[VC];refine aai (H x hx) ?_;simp only[VC,qz,Ħ]
 refine aai (show dw [.lst ((Z.filter λx=>decide (Y∈L x.toNat)).map λx=>.int x)] V=ok (mD (Z.filter λx=>decide (Y∈L x.toNat))) V from rfl) ?_;rw[Hk];simp only[VC];refine aai (iD (ds:=Z.map D.int) rfl) ⟨mM (by rw[Ä];omega),?_⟩;refine aai (i9 (λx=>!decide (Y∈L x.toNat)) (λx=>.int x) Z λx hx=>⟨[some (.int x),some (.int Y),some (.ao (b+8))],rfl,?_,λ_=>rfl⟩) ?_
 ·refine aaj ?_
  simp only[VC];refine aai (H x hx) ?_;simp only[VC,nN,Ħ]
 refine aai (show dw [.lst ((Z.filter λx=>!decide (Y∈L x.toNat)).map λx=>.int x)] V=ok (mD (Z.filter λx=>!decide (Y∈L x.toNat))) V from rfl) ?_;refine⟨by decide,by decide,?_⟩;obtain⟨s',e,N,o⟩:=q.put hj ke hl (p:=.made mu Y (Z.filter λx=>decide (Y∈L x.toNat)) (Z.filter λx=>!decide (Y∈L x.toNat))) (hR Y _ _ (NX ym ⟨F,E⟩ (mk.filter _) (mk.filter _) (aal _) λx hx hl=>by simpa [(ê.mp hx).2] using (ê.mp hl).2) (λx hx=>by simpa using (ê.mp hx).2) (λx hx=>by simpa using (ê.mp hx).2)) hn;exact⟨s',e,g _ _ _ _ ⟨N.st,N.dict.mono (λ_ h=>h) (λ_ h=>.inl h),N.aO,N.ext⟩ ((o.val _ (Ç.mp le).1 pF).trans le)⟩
end
def yo (mu:Int) (M:Nat->List Int) (p:Pg):Prop:=cw p=true/\∃(d:Int) (x:Nat),x<8/\p=.aO mu d x/\d∈M x
def W0 (mu:Int) (M L:Nat->List Int):Pg->Prop
 | .aO m d k=>m=mu/\d∈M k.toNat
 | .made m d u v=>m=mu/\(∀x∈u,d∈L x.toNat)/\∀x∈v,d∉L x.toNat
def Ag (mu:Int) (M L:Nat->List Int) (p:Pg):Prop:=cw p=true/\W0 mu M L p
def Mr (h:bA s k) (hd:cZ W R0 T0 s j n) (x0:Ex k s0 s) (hj:j≠k) (hl:s0.length<=j) (hn:n<900) (o1:0<of) (o2:of<=3) (ym:0<=mu/\mu<4)
 (g:∀(b5 b6 b7 b8 b9 fy fz:Option D) (s':af) (M L:Nat->List Int),(∀x,x<8->∃c,Lf (M x) c 31 (L x))->bA s' k->cZ W (λp=>R0 p\/Ag mu M L p) (λq=>T0 q\/∃(x:Nat) (d:Int),x<8/\d∈M x/\q=.aO mu d x) s' j (n+7)->Ex k s0 s'->Q (.nx [some (.ao k),some (.ao j),some (.int mo),some (.int of),some (.int mu),b5,b6,b7,b8,b9,fy,fz]) s') :
  Wp ((ax (aR (bL (ae (bC 1 [] (cb (ae (eC (.int 8)) ah)) (gN 0) cR (eNew ah)) (ae (eNew ah) ah))) (gT [(gN 5),(gN 6)])) (ax (eU (cb (ae (ar bJ (ae (aa 0) (ae (eC (.int 4)) ah))) ah)) (gN 7) (ax (aR (bL (ae (ar bJ (ae (aa 0) (ae (eC (.int 8)) ah))) (ae (ar bJ (ae (aa 0) (ae (eC (.int 31)) ah))) ah))) (gT [(gN 8),(gN 9)])) (ax (cM (gB (e2 aI (aa 5) (aa 8)) (aa 9))) (TK.lK W (eC (.bl true)) (aa 1) (bL (ae (eC (.str "mended")) (ae (aa 4) (ae (aa 9) (ae (aa 8) ah))))))))) (ax (eU (cb (ae (eC (.int 8)) ah)) (gN 8) (cM (gB (aa 6) (ar pX (ae (aa 0) (ae (e2 aI (aa 5) (aa 8)) ah)))))) (eU (cb (ae (ar bJ (ae (aa 0) (ae (eC (.int 5)) ah))) ah)) (gN 7) (ax (aR (ar bJ (ae (aa 0) (ae (eC (.int 31)) ah))) (gN 9)) (ax (aR (bC 1 [0,3] (cb (ae (eC (.int 8)) ah)) (gN 0) (aV (e2 cP (ar bJ (ae (aa 1) (ae (aa 2) ah))) (eC (.int 0)))) (aa 0)) (gN 10)) (ax (aR (eB dw (ae (bC 1 [9,6] (bG (aa 10)) (gN 0) (aV (e2 eV (aa 1) (e2 aI (aa 2) (aa 0)))) (aa 0)) ah)) (gN 11)) (TK.lK W (eC (.bl true)) (aa 1) (bL (ae (eC (.str "made")) (ae (aa 4) (ae (aa 9) (ae (bL (ae (aa 11) (ae (eB dw (ae (bC 1 [9,6] (bG (aa 10)) (gN 0) (aV (e2 dH (aa 1) (e2 aI (aa 2) (aa 0)))) (aa 0)) ah)) ah))) ah))))))))))))) [some (.ao k),some (.ao j),some (.int mo),some (.int of),some (.int mu),a5,a6,a7,a8,a9,rl,rm] s) Q:=by
 have hk:=h.lt;have Yh:=hd.lt;have f:s0.length<=s.length:=x0.len;rw[fQ];simp only[kz,mJ,dX,cV];refine QS ?_;simp only[n6,cV];refine⟨by decide,le_size (by simp only[á,û];decide),?_⟩;simp only[tH,rV,si,ģ,Ĥ,ff];generalize J:s++Ï 8 (Cell.lst [])++[Cell.lst []]=s1;have W2:(s++Ï 8 (Cell.lst [])).length=s.length+8:=by simp
 rw[W2];have e1:Ex k s s1:=by rw[<- J,ĕ];exact Ex.app k s _
 have b:BJ W k j s.length n s0 s1 (λ_=>[]) R0 T0:=by
  refine⟨by rw[<- J,ĕ];exact h.app _,hd.ex e1 hj,λi hi=>?_,x0.trans e1⟩;rw[<- J,ĕ,æ (by omega),Õ (by simp;omega),show s.length+i-s.length=i by omega,ī,é hi];rfl
 have a:s1[s.length+8]?=some (.lst []):=by rw[<- J,æ (by simp)];simp
 have O:∀i,i<8->s.length+i≠k:=λi _=>by omega
 have ke:∀i,i<8->s.length+i≠j:=λi _=>by omega
 have N:s.length+8≠k:=by omega
 have F:s.length+8≠j:=by omega
 rw[fQ,jc];obtain⟨_,t1,et,U,rfl,rk,nF,Y,Lb⟩:=fF (m:=4) b.st (by decide) (by decide);refine aai (Ab (s1:=t1) (n:=U.toNat) (i:=U) (aaj (by simp only[VC];exact aai et ⟨rfl,rfl⟩)) (by omega) (by omega)) ?_;have I:=b.draw hj O Lb Y;have L2:t1[s.length+8]?=some (.lst []):=(Lb.val _ (Ç.mp a).1 N).trans a;have W3:BJ W k j s.length n s0 t1 (λ_=>[]) (λp=>R0 p\/yo mu (λ_=>[]) p) (λq=>T0 q\/∃(x:Nat) (d:Int),x<8/\d∈(λ_=>([]:List Int)) x/\q=.aO mu d x) :=
  ⟨I.st,I.dict.mono (λ_ h=>.inl h) (λq V=>by rcases V with V | ⟨x,d,_,hd,_⟩;exact V;exact(þ hd).elim),I.aO,I.ext⟩
 refine Wp.iQ (λi env s'=>i<=U.toNat->∃b7 b8 b9 fy fz M,env=[some (.ao k),some (.ao j),some (.int mo),some (.int of),some (.int mu),some (memD s.length),some (.ao (s.length+8)),b7,b8,b9,fy,fz]/\(∀x,x<8->(M x).length<=i)/\BJ W k j s.length (n+i) s0 s' M (λp=>R0 p\/yo mu M p) (λq=>T0 q\/∃(x:Nat) (d:Int),x<8/\d∈M x/\q=.aO mu d x)/\s'[s.length+8]?=some (.lst [])) _ (λ_=>⟨_,_,_,_,_,_,rfl,λ_ _=>aal _,W3,L2⟩) (λi d env s' hd Z=>?_) (λenv s' Z=>?_)
 ·rw[ia] at hd
  split at hd
  ·cases hd
   obtain⟨b7,b8,b9,fy,fz,M,rfl,E,B,L⟩:=Z (by omega);refine⟨_,rfl,?_⟩
   refine MY B hj O ke hl f (by omega) (λx T=>by have:=E x T;omega) λx d c8 c9 s2 T hd K keep=>(λ_=>⟨_,_,_,_,_,λi=>if i=x then M i++[d] else M i,rfl,λy hy=>?_,?_,(keep _ (Ç.mp L).1 N F λi hi=>by omega).trans L⟩)
   ·have:=E y hy
    show (if y=x then M y++[d] else M y).length<=i+1
    split
    ·rw[í,Ũ];omega
    ·omega
   ·have sub:∀y e,e∈M y->e∈(if y=x then M y++[d] else M y):=λy e he=>by
     split
     ·exact â.mpr (.inl he)
     ·exact he
    have H:=K (R':=λp=>R0 p\/yo mu (λi=>if i=x then M i++[d] else M i) p) (λp X=>by
     rcases X with X | ⟨Y,e,y,S,R,C⟩
     ·exact .inl X
     ·exact .inr ⟨Y,e,y,S,R,sub y e C⟩) (.inr ⟨NW ym hd (by omega),d,x,T,rfl,by show d∈(if x=x then M x++[d] else M x);rw[é rfl];simp⟩)
    exact⟨H.st,H.dict.mono (λ_ h=>h) (λq V=>by
     rcases V with V | ⟨y,e,Y,S,R⟩
     ·exact .inl (.inl V)
     ·have P:e∈(if y=x then M y++[d] else M y):=S
      by_cases A:y=x
      ·rw[é A] at P
       rcases â.mp P with h6|h6
       ·exact .inl (.inr ⟨y,e,Y,h6,R⟩)
       ·rw[Ø.mp h6,A] at R
        exact .inr R
      ·rw[ð A] at P
       exact .inl (.inr ⟨y,e,Y,P,R⟩)),H.aO,H.ext⟩
  ·cases hd
 rw[fe] at Z;obtain⟨b7,b8,b9,fy,fz,M,rfl,E,B3,L3⟩:=Z (aal _);rw[ff,fQ,jc];refine aai (fS (n:=8) rfl (by decide)) ?_;refine Wp.iQ (λi env s'=>i<=8->∃b7 b8 b9 fy fz L,env=[some (.ao k),some (.ao j),some (.int mo),some (.int of),some (.int mu),some (memD s.length),some (.ao (s.length+8)),b7,b8,b9,fy,fz]/\(∀x,x<i->∃c,Lf (M x) c 31 (L x))/\BJ W k j s.length (n+U.toNat) s0 s' M (λp=>R0 p\/yo mu M p) (λq=>T0 q\/∃(x:Nat) (d:Int),x<8/\d∈M x/\q=.aO mu d x)/\s'[s.length+8]?=some (.lst (hX L i))) _ (λ_=>⟨_,_,_,_,_,λ_=>[],rfl,λx T=>(Nat.not_lt_zero x T).elim,B3,L3⟩) (λi d env s' hd Z=>?_) (λenv s' Z=>?_)
 ·rw[ia] at hd
  split at hd
  ·rename_i hi
   cases hd;obtain⟨b7,b8,b9,fy,fz,L,rfl,lf,B,z⟩:=Z (by omega);refine⟨_,rfl,?_⟩;simp only[Z9,ģ,Ĥ]
   refine MZ B z hi hj O N F f λw c s2 l2 K t=>(λ_=>⟨_,_,_,_,_,λx=>if x=i then w else L x,rfl,λx T=>?_,K,t⟩)
   by_cases Lc:x=i
   ·subst Lc
    exact⟨c,by show Lf (M x) c 31 (if x=x then w else L x);rw[é rfl];exact l2⟩
   ·obtain⟨c,l⟩:=lf x (by omega)
    exact⟨c,by show Lf (M x) c 31 (if x=i then w else L x);rw[ð Lc];exact l⟩
  ·cases hd
 rw[fe] at Z;obtain⟨b7,b8,b9,fy,fz,L,rfl,lf,G,L4⟩:=Z (aal _);have B4:BJ W k j s.length (n+U.toNat) s0 s' M (λp=>R0 p\/Ag mu M L p) (λq=>T0 q\/∃(x:Nat) (d:Int),x<8/\d∈M x/\q=.aO mu d x):=⟨G.st,G.dict.mono (λp X=>by
  rcases X with X | ⟨Y,e,y,S,rfl,C⟩
  ·exact .inl X
  ·exact .inr ⟨Y,rfl,by rw[č];exact C⟩) (λ_ h=>h),G.aO,G.ext⟩
 rw[ff,jc];obtain⟨_,t5,W4,r,rfl,Yi,Yj,P,Ld⟩:=fF (m:=5) B4.st (by decide) (by decide);refine aai (Ab (s1:=t5) (n:=r.toNat) (i:=r) (aaj (by simp only[VC];exact aai W4 ⟨rfl,rfl⟩)) (by omega) (by omega)) ?_;have B5:=B4.draw hj O Ld P;have L5:t5[s.length+8]?=some (.lst (hX L 8)):=(Ld.val _ (Ç.mp L4).1 N).trans L4;refine Wp.iQ (λi env s'=>i<=r.toNat->∃b7 b8 b9 fy fz,env=[some (.ao k),some (.ao j),some (.int mo),some (.int of),some (.int mu),some (memD s.length),some (.ao (s.length+8)),b7,b8,b9,fy,fz]/\BJ W k j s.length (n+U.toNat+i) s0 s' M (λp=>R0 p\/Ag mu M L p) (λq=>T0 q\/∃(x:Nat) (d:Int),x<8/\d∈M x/\q=.aO mu d x)/\s'[s.length+8]?=some (.lst (hX L 8))) _ (λ_=>⟨_,_,_,_,_,rfl,B5,L5⟩) (λi d env s' hd Z=>?_) (λenv s' Z=>?_)
 ·rw[ia] at hd
  split at hd
  ·rename_i hi
   cases hd;obtain⟨b7,b8,b9,fy,fz,rfl,B,z⟩:=Z (by omega);refine⟨_,rfl,?_⟩;exact M0 B z hj O N ke F hl (by omega) o1 o2 ym (λd u v X Y S=>.inr ⟨X,rfl,Y,S⟩) λc9 yr W5 s2 K t=>(λ_=>⟨_,_,_,_,_,rfl,K,t⟩)
  ·cases hd
 rw[fe] at Z;obtain⟨b7,b8,b9,fy,fz,rfl,o,L6⟩:=Z (aal _);exact g _ _ _ _ _ _ _ _ M L lf o.st (o.dict.more (by omega)) o.ext
def ER (hd:oF ps) (h:∀m∈m4,∀k∈k8,sr (sN ps m k) (lN ps m k) (mN ps m k)):lF ps=[]:=by
 unfold lF;rw[Zr];intro m W;rw[Zr];intro k V;rw[Y5];unfold kD;rw[Zr];intro d U;rw[Y5,Zw];intro e T Z;have hs:d∈shown ps m k:=nM.mp U;obtain⟨i,hi,rfl⟩:=å.mp T;rw[ò] at hi;have R:=hd.of hs;unfold nD at Z;simp only[È,Ŝ,Å,ě] at Z;have e1:((d.toNat:Nat):Int)=d:=by omega
 have e2:(((d+(i:Int)).toNat:Nat):Int)=d+(i:Int):=by omega
 obtain⟨x,Q,P,X⟩:=h m W k V d.toNat (d+(i:Int)).toNat (by simp only[sN,e1,Å];exact hs) (by omega) (by omega) (by
  rcases Z.1 with z | ⟨O,S⟩
  ·exact .inl (by simp only[lN,e2,Å];exact z)
  ·exact .inr ⟨by omega,by simp only[mN,e1,Å];exact S⟩)
 have Y:=Z.2;unfold xO at Y;rw[YK] at Y;simp only[mN,Å] at X;refine Y _ X ?_;simp only[È,Å];omega
abbrev RB (n:Nat) (MM LL:Nat->Nat->List Int) (p:Pg):Prop:=∃m:Nat,m<n/\Ag m (MM m) (LL m) p
abbrev TB (n:Nat) (MM:Nat->Nat->List Int) (q:Pg):Prop:=∃m:Nat,m<n/\∃(x:Nat) (d:Int),x<8/\d∈MM m x/\q=.aO m d x
def Pj (h:cZ W R T s j n) (hn:n<64) (hj:env[1]?=some (some (.ao j)))
 (q:∀ps:List Pg,(∀p∈ps,R p)->(∀p,T p->p∈ps)->ps.length<=n->(ps.Pairwise λa b=>cu.lt a b=true)->Q (bD ps) s):Wp (eB dw (ae (eB qe (ae (eB qd (ae (aa 1) ah)) ah)) ah) env s) Q:=by
 obtain⟨ps,e,Z,len⟩:=h;have e1:aa 1 env s=ok (.ao j) s:=by unfold aa;rw[hj]
 have e2:qd [.ao j] s=ok (.lst (ps.map Pg.d)) s:=by
  unfold qd;simp only[e];rw[é (by rw[Ä];exact mM (by omega)),ĉ];rfl
 have X:qe [.lst (ps.map Pg.d)] s=ok (.lst ((ST.eR cu ps).map Pg.d)) s:=by
  unfold qe;simp only[res];rw[é (by rw[Ä];omega),Gj];rfl
 simp only[tG,dX,cV];refine aai e1 (aai e2 (aai X ?_));refine aai (show dw [.lst ((ST.eR cu ps).map Pg.d)] s=ok (bD (ST.eR cu ps)) s from rfl) (q _ (λp Y=>Z.2.1 p ((ST.lp ps).mem_iff.mp Y)) (λp Y=>(ST.lp ps).mem_iff.mpr (Z.2.2 p Y)) (by rw[(ST.lp ps).length_eq];exact len) (GB Z.1))
def LI (lf:∀m x,m<n->x<8->∃c,Lf (MM m x) c 31 (LL m x)) (hp:∀p∈ps,RB n MM LL p) (ht:∀p,TB n MM p->p∈ps) (hk:0<=k/\k<8):sr (sN ps m k) (lN ps m k) (mN ps m k):=by
 have O:∀{d:Int},d∈shown ps m k->∃m0:Nat,m0<n/\m=m0/\d∈LL m0 k.toNat:=λ{d} h=>by
  obtain⟨p,Z,rfl⟩:=å.mp h;rw[ê] at Z;obtain⟨m0,X,V⟩:=hp p Z.1
  cases p with
  |made U T u v =>
   have Y:=Z.2;simp only[mf,È,Å] at Y;obtain⟨_,S,N,_⟩:=V;exact⟨m0,X,by rw[<- Y.1];exact S,N k Y.2⟩
  |aO U T P=>cases Z.2
 have M:∀{d:Int} {m0:Nat},m=m0->d∈cW ps m k->d∉LL m0 k.toNat:=λ{d m0} e h=>by
  obtain⟨p,Z,rfl⟩:=å.mp h;rw[ê] at Z;obtain⟨Q,X,V⟩:=hp p Z.1
  cases p with
  |made U T u v =>
   have Y:=Z.2;simp only[nC,È,Å] at Y;obtain⟨_,S,_,L⟩:=V;have:Q=m0:=by have:=Y.1;omega
   rw[<- this];exact L k Y.2
  |aO U T P=>cases Z.2
 have K:∀{d:Int} {m0:Nat},m=m0->d∈cj ps m k->d∈MM m0 k.toNat:=λ{d m0} e h=>by
  obtain⟨p,Z,rfl⟩:=å.mp h;rw[ê] at Z;obtain⟨Q,X,V⟩:=hp p Z.1
  cases p with
  |made U T u v=>cases Z.2
  |aO U T P =>
   have Y:=Z.2;simp only[kc,È,Å] at Y;obtain⟨_,S,R⟩:=V;have:Q=m0:=by have:=Y.1;omega
   rw[<- this,<- Y.2];exact R
 intro d e hs E D W;simp only[sN,lN,mN,Å] at hs W;obtain⟨m0,X,em,R⟩:=O hs;obtain⟨c,F⟩:=lf m0 k.toNat X (by omega)
 rcases W with W | ⟨rfl,W⟩
 ·apply ĳ
  intro J;have S:∀x:Nat,d<x->x<=e->(x:Int)∉MM m0 k.toNat:=λx I Y H=>by
   refine J ⟨x,I,Y,?_⟩;simp only[mN,Å];have G:=ht (.aO m0 x (k.toNat:Int)) ⟨m0,X,k.toNat,x,by omega,H,rfl⟩;refine å.mpr ⟨_,ê.mpr ⟨G,?_⟩,rfl⟩;simp only[kc,È,Å];exact⟨em.symm,by omega⟩
  have all:∀i:Nat,d+i<=e->((d+i:Nat):Int)∈LL m0 k.toNat:=by
   intro i
   induction i with
   |zero=>intro _;exact R
   |succ i ih =>
    intro hi;have:=F.on _ (ih (by omega)) (by omega) (by
     have:=S (d+i+1) (by omega) (by omega);rwa [show ((d+i+1:Nat):Int)=((d+i:Nat):Int)+1 by omega] at this)
    rwa [show ((d+(i+1):Nat):Int)=((d+i:Nat):Int)+1 by omega]
  have:=all (e-d) (by omega);rw[show d+(e-d)=e by omega] at this;exact M em W this
 ·exact((F.lo _ R).2.2 (K em W)).elim
def Pk (h:bA s k):Wp (wg W [.ao k] s) λd s'=>∃ps,d=bD ps/\ps.length<=21/\bA s' k/\Ex k s s'/\cG ps=true:=by
 have b:=h.lt;have D:s.length≠k:=by omega
 unfold wg;rw[jK];refine⟨rfl,?_⟩;rw[fQ];simp only[kz,mJ,dX,cV,QR];have A:cZ W (RB 0 (λ_ _=>[]) (λ_ _=>[])) (TB 0 (λ_ _=>[])) (s++[.dT []]) s.length 0:=⟨[],by simp,⟨.nil,λ_ h=>(þ h).elim,λp ⟨m,Z,_⟩=>(Nat.not_lt_zero m Z).elim⟩,aal _⟩;have z:bA (s++[.dT []]) k:=h.app _
 try simp only[VC]
 refine(fF z (by decide) (by decide)).mono λd t1 y=>?_;obtain⟨T,rfl,a,nF,S,e1⟩:=y
 try simp only[VC]
 refine(fF S (by decide) (by decide)).mono λd C hd2=>?_;obtain⟨w,rfl,DF,DG,Y,e2⟩:=hd2
 try simp only[VC]
 refine⟨by decide,?_⟩;have v:=A.ex (e1.trans e2) D;have ext:Ex k s C:=(Ex.app k s _).trans (e1.trans e2)
 try simp only[VC]
 refine aai (Ab (s1:=C) (n:=(1+T).toNat) (i:=1+T) rfl (by omega) (by omega)) ?_;refine Wp.iQ (λi env s'=>i<=(1+T).toNat->∃N K J I H G F E X V,env=[some (.ao k),some (.ao s.length),some (.int (1+T)),some (.int (1+w)),N,K,J,I,H,G,F,E]/\(∀m x,m<i->x<8->∃c,Lf (X m x) c 31 (V m x))/\bA s' k/\cZ W (RB i X V) (TB i X) s' s.length (7*i)/\Ex k s s') _ (λ_=>⟨_,_,_,_,_,_,_,_,_,_,rfl,λm x Z=>(Nat.not_lt_zero m Z).elim,Y,v,ext⟩) (λi d env s' R Q=>?_) (λenv s' Q=>?_)
 ·rw[ia] at R
  split at R
  ·rename_i hi
   cases R;obtain⟨N,K,J,I,H,G,F,E,X,V,rfl,lf,g1,g2,g3⟩:=Q (by omega);refine⟨_,rfl,?_⟩
   refine Mr g1 g2 g3 D (aal _) (by omega) (by omega) (by omega) (by omega) λc5 c6 c7 c8 c9 yr W5 s2 M L u t r o=>(λ_=>⟨_,_,_,_,_,_,_,_,λm=>if m=i then M else X m,λm=>if m=i then L else V m,rfl,λm x Z P=>?_,t,(r.more (by omega)).mono (λp O=>?_) (λq j=>?_),o⟩)
   ·by_cases U:m=i
    ·obtain⟨c,l⟩:=u x P
     exact⟨c,by simp only[U,ø];exact l⟩
    ·obtain⟨c,l⟩:=lf m x (by omega) P
     exact⟨c,by simp only[U,ã];exact l⟩
   ·rcases O with ⟨m,Z,ha⟩|ha
    ·exact⟨m,by omega,by simp only[show m≠i by omega,ã];exact ha⟩
    ·exact⟨i,by omega,by simp only[ø];rw[Z9] at ha;exact ha⟩
   ·obtain⟨m,Z,x,d,S,Y,rfl⟩:=j
    by_cases U:m=i
    ·subst U
     simp only[ø] at Y;exact .inr ⟨x,d,S,Y,by rw[Z9]⟩
    ·simp only[U,ã] at Y
     exact .inl ⟨m,by omega,x,d,S,Y,rfl⟩
  ·cases R
 ·rw[fe] at Q
  obtain⟨N,K,J,I,H,G,F,E,X,V,rfl,lf,g1,g2,g3⟩:=Q (aal _);simp only[ig,ff,ij];refine Pj (g2.more (m:=21) (by omega)) (by decide) rfl λps O g f e=>⟨ps,rfl,f,g1,g3,?_⟩;have laid:Laid ps:=⟨λp h=>by obtain⟨m,_,ha⟩:=O p h;exact ha.1,e⟩;have B:=laid.gM (by omega);unfold cG;rw[B,Ā,ZM];exact ER (zd B) λm _ x P=>LI lf O g (jH.mp P)
section
variable {s l m s' l' m':Nat->Bool}
def ES:sr s l m↔∀d,d<=30->pr s m d=true->ab l m d=false:=by
 refine⟨λN d Y h=>JD N Y h,λh d e hs X W Z=>ĳ λV=>?_⟩;have nm:∀x,d<x->x<=e->m x=false:=λx U T=>by
  cases q:m x with
  |false=>rfl
  |true=>exact absurd ⟨x,U,T,q⟩ V
 have a:=h e W (qm.mpr ⟨d,X,hs,nm⟩);unfold ab at a;simp only[Bool.or_eq_false_iff] at a
 rcases Z with Z | ⟨rfl,Z⟩
 ·rw[a.2.1] at Z;cases Z
 ·rw[a.2.2] at Z;cases Z
def Hv (hs:∀x,x<=d->s x=true->s' x=true) (hm:∀x,x<=d->m' x=true->m x=true) (h:pr s m d=true):pr s' m' d=true:=by
 obtain⟨e,Z,Y,X⟩:=qm.mp h;refine qm.mpr ⟨e,Z,hs e Z Y,λx a b=>?_⟩
 cases q:m' x with
 |false=>rfl
 |true=>have:=hm x b q;rw[X x a b] at this;cases this
def QW (hl:∀x,x<=30->l x=true->l' x=true) (hm:∀x,x<=30->m' x=m x):∀n,n<=31->br l m (31-n)=true->br l' m' (31-n)=true:=by
 intro n
 induction n with
 |zero=>intro _ h;exact h
 |succ n ih =>
  intro Z;have e1:31-(n+1)+1=31-n:=by omega
  have i:=ih (by omega);have q:=hl (31-(n+1)) (by omega);rw[tJ l m (by omega),tJ l' m' (by omega),e1,hm _ (by omega)];simp only[È,Ŝ];exact λ⟨h,k⟩=>⟨h.imp i q,k⟩
def QX (hl:∀x,x<=30->l x=true->l' x=true) (hm:∀x,x<=30->m' x=m x) (hd:d<=30) (h:ab l m d=true):ab l' m' d=true:=by
 have b:=QW hl hm (30-d) (by omega);rw[show 31-(30-d)=d+1 by omega] at b;unfold ab at *;rw[hm d hd];simp only[Ŝ] at *;exact h.imp b λz=>z.imp (hl d hd) id
theorem Hw {D:Nat} (hs:∀d,d<=30->s' d=(s d||(decide (d=D)&&pr s m d))) (hm:∀d,d<=30->m' d=m d):∀d,d<=30->pr s' m' d=pr s m d
 |0,h=>by
  simp only[pr,hs 0 h]
  cases s 0<;>simp
 |d+1,h=>by
  have ih:=Hw hs hm d (by omega);have e:=hs (d+1) h;simp only[pr] at e |-;rw[e,ih,hm _ h]
  cases s (d+1)<;>cases pr s m d<;>cases m (d+1)<;>simp
def QY {D:Nat} (hl:∀d,d<=30->l' d=(l d||(decide (d=D)&&ab l m d))) (hm:∀d,d<=30->m' d=m d):∀n,n<=31->br l' m' (31-n)=br l m (31-n):=by
 intro n
 induction n with
 |zero=>intro _;rfl
 |succ n ih =>
  intro Z;have e1:31-(n+1)+1=31-n:=by omega
  have e:=hl (31-(n+1)) (by omega);rw[tJ l m (by omega),tJ l' m' (by omega),e1,hm _ (by omega),ih (by omega),e];unfold ab;rw[e1]
  cases br l m (31-n)<;>cases l (31-(n+1))<;>cases m (31-(n+1))<;>simp
def QZ {D:Nat} (hl:∀d,d<=30->l' d=(l d||(decide (d=D)&&ab l m d))) (hm:∀d,d<=30->m' d=m d) {d:Nat} (hd:d<=30):ab l' m' d=ab l m d:=by
 have b:=QY hl hm (30-d) (by omega);have e:=hl d hd;rw[show 31-(30-d)=d+1 by omega] at b;unfold ab at *;rw[b,e,hm d hd]
 cases br l m (d+1)<;>cases l d<;>cases m d<;>simp
end
def More (ps:List Pg) (p:Pg) (qs:List Pg):Prop:=∀x,x∈qs↔x∈ps\/x=p
section
variable {ps qs:List Pg} {p:Pg}
def zE (h:More ps p qs) (f:Pg->Bool) (d:Int):decide (d∈(qs.filter f).map Pg.day)=(decide (d∈(ps.filter f).map Pg.day)||(f p&&decide (p.day=d))):=by
 rw[Ĩ,Ŝ,È,Å,Å,Å,å,å];constructor
 ·rintro ⟨x,Y,rfl⟩
  obtain⟨X,Z⟩:=ê.mp Y
  rcases(h x).mp X with q|rfl
  ·exact .inl ⟨x,ê.mpr ⟨q,Z⟩,rfl⟩
  ·exact .inr ⟨Z,rfl⟩
 ·rintro (⟨x,Y,rfl⟩ | ⟨Z,rfl⟩)
  ·obtain⟨X,Z⟩:=ê.mp Y
   exact⟨x,ê.mpr ⟨(h x).mpr (.inl X),Z⟩,rfl⟩
  ·exact⟨p,ê.mpr ⟨(h p).mpr (.inr rfl),Z⟩,rfl⟩
def wz (h:More ps p qs) (m k:Int) (d:Nat):sN qs m k d=(sN ps m k d||(mf m k p&&decide (p.day=d))):=zE h _ _
def Ak (h:More ps p qs) (m k:Int) (d:Nat):lN qs m k d=(lN ps m k d||(nC m k p&&decide (p.day=d))):=zE h _ _
def sy (h:More ps p qs) (m k:Int) (d:Nat):mN qs m k d=(mN ps m k d||(kc m k p&&decide (p.day=d))):=zE h _ _
def lM (ps qs:List Pg) (m:Int):Prop:=∀k,0<=k/\k<8->∀d,d<=30->pr (sN qs m k) (mN qs m k) d=pr (sN ps m k) (mN ps m k) d/\ab (lN qs m k) (mN qs m k) d=ab (lN ps m k) (mN ps m k) d
def Pl (h:∀k d,sN qs m k d=sN ps m k d/\lN qs m k d=lN ps m k d/\mN qs m k d=mN ps m k d):lM ps qs m:=λk _ d _=>by
 rw[show sN qs m k=sN ps m k from funext λd=>(h k d).1,show lN qs m k=lN ps m k from funext λd=>(h k d).2.1,show mN qs m k=mN ps m k from funext λd=>(h k d).2.2];exact⟨rfl,rfl⟩
def E7 (h:More ps p qs) (hp:(match p with | .made a _ _ _=>a | .aO a _ _=>a)≠m):lM ps qs m:=Pl λk d=>by
 rw[wz h,Ak h,sy h]
 cases p<;>simp only at hp<;>simp[mf,nC,kc,hp]
def N5 {m:Int} {D:Nat} (hD:D<=30) (h:More ps (.made m D (k8.filter λk=>decide ((D:Int)∈cy ps m k)) (k8.filter λk=>decide ((D:Int)∈bU ps m k))) qs):∀m',lM ps qs m':=λm'=>by
 by_cases e:m=m'
 ·subst e
  intro k W d Z;have Y:k∈k8:=jH.mpr W;have X:∀d,d<=30->mN qs m k d=mN ps m k d:=λd _=>by rw[sy h];simp[kc]
  have cast:∀d:Nat,decide (((D:Int))=(d:Int))=decide (d=D):=λd=>by rw[Ĩ,Å,Å];omega
  refine⟨Hw (D:=D) (λd Z=>?_) X d Z,QZ (D:=D) (λd Z=>?_) X Z⟩
  ·rw[wz h]
   simp only[mf,Pg.day,cast,Ĭ,Ā,ê,Y,Å,Zq];by_cases q:d=D
   ·subst q
    rw[su Z];simp
   ·simp[q]
    exact λ_ z=>absurd (Ė z) (by omega)
  ·rw[Ak h]
   simp only[nC,Pg.day,cast,Ĭ,Ā,ê,Y,Å,Zq];by_cases q:d=D
   ·subst q
    rw[sv Z];simp
   ·simp[q]
    exact λ_ z=>absurd (Ė z) (by omega)
 ·exact E7 h (by exact e)
def N6 (hl:gM qs=true) (hb:cG ps=true) (h:∀m,lM ps qs m):cG qs=true:=by
 unfold cG;rw[hl,ER (zd hl) λm Y k Z=>?_]
 ·rfl
 ·have Y:=AO.mp Y
  have Z:=jH.mp Z;refine ES.mpr λd X W=>?_;obtain⟨e1,e2⟩:=h m k Z d X;rw[e1] at W;rw[e2];exact ES.mp (Hl hb Y Z) d X W
def Hx (h:d∈dh):∃i:Nat,i<=30/\d=i:=by
 unfold dh at h;obtain⟨i,hi,rfl⟩:=å.mp h;exact⟨i,by have:=ò.mp hi;omega,rfl⟩
def vN (h:lM ps qs m):gO (jI qs m)=gO (jI ps m)/\gO (lL qs m)=gO (lL ps m):=by
 unfold gO jI lL;constructor
 ·congr 1
  refine θ λd Z=>?_;obtain⟨i,hi,rfl⟩:=Hx Z;refine ļ mD (List.filter_congr λk Y=>?_);rw[su hi,su hi,(h k (jH.mp Y) i hi).1]
 ·congr 1
  refine θ λd Z=>?_;obtain⟨i,hi,rfl⟩:=Hx Z;refine ļ mD (List.filter_congr λk Y=>?_);rw[sv hi,sv hi,(h k (jH.mp Y) i hi).2]
def Pn (hs:Sh a b) (h:lM ps qs m) (hd:d<=30):gn qs m a b d=gn ps m a b d:=by
 unfold gn;congr 1
 ·rw[Ĩ,ë,ë]
  exact⟨λz k Z=>by rw[<- (h k (hs.a.lo k Z) d hd).2];exact z k Z,λz k Z=>by rw[(h k (hs.a.lo k Z) d hd).2];exact z k Z⟩
 ·rw[Ĩ,ë,ë]
  exact⟨λz k Z=>by rw[<- (h k (hs.b.lo k Z) d hd).1];exact z k Z,λz k Z=>by rw[(h k (hs.b.lo k Z) d hd).1];exact z k Z⟩
def Po (hs:Sh a b) (h:∀m,lM ps qs m):fx qs a b=fx ps a b:=by
 unfold fx;congr 1;funext m;rw[E6 31 λx Z=>Pn hs (h m) (by omega)]
def vO {m D:Int} {a b:List Int} (h:More ps (.made m D a b) qs) (m' k:Int) {d:Nat} (hd:d<=30):(pr (sN ps m' k) (mN ps m' k) d=true->pr (sN qs m' k) (mN qs m' k) d=true)/\(ab (lN ps m' k) (mN ps m' k) d=true->ab (lN qs m' k) (mN qs m' k) d=true):=by
 have Z:∀x,mN qs m' k x=mN ps m' k x:=λx=>by rw[sy h];simp[kc]
 refine⟨Hv (λx _ z=>by rw[wz h,z];rfl) λx _ z=>by rw[<- Z];exact z,QX (λx _ z=>by rw[Ak h,z];rfl) (λx _=>Z x) hd⟩
def Pp {m D:Int} {a b:List Int} (h:More ps (.made m D a b) qs) {m':Int} {u v:List Int} {d:Nat} (hd:d<=30) (q:gn qs m' u v d=true):gn ps m' u v d=true:=by
 unfold gn at *;rw[È,ë,ë] at *;refine⟨λk Z=>?_,λk Z=>?_⟩
 ·have z:=q.1 k Z
  cases e:ab (lN ps m' k) (mN ps m' k) d with
  |false=>rfl
  |true=>rw[(vO h m' k hd).2 e] at z;cases z
 ·have z:=q.2 k Z
  cases e:pr (sN ps m' k) (mN ps m' k) d with
  |false=>rfl
  |true=>rw[(vO h m' k hd).1 e] at z;cases z
def Q0 {m D k:Int} (h:More ps (.aO m D k) qs) {d:Nat} (q:pr (sN qs m k) (mN qs m k) d=true):pr (sN ps m k) (mN ps m k) d=true :=
 Hv (λx _ z=>by rw[wz h] at z;simpa [mf] using z) (λx _ z=>by rw[sy h,z];rfl) q
def Q2 {m k:Int} {D:Nat} (h:More ps (.aO m D k) qs):ab (lN qs m k) (mN qs m k) D=true:=by
 unfold ab;rw[sy h];simp[kc,Pg.day]
end
def Q3 (h:xs.length+ys.length<=1000):cN (.lst xs) (.lst ys) s=ok (.lst (xs++ys)) s:=by
 have e:kN (.lst xs) (.lst ys)=some (.lst (xs++ys)):=by
  show (if lR _ _=true then some (D.lst _) else none)=_
  rw[é (by unfold lR;rw[Å];exact mM h)]
 show bB (kN _ _) s=_;rw[show kN (res (.lst xs) s) (res (.lst ys) s)=some (.lst (xs++ys)) from e];rfl
def dj (ps:List Pg) (p:Pg):List Pg:=ST.eR cu (jw (ps++[p]))
def wA (hl:ps.length<=30):nS [bD ps,p.d] s=ok (bD (dj ps p)) s:=by
 refine aaj ?_;unfold nS;simp only[VC];refine aai (show xi [bD ps] s=ok (.lst (ps.map Pg.d)) s from rfl) ⟨by decide,aai (Q3 (by simp;omega)) ?_⟩;have e:rR (.lst (ps.map Pg.d++[p.d])) s=ok (.lst ((dj ps p).map Pg.d)) s:=by
  have e1:ps.map Pg.d++[p.d]=(ps++[p]).map Pg.d:=by rw[ü];rfl
  unfold rR dj;simp only[e1];rw[é (by simp;omega),Gp];rfl
 exact aai e (aai (show dw [.lst ((dj ps p).map Pg.d)] s=ok (bD (dj ps p)) s from rfl) ⟨rfl,rfl⟩)
def sA (ps:List Pg) (p:Pg):More ps p (dj ps p):=λx=>by
 unfold dj;rw[(ST.lp _).mem_iff,r6,â,Ø]
theorem IE:∀l:List Pg,(jw l).length<=l.length
 | []=>aal _
 |p::r=>by
  unfold jw;have:=IE r
  split<;>simp only[á]<;>omega
def Hy (hb:cG ps=true) (hl:ps.length<=21) (hp:cw p=true):gM (dj ps p)=true/\(dj ps p).length<=22/\∀x∈dj ps p,cw x=true:=by
 have Y:(dj ps p).length<=22:=by
  unfold dj;rw[(ST.lp _).length_eq];refine è (IE _) ?_;simp;omega
 have Z:∀x∈dj ps p,cw x=true:=λx X=>by
  rcases(sA ps p x).mp X with q|rfl
  ·unfold cG gM at hb
   simp only[È,Å,ë] at hb;exact hb.1.2.1 x q
  ·exact hp
 refine⟨?_,Y,Z⟩;unfold gM;rw[ß (show (dj ps p).length<=24 by omega),ë.mpr Z,show tI (dj ps p)=true from Ah (GB (vM _))];rfl
def Hz (ha:a.length<=1000):mm [mD a,mD b] s=ok (.bl (a.all λx=>decide (x∈b))) s:=by
 refine aaj ?_;unfold mm;simp only[VC];refine aai (mw (ds:=a.map D.int) rfl) ⟨mM (by rw[Ä];omega),?_⟩;refine aai (i9 (λx=>!decide (x∈b)) (λx=>.int x) a λx _=>⟨[some (.int x),some (mD b)],rfl,?_,λ_=>rfl⟩) ?_
 ·refine aaj ?_
  simp only[VC,pO,Ħ]
 refine⟨by decide,aai (eq_nil (zC (λx=>D.int x) (λ_=>rfl) _)) ⟨?_,rfl⟩⟩;congr 1;rw[Ĩ,ZM,Y5,Zw,ë];exact⟨λz x Z=>by simpa using z x Z,λz x Z=>by simpa using z x Z⟩
def Q4 (ha:a.length<=10000):mm [lI a,lI b] s=ok (.bl (a.all λx=>decide (x∈b))) s:=by
 refine aaj ?_;unfold mm;simp only[VC];refine aai (iD (ds:=a.map D.int) rfl) ⟨le_size (by rw[Ä];omega),?_⟩;refine aai (i9 (λx=>!decide (x∈b)) (λx=>.int x) a λx _=>⟨[some (.int x),some (lI b)],rfl,?_,λ_=>rfl⟩) ?_
 ·refine aaj ?_
  simp only[VC];refine aai nN ?_;simp only[VC,Ħ]
 refine⟨by decide,aai (eq_nil (zC (λx=>D.int x) (λ_=>rfl) _)) ⟨?_,rfl⟩⟩;congr 1;rw[Ĩ,ZM,Y5,Zw,ë];exact⟨λz x Z=>by simpa using z x Z,λz x Z=>by simpa using z x Z⟩
structure W7 (b:Nat->Bool) (n:Nat) (L:List (Nat×Nat)):Prop where
 lt:∀p∈L,p.1<=p.2/\p.2<n
 co:∀d,(∃p∈L,p.1<=d/\d<=p.2)↔d<n/\b d=true
 la:dW b n=true->∃M d,L=M++[(d,n-1)]
theorem Al (b:Nat->Bool):∀n,W7 b n (bb b n)
 |0=>⟨λp Z=>(þ Z).elim,λd=>⟨λ⟨p,Z,_⟩=>(þ Z).elim,λ⟨h,_⟩=>by omega⟩,λh=>by simp[dW] at h⟩
 |n+1=>by
  have ih:=Al b n;have pv:dW b (n+1)=b n:=by simp[dW]
  unfold bb
  cases W:b n with
  |false =>
   simp only[ŭ,Ã,ã];refine⟨λp Z=>⟨(ih.lt p Z).1,by have:=(ih.lt p Z).2;omega⟩,λd=>?_,λh=>by rw[pv,W] at h;cases h⟩;rw[ih.co d];refine⟨λ⟨V,Y⟩=>⟨by omega,Y⟩,λ⟨V,Y⟩=>⟨?_,Y⟩⟩;by_cases e:d=n
   ·subst e;rw[W] at Y;cases Y
   ·omega
  |true =>
   simp only[Ā]
   cases Z:dW b n with
   |false =>
    simp only[Ã,ã,ø];refine⟨λp Z=>?_,λd=>?_,λ_=>⟨_,n,rfl⟩⟩
    ·rcases â.mp Z with q|q
     ·exact⟨(ih.lt p q).1,by have:=(ih.lt p q).2;omega⟩
     ·rw[Ø.mp q];exact⟨aal _,by omega⟩
    ·constructor
     ·rintro ⟨p,q,h⟩
      rcases â.mp q with q|q
      ·have:=(ih.co d).mp ⟨p,q,h⟩;exact⟨by omega,this.2⟩
      ·rw[Ø.mp q] at h
       have:d=n:=by simp only at h;omega
       subst this;exact⟨by omega,W⟩
     ·rintro ⟨V,Y⟩
      by_cases e:d=n
      ·subst e;exact⟨(d,d),Í _ (Ø.mpr rfl),aal _,aal _⟩
      ·obtain⟨p,q,h⟩:=(ih.co d).mpr ⟨by omega,Y⟩
       exact⟨p,Ć _ q,h⟩
   |true =>
    simp only[ø];obtain⟨M,X,e⟩:=ih.la Z;have R:1<=n:=by
     cases n with
     |zero=>simp[dW] at Z
     |succ n=>omega
    have m0:(X,n-1)∈bb b n:=by rw[e];exact Í _ (Ø.mpr rfl)
    have S:=(ih.lt _ m0).1;have U:∀p∈M,p∈bb b n:=λp q=>by rw[e];exact Ć _ q
    rw[show (bb b n).dropLast++[(((bb b n).getLast?.getD (0,0)).1,n)]=M++[(X,n)] by rw[e];simp];refine⟨λp Z=>?_,λd=>?_,λ_=>⟨M,X,rfl⟩⟩
    ·rcases â.mp Z with q|q
     ·exact⟨(ih.lt p (U p q)).1,by have:=(ih.lt p (U p q)).2;omega⟩
     ·rw[Ø.mp q];exact⟨by simp only at S |-;omega,by simp only;omega⟩
    ·constructor
     ·rintro ⟨p,q,h⟩
      rcases â.mp q with q|q
      ·have:=(ih.co d).mp ⟨p,U p q,h⟩;exact⟨by omega,this.2⟩
      ·rw[Ø.mp q] at h
       simp only at h;by_cases T:d=n
       ·subst T;exact⟨by omega,W⟩
       ·have:=(ih.co d).mp ⟨_,m0,h.1,by simp only;omega⟩
        exact⟨by omega,this.2⟩
     ·rintro ⟨V,Y⟩
      by_cases T:d=n
      ·subst T;exact⟨(X,d),Í _ (Ø.mpr rfl),by simp only at S |-;omega,aal _⟩
      ·obtain⟨p,q,h⟩:=(ih.co d).mpr ⟨by omega,Y⟩
       rw[e] at q
       rcases â.mp q with q|q
       ·exact⟨p,Ć _ q,h⟩
       ·rw[Ø.mp q] at h
        simp only at h;exact⟨(X,n),Í _ (Ø.mpr rfl),h.1,by simp only;omega⟩
noncomputable abbrev rn (r:Int×Nat×Nat):D:=.tup [.int r.1,.int r.2.1,.int r.2.2]
def lh (ps:List Pg) (h l:List Int):List (Int×Nat×Nat):=m4.flatMap λm=>(bb (gn ps m h l) 31).map λp=>(m,p)
def wZ (ps:List Pg) (h l:List Int):fx ps h l=(lh ps h l).map rn:=by
 unfold fx lh;rw[List.map_flatMap];congr 1;funext m;rw[ĉ];rfl
noncomputable def nG (m:Int) (rs:List (Int×Nat×Nat)):List Int:=rs.flatMap λr=>if r.1=m then (Ó (r.2.2+1-r.2.1)).map λi:Nat=>(r.2.1:Int)+i else []
def IF (hm:0<=m/\m<4) (x:Int):x∈nG m (lh ps h l)↔∃d:Nat,d<=30/\x=d/\gn ps m h l d=true:=by
 unfold nG lh;have C:=Al (gn ps m h l) 31;simp only[Y2,å];constructor
 ·rintro ⟨r,⟨W,V,p,Z,rfl⟩,Y⟩
  simp only at Y;split at Y
  ·rename_i e
   subst e;obtain⟨i,hi,rfl⟩:=å.mp Y;rw[ò] at hi;have:=C.lt p Z;have q:=(C.co (p.1+i)).mp ⟨p,Z,by omega,by omega⟩;exact⟨p.1+i,by omega,by omega,q.2⟩
  ·cases Y
 ·rintro ⟨d,U,rfl,X⟩
  obtain⟨p,Z,T,S⟩:=(C.co d).mpr ⟨by omega,X⟩;refine⟨(m,p),⟨m,AO.mpr hm,p,Z,rfl⟩,?_⟩;simp only[ø];exact å.mpr ⟨d-p.1,ò.mpr (by omega),by omega⟩
def Bl:∀r∈lh ps h l,r.2.1<=r.2.2/\r.2.2<31:=λr Z=>by
 unfold lh at Z;obtain⟨m,_,Z⟩:=Y2.mp Z;obtain⟨p,Y,rfl⟩:=å.mp Z;exact(Al _ 31).lt p Y
def IG (ps:List Pg) (h l:List Int):(lh ps h l).length<=124:=by
 have:=ID ps h l;rwa [wZ,Ä] at this
def IH:∀{rs:List (Int×Nat×Nat)},(∀r∈rs,r.2.1<=r.2.2/\r.2.2<31)->(nG m rs).length<=rs.length*31:=λh=>nO λr Z=>by
 have:=h r Z;split
 ·rw[Ä,Ŀ];omega
 ·exact ď _
def SQ (m:Int) (rs:List (Int×Nat×Nat)) (r:Int×Nat×Nat):nG m (rs++[r])=nG m rs++if r.1=m then (Ó (r.2.2+1-r.2.1)).map λi:Nat=>(r.2.1:Int)+i else []:=by
 unfold nG;rw[List.flatMap_append];simp
def Q5 (h:xs.length+ys.length<=10000):cN (.lst xs) (.lst ys) s=ok (.lst (xs++ys)) s:=by
 have e:kN (.lst xs) (.lst ys)=some (.lst (xs++ys)):=by
  show (if lR _ _=true then some (D.lst _) else none)=_
  rw[é (by unfold lR;rw[Å];exact le_size (by omega))]
 show bB (kN _ _) s=_;rw[show kN (res (.lst xs) s) (res (.lst ys) s)=some (.lst (xs++ys)) from e];rfl
def HA (h:∀r∈rs,r.2.1<=r.2.2/\r.2.2<31) (hl:rs.length<=124):sf [.lst (rs.map rn),.int m] s=ok (lI (nG m rs)) s:=by
 refine aaj ?_;unfold sf;simp only[VC];refine⟨by decide,?_⟩;refine aai (iD (ds:=rs.map rn) rfl) ?_;refine Wp.iQ (λi env Z=>i<=rs.length->Z=s/\∃X W V,env=[some (.lst (rs.map rn)),some (.int m),some (lI (nG m (rs.take i))),X,W,V]) _ (λ_=>⟨rfl,_,_,_,rfl⟩) (λi d env Z T Y=>?_) (λenv Z Y=>?_)
 ·rw[Ü] at T
  obtain⟨r,U,rfl⟩:=Ys.mp T;have hi:=(Ç.mp U).1;obtain⟨rfl,X,W,V,rfl⟩:=Y (by omega);have Q:=h r (Ę U);have S:rs.take (i+1)=rs.take i++[r]:=by rw[List.take_succ,U];rfl
  have ln:=IH (m:=m) (rs:=rs.take i) λx R=>h x (List.mem_of_mem_take R);have lt:=List.length_take_le i rs;refine⟨_,rfl,?_⟩;unfold Gq;simp only[VC];rw[S,SQ];by_cases e:r.1=m
  ·simp only[VC,e,Ĝ,ø]
   refine aai (show sd [.int r.2.1,.int ((r.2.2:Int)+1)] Z=ok (.lst (((Ó (r.2.2+1-r.2.1)).map λi:Nat=>(r.2.1:Int)+i).map D.int)) Z from ?_) ?_
   ·unfold sd
    simp only;rw[é (by simp;omega),show ((r.2.2:Int)+1-r.2.1).toNat=r.2.2+1-r.2.1 by omega];unfold bc;rw[ĉ];rfl
   ·refine aai (Q5 (by rw[Ä,Ä,Ä,Ŀ];omega)) ?_
    rw[<- ü];exact λ_=>⟨rfl,_,_,_,rfl⟩
  ·rw[ð (by simpa using e),ð e,ĸ]
   exact λ_=>⟨_,_,_,rfl⟩
 ·rw[Ä] at Y
  obtain⟨rfl,X,W,V,rfl⟩:=Y (aal _);rw[List.take_length];simp only[VC,Ħ]
def ne_self (hr:res d s=d) (hs:nA d=false) (hl:lay d=true) (hd:dep d<=100) (he:beq d d=true):iu d d s=ok (.bl false) s:=by
 unfold iu jJ;rw[hr,hs,ŭ,ð Ö,é (by rw[hl,ß (show min (dep d) (dep d)<=100 by omega)];rfl),he];rfl
def Um (l:List Int):TK.kd (mD l)=true:=by show bN (l.map D.int)=true;exact Ha l
def SR (l:List Int):dep (mD l)=1:=by show bM (l.map D.int)+1=1;rw[Gg]
theorem Am {α:Type} (f:α->D) (h:∀x,TK.kd (f x)=true):∀l:List α,bN (l.map f)=true
 | []=>rfl
 |x::l=>by rw[Þ,bN,h x,Am f h l];rfl
theorem zF {α:Type} (f:α->D) (h:∀x,dep (f x)<=n):∀l:List α,bM (l.map f)<=n
 | []=>ď _
 |x::l=>by
  have Z:=h x;have Y:=zF f h l;simp only[Þ,bM];omega
def fX (ps:List Pg) (m:Int):D:=.tup [gO (jI ps m),gO (lL ps m)]
def Q6 (F:Int->List Int):TK.kd (gO F)=true:=by show bN (dh.map λd=>mD (F d))=true;exact Am _ (λd=>Um _) _
def GF (F:Int->List Int):dep (gO F)<=2:=by
 have:=zF (n:=1) (λd=>mD (F d)) (λd=>by rw[SR];exact aal _) dh;show bM (dh.map λd=>mD (F d))+1<=2;omega
def II:iu (fX ps m) (fX ps m) s=ok (.bl false) s:=by
 have k:TK.kd (fX ps m)=true:=by
  show bN [gO (jI ps m),gO (lL ps m)]=true;simp only[bN,Q6,Ķ]
 refine ne_self rfl rfl (mI _ k) ?_ ((n5 _ _ k k).mpr rfl);have Z:=GF (jI ps m);have Y:=GF (lL ps m);show bM [gO (jI ps m),gO (lL ps m)] + 1<=100;simp only[bM];omega
def Uo:iu (.lst (fx ps a b)) (.lst (fx ps a b)) s=ok (.bl false) s:=by
 rw[wZ];have k:bN ((lh ps a b).map rn)=true:=Am _ (λr=>rfl) _;have Z:=zF (n:=1) rn (λr=>aal 1) (lh ps a b);refine ne_self rfl rfl (rP _ k) ?_ ((vW _ _ k k).mpr rfl);show bM _ + 1<=100;omega
def jC {m k:Int} {d:Nat} (hd:d<=30):(k∈k8.filter (λk=>decide ((d:Int)∈cy ps m k))↔k∈k8/\pr (sN ps m k) (mN ps m k) d=true)/\(k∈k8.filter (λk=>decide ((d:Int)∈bU ps m k))↔k∈k8/\ab (lN ps m k) (mN ps m k) d=true):=by
 rw[ê,ê,su hd,sv hd];exact⟨Iff.rfl,Iff.rfl⟩
def IJ (p:Int->Bool):(k8.filter p).length<=8:=è (ū _ _) (by decide)
structure Bk (ps:List Pg):Prop where
 b:cG ps=true
def Bk.l (h:Bk ps):ps.length<=1000:=by have:=(FL h.b).1;omega
def Bk.f (h:Bk ps):∀p∈ps,iS p:=λp Z=>((FL h.b).2 p Z).iS
def Bk.sure (h:Bk ps) (hm:0<=m/\m<4) (hd:0<=d/\d<31):Wp (ko [bD ps,.int m,.int d] s) λx s'=>x=dO (cy ps m) (bU ps m) d/\∃c,s'=s++c:=N0 h.l h.f h.b hm hd
def N7 {ps qs:List Pg} {m D0:Int} {a b:List Int} {d:Int} {s:af} {e0 e1 e2 e5 e6 e7 e8 e9 gG gH gI cD cE fO fP:Option D} (hp:Bk ps) (hq:Bk qs) (hm:0<=m/\m<4) (hd:0<=d/\d<31) (h:More ps (.made m D0 a b) qs) :
  Wp (AI [e0,e1,e2,some (bD ps),some (.int m),e5,e6,e7,e8,e9,gG,gH,gI,some (bD qs),some (.int d),cD,cE,fO,fP] s) λfl s'=>(∃c,s'=s++c)/\∃x y,fl=.nx [e0,e1,e2,some (bD ps),some (.int m),e5,e6,e7,e8,e9,gG,gH,gI,some (bD qs),some (.int d),x,y,fO,fP]:=by
 obtain⟨i,hi,rfl⟩:∃i:Nat,i<=30/\d=i:=⟨d.toNat,by omega,by omega⟩;unfold AI;refine aak λR X=>?_;simp only[VC];refine(hp.sure hm hd).mono λx U Y=>?_;obtain⟨rfl,W,rfl⟩:=Y;refine(hq.sure hm hd).mono λx T Y=>?_;obtain⟨rfl,V,rfl⟩:=Y;subst X;unfold dO;simp only[VC];refine aai (i5 _ _ _).1 (aai (i5 _ _ _).1 (aai (Hz (by have:=IJ λk=>decide ((i:Int)∈cy ps m k);omega)) ?_));rw[ë.mpr λk Z=>ß ((jC hi).1.mpr ⟨((jC hi).1.mp Z).1,(vO h m k hi).1 ((jC hi).1.mp Z).2⟩)];simp only[VC,ï,Ã,ã];refine aai (i5 _ _ _).2 (aai (i5 _ _ _).2 (aai (Hz (by have:=IJ λk=>decide ((i:Int)∈bU ps m k);omega)) ?_));rw[ë.mpr λk Z=>ß ((jC hi).2.mpr ⟨((jC hi).2.mp Z).1,(vO h m k hi).2 ((jC hi).2.mp Z).2⟩)];simp only[VC,ï,Ã,ã];exact⟨⟨W++V,by rw[ĕ]⟩,_,_,rfl⟩
def M5 {ps qs:List Pg} {m D0 m':Int} {a b u v:List Int} {s:af} {e0 e1 e2 e3 e4 e6 e7 e8 gG gH gI cT cE fO fP:Option D} (hq:Bk qs) (hs:Sh u v) (hm:0<=m'/\m' < 4) (h:More ps (.made m D0 a b) qs) :
  Wp (AJ [e0,e1,e2,e3,e4,some (cS u v),e6,e7,e8,some (.lst (fx ps u v)),gG,gH,gI,some (bD qs),cT,some (.int m'),cE,fO,fP] s) λfl s'=>(∃c,s'=s++c)/\fl=.nx [e0,e1,e2,e3,e4,some (cS u v),e6,e7,e8,some (.lst (fx ps u v)),gG,gH,gI,some (bD qs),cT,some (.int m'),cE,fO,fP]:=by
 unfold AJ;simp only[VC];refine(ze hq.l hq.f hq.b hs).mono λx U Z=>?_;obtain⟨rfl,X,rfl⟩:=Z;rw[wZ,wZ];have W:=IG qs u v;refine aai (HA Bl W) (aai (HA Bl (IG ps u v)) ?_);have dl:=IH (m:=m') (rs:=lh qs u v) Bl;refine aai (Q4 (by omega)) ?_;rw[ë.mpr λx Z=>ß ?_]
 ·simp only[VC,ï,Ã,ã]
  exact⟨⟨X,rfl⟩,trivial⟩
 ·obtain⟨d,Y,rfl,V⟩:=(IF hm x).mp Z
  exact(IF hm _).mpr ⟨d,Y,rfl,Pp h Y V⟩
def N8 {ps qs:List Pg} {m D0 k d:Int} {s:af} {e0 e1 e2 e5 e6 e7 e8 e9 gG gH gI kh cD cE:Option D} (hp:Bk ps) (hq:Bk qs) (hm:0<=m/\m<4) (hd:0<=d/\d<31) (h:More ps (.aO m D0 k) qs) :
  Wp (AK [e0,e1,e2,some (bD ps),some (.int m),e5,e6,e7,e8,e9,gG,gH,gI,kh,some (.int d),cD,cE,some (.int k),some (bD qs)] s) λfl s'=>(∃c,s'=s++c)/\fl=.nx [e0,e1,e2,some (bD ps),some (.int m),e5,e6,e7,e8,e9,gG,gH,gI,kh,some (.int d),cD,cE,some (.int k),some (bD qs)]:=by
 obtain⟨i,hi,rfl⟩:∃i:Nat,i<=30/\d=i:=⟨d.toNat,by omega,by omega⟩;unfold AK;simp only[VC];refine(hq.sure hm hd).mono λx V Z=>?_;obtain⟨rfl,Y,rfl⟩:=Z;unfold dO;refine aai (i5 _ _ _).1 ?_;rw[so,aQ];by_cases z:k∈k8.filter λk=>decide ((i:Int)∈cy qs m k)
 ·rw[ß z]
  simp only[VC,ø];refine(hp.sure hm hd).mono λx U Z=>?_;obtain⟨rfl,W,rfl⟩:=Z;unfold dO;refine aai (i5 _ _ _).1 ?_;rw[pO,aQ];have X:=(jC hi).1.mp z;rw[ß ((jC hi).1.mpr ⟨X.1,Q0 h X.2⟩)];simp only[VC,ï,Ã,ã];exact⟨⟨Y++W,by rw[ĕ]⟩,trivial⟩
 ·rw[ñ z]
  simp only[VC,Ã,ã];exact⟨⟨Y,rfl⟩,trivial⟩
def HB (hm:0<=m/\m<4) (hd:0<=D0/\D0<31) (hs:Sh h l):cw (.made m D0 h l)=true:=by
 simp only[cw,gr,gW,pP hs.a (aal _),pP hs.b (aal _),show jG h l=true by unfold jG;rw[ě,YK];intro x Z;simpa using hs.ap x Z,Bool.and_true,È,Å];exact⟨hm,hd⟩
def HC (hm:0<=m/\m<4) (hd:0<=D0/\D0<31) (hk:0<=k/\k<8):cw (.aO m D0 k)=true:=by
 simp only[cw,gr,gW,markB,È,Å];exact⟨⟨hm,hd⟩,hk⟩
def IK (p:Int->Bool):cx 8 (k8.filter p):=by
 have:cx 8 k8:=⟨λx Z=>jH.mp Z,by decide⟩;exact this.filter p
def Q7 (hb:cG ps=true) {m:Int} (hm:0<=m/\m<4) {d:Nat} (hd:d<=30):Sh (k8.filter λk=>decide ((d:Int)∈cy ps m k)) (k8.filter λk=>decide ((d:Int)∈bU ps m k)):=by
 refine⟨IK _,IK _,λk X W=>?_⟩;have Z:=(jC hd).1.mp X;have Y:=(jC hd).2.mp W;have:=JD (Hl hb hm (jH.mp Z.1)) hd Z.2;rw[this] at Y;cases Y.2
def w6 (hb:cG ps=true) (hl:ps.length<=21) (hp:cw p=true):lq [bD (dj ps p)] s=ok (.bl (cG (dj ps p))) s:=by
 obtain⟨_,X,Z⟩:=Hy hb hl hp;exact Af (by omega) λx Y=>(Hs (Z x Y)).iS
def zG (h:Bk ps) (hm:0<=m/\m<4) (ei:aa i env=λs=>ok (bD ps) s) (e4:aa 4 env=λs=>ok (.int m) s) (q:∀c,Q (fX ps m) (s++c)) :
  Wp (bL (ae (ar nH (ae (aa i) (ae (aa 4) ah))) (ae (ar nK (ae (aa i) (ae (aa 4) ah))) ah)) env s) Q:=by
 simp only[mJ,dX,cV,wp_call,ei,e4,aQ];refine(Ph h.l h.f h.b hm).mono λx Y Z=>?_;obtain⟨rfl,X,rfl⟩:=Z;refine(QV h.l h.f h.b hm).mono λx W Z=>?_;obtain⟨rfl,V,rfl⟩:=Z;refine⟨le_size (by simp only[á,û];decide),?_⟩;rw[ĕ];exact q _
def N9 {W:Ĉ} {ns:List Int} {i:Int} {s:af} {e2 e3 e4 e5 e6 e7 e8 e9 gG gH gI kh cT cD cE fO fP:Option D} {Q:Fl->af->Prop} (hi:0<=i)
  (q:∀e2 e3 e4 e5 e6 e7 e8 e9 gG gH gI kh cT cD cE fO fP s',Q (.nx [some (.aZ ns),some (.int i),e2,e3,e4,e5,e6,e7,e8,e9,gG,gH,gI,kh,cT,cD,cE,fO,fP]) s') :
  Wp (AL W [some (.aZ ns),some (.int i),e2,e3,e4,e5,e6,e7,e8,e9,gG,gH,gI,kh,cT,cD,cE,fO,fP] s) Q:=by
 unfold AL;refine aak λR X=>?_;simp only[VC];refine(Pb hi).mono λd s1 V=>?_;obtain⟨rfl,C,c1,rfl⟩:=V;generalize s.length=k at C;subst X;refine aak λR X=>?_;refine Wp.JE ?_;simp only[VC];refine(Pk C).mono λd s2 V=>?_;obtain⟨Z,rfl,F,w,x2,M⟩:=V;rw[Aa (i:=21) rfl];refine aai (SM (n:=21)) ?_;rw[List.take_of_length_le F];refine(fF w (by decide) (by decide)).mono λd s3 V=>?_;obtain⟨m,rfl,m0,m1,h3,x3⟩:=V;have P:0<=m/\m<4:=⟨m0,m1⟩;refine(FO h3).mono λd s4 V=>?_;obtain⟨u,v,rfl,hs,h4,x4⟩:=V;refine⟨_,_,_,rfl,?_⟩;have B:Bk Z:=⟨M⟩;clear x2 x3 x4 C w h3;subst X;refine aak λR X=>?_;simp only[VC];refine(fF h4 (by decide) (by decide)).mono λd s5 V=>?_;obtain⟨dy,rfl,J,I,h5,x5⟩:=V;refine aai (oE s5 (by decide)) ⟨le_size (by decide),?_⟩;obtain⟨Y,hD,rfl⟩:∃Y:Nat,Y<=30/\dy=Y:=⟨dy.toNat,by omega,by omega⟩;clear h4 x5;subst X;refine aak λR X=>?_;simp only[VC];refine(B.sure P ⟨J,I⟩).mono λx s6 T=>?_;obtain⟨rfl,c6,rfl⟩:=T;refine(ze B.l B.f B.b hs).mono λx s7 T=>?_;obtain⟨rfl,c7,rfl⟩:=T;have h7:=(h5.app c6).app c7;generalize s5++c6++c7=s7 at h7;clear h5;subst X;refine aak λR X=>?_;simp only[kz];refine zG (i:=3) B P rfl rfl λc8=>?_;have h8:=h7.app c8;generalize s7++c8=s8 at h8;simp only[VC];clear h7;subst X;refine aak λR X=>?_;simp only[VC];refine⟨le_size (by decide),?_⟩;have uN:=Q7 M P hD;generalize hA:(k8.filter λk=>decide ((Y:Int)∈cy Z m k))=A at uN;generalize hB:(k8.filter λk=>decide ((Y:Int)∈bU Z m k))=S at uN;have eS:dO (cy Z m) (bU Z m) Y=cS A S:=by unfold dO;rw[hA,hB]
 rw[eS];refine aai (wA (p:=.made m Y A S) (by omega)) ?_;have q0:=HB P ⟨J,I⟩ uN;have E:∀m',lM Z (dj Z (.made m Y A S)) m':=N5 hD (by rw[hA,hB];exact sA _ _);have H:Bk (dj Z (.made m Y A S)):=⟨N6 (Hy M F q0).1 M E⟩;have U:=λs=>w6 (s:=s) M F q0;generalize dj Z (.made m Y A S)=L at E H U;subst X;refine aak λR X=>?_;rw[jF];simp only[qi,sg,kC,wp_call,dX,cV,dI,dJ];refine aai (U _) ?_;rw[H.b];simp only[ie,ï,Ã,ã,mK,kI];refine zG (i:=11) H P rfl rfl λc9=>?_;have h9:=h8.app c9;generalize s8++c9=s9 at h9;have eL:fX L m=fX Z m:=by unfold fX;rw[(vN (E m)).1,(vN (E m)).2]
 simp only[dI,dJ];rw[eL];refine aai II ?_;simp only[VC,Ã,ã];clear h8;subst X;refine aak λR X=>?_;simp only[VC];refine(ze H.l H.f H.b hs).mono λx W8 T=>?_;obtain⟨rfl,yr,rfl⟩:=T;rw[Po hs E];refine aai Uo ?_;simp only[VC,Ã,ã];have DK:=h9.app yr;generalize s9++yr=W8 at DK;clear h9 E H U;subst X;refine aak λR X=>?_;simp only[VC];refine(fF DK (by decide) (by decide)).mono λd Ym V=>?_;obtain⟨k1,rfl,W9,Xa,kT,nF⟩:=V;refine⟨le_size (by decide),?_⟩;have Uq:0<=(m+1) % 4/\(m+1) % 4<4:=by omega
 have Xb:=HC Uq ⟨J,I⟩ ⟨W9,Xa⟩;refine aai (wA (p:=.aO ((m+1) % 4) Y k1) (by omega)) ?_;have h:lM Z (dj Z (.aO ((m+1) % 4) Y k1)) m:=E7 (sA _ _) (by show (m+1) % 4≠m;omega);have U:=λs=>w6 (s:=s) M F Xb;generalize dj Z (.aO ((m+1) % 4) Y k1)=N at h U;clear nF DK;subst X;refine aak λR X=>?_
 suffices rest:∀DL,bA DL k->Wp (R [some (.aZ ns),some (.int i),some (.ao k),some (bD Z),some (.int m),some (cS u v),some (.int Y),some (.int ((m+1) % 4)),some (cS A S),some (.lst (fx Z u v)),some (fX Z m),some (bD L),some (bD N),kh,cT,cD,cE,fO,fP] DL) Q by
  rw[jF];simp only[qa,kC,wp_call,dX,cV,dI,dJ];refine aai (U _) ?_;rw[ie]
  cases b2:cG N with
  |false =>
   simp only[Ã,ã,mz,ff];exact rest _ kT
  |true =>
   have B2:Bk N:=⟨b2⟩;simp only[ø,mK,kI];refine zG (i:=12) B2 P rfl rfl λXc=>?_;have eL:fX N m=fX Z m:=by unfold fX;rw[(vN h).1,(vN h).2]
   simp only[dI,dJ];rw[eL];refine aai II ?_;simp only[VC,Ã,ã];exact rest _ (kT.app Xc)
 subst X;intro DL lW;clear h U kT;refine aak λR X=>?_;simp only[VC];refine(FO lW).mono λd Xd V=>?_;obtain⟨a,b,rfl,oQ,va,Xe⟩:=V;refine⟨le_size (by decide),aai (wA (p:=.made m Y a b) (by omega)) ?_⟩;have Xf:=HB P ⟨J,I⟩ oQ;have g:=sA Z (.made m Y a b);have U:=λs=>w6 (s:=s) M F Xf;generalize dj Z (.made m Y a b)=K at g U;subst X;refine aak λR X=>?_
 suffices rest:∀cT cD cE yt,bA yt k->Wp (R [some (.aZ ns),some (.int i),some (.ao k),some (bD Z),some (.int m),some (cS u v),some (.int Y),some (.int ((m+1) % 4)),some (cS A S),some (.lst (fx Z u v)),some (fX Z m),some (bD L),some (bD N),some (bD K),cT,cD,cE,fO,fP] yt) Q by
  rw[jF];simp only[kC,wp_call,dX,cV,dI,dJ];refine aai (U _) ?_;rw[ie]
  cases b3:cG K with
  |false =>
   simp only[Ã,ã,mz,ff];exact rest _ _ _ _ va
  |true =>
   have B3:Bk K:=⟨b3⟩;simp only[ø];refine aak λR2 DM=>?_;rw[jc];have it:Wp (bG (kM (ae (eC (.int 0)) (ae (aa 6) (ae (ar bJ (ae (aa 2) (ae (eC (.int 31)) ah))) (ae (eC (.int 30)) ah))))) [some (.aZ ns),some (.int i),some (.ao k),some (bD Z),some (.int m),some (cS u v),some (.int Y),some (.int ((m+1) % 4)),some (cS A S),some (.lst (fx Z u v)),some (fX Z m),some (bD L),some (bD N),some (bD K),cT,cD,cE,fO,fP] Xd) λds s'=>∃r:Int,ds=[.int 0,.int Y,.int r,.int 30]/\0<=r/\r<31/\bA s' k:=by
    obtain⟨d,s',e,r,rfl,r0,r1,h',_⟩:=fF (m:=31) va (by decide) (by decide);refine aai (iD (s1:=s') (ds:=[.int 0,.int Y,.int r,.int 30]) (aaj ?_)) ⟨r,rfl,r0,r1,h'⟩;simp only[qh,dX,cV,iR,dI,dJ,wp_call];exact aai e ⟨le_size (by simp only[á,û];decide),rfl,rfl⟩
   refine it.mono λds yt o=>?_;obtain⟨r,rfl,r0,r1,DN⟩:=o;refine Wp.iQ (λn env t=>∃cT cD cE,bA t k/\env=[some (.aZ ns),some (.int i),some (.ao k),some (bD Z),some (.int m),some (cS u v),some (.int Y),some (.int ((m+1) % 4)),some (cS A S),some (.lst (fx Z u v)),some (fX Z m),some (bD L),some (bD N),some (bD K),cT,cD,cE,fO,fP]) _ ⟨_,_,_,DN,rfl⟩ (λn d env t V O=>?_) λenv t O=>?_
   ·obtain⟨cT,cD,cE,G,rfl⟩:=O
    obtain⟨x,rfl,T⟩:∃x:Int,d=.int x/\0<=x/\x<31:=by
     have:=Ę V;simp only[Ò,þ,or_false] at this
     rcases this with rfl|rfl|rfl|rfl
     ·exact⟨_,rfl,by decide,by decide⟩
     ·exact⟨_,rfl,J,I⟩
     ·exact⟨_,rfl,r0,r1⟩
     ·exact⟨_,rfl,by decide,by decide⟩
    refine⟨_,rfl,(N7 B B3 P T g).mono λfl s' z=>?_⟩;obtain⟨⟨c,rfl⟩,x,y,rfl⟩:=z;exact⟨_,_,_,G.app c,rfl⟩
   ·obtain⟨cT,cD,cE,G,rfl⟩:=O
    rw[ff];subst DM;rw[jc];refine aai (fS (n:=4) rfl (by decide)) ?_;refine Wp.iQ (λn env t=>∃cD,bA t k/\env=[some (.aZ ns),some (.int i),some (.ao k),some (bD Z),some (.int m),some (cS u v),some (.int Y),some (.int ((m+1) % 4)),some (cS A S),some (.lst (fx Z u v)),some (fX Z m),some (bD L),some (bD N),some (bD K),cT,cD,cE,fO,fP]) _ ⟨_,G,rfl⟩ (λn d env t V O=>?_) λenv t O=>?_
    ·obtain⟨cD,G,rfl⟩:=O
     rw[ia] at V;split at V
     ·rename_i hn
      cases V;refine⟨_,rfl,(M5 B3 hs (by omega) g).mono λfl s' z=>?_⟩;obtain⟨⟨c,rfl⟩,rfl⟩:=z;exact⟨_,G.app c,rfl⟩
     ·cases V
    ·obtain⟨cD,G,rfl⟩:=O
     exact rest _ _ _ _ G
 subst X;intro cT cD cE yt DN;clear g U va Xe lW;refine aak λR X=>?_;simp only[VC];refine(fF DN (by decide) (by decide)).mono λd yu V=>?_;obtain⟨j,rfl,Lh,Li,Kw,Yn⟩:=V;subst X;refine aak λR X=>?_;simp only[VC];refine⟨le_size (by decide),aai (wA (p:=.aO m Y j) (by omega)) ?_⟩;have Xg:=HC P ⟨J,I⟩ ⟨Lh,Li⟩;have M4:=sA Z (.aO m Y j);have U:=λs=>w6 (s:=s) M F Xg;generalize dj Z (.aO m Y j)=q4 at M4 U;subst X;rw[jF];simp only[kC,wp_call,dX,cV,dI,dJ];refine aai (U _) ?_;rw[ie]
 cases b4:cG q4 with
 |false =>
  simp only[Ã,ã,mz];exact q _ _ _ _ _ _ _ _ _ _ _ _ _ _ _ _ _ _
 |true =>
  have B4:Bk q4:=⟨b4⟩;simp only[ø];refine aak λR2 DM=>?_;rw[jc];have it:Wp (bG (bC 1 [6] (bG (kM (ae (eC (.int 0)) (ae (eC (.int 1)) (ae (eC (.int 5)) ah))))) (gN 0) (aV (DI.e2 jm (DI.e2 cN (aa 1) (aa 0)) (eC (.int 31)))) (DI.e2 cN (aa 1) (aa 0))) [some (.aZ ns),some (.int i),some (.ao k),some (bD Z),some (.int m),some (cS u v),some (.int Y),some (.int ((m+1) % 4)),some (cS A S),some (.lst (fx Z u v)),some (fX Z m),some (bD L),some (bD N),some (bD K),cT,cD,cE,some (.int j),some (bD q4)] yu) λds s'=>s'=yu/\∀d∈ds,∃x:Int,d=.int x/\0<=x/\x<31:=by
   refine aai (iD (s1:=yu) (ds:=((([0,1,5]:List Int).filter λx=>decide ((Y:Int)+x<31)).map λx=>D.int (Y+x))) (aaj ?_)) ⟨rfl,λd V=>?_⟩
   ·rw[lB]
    refine aai (iD (s1:=yu) (ds:=([0,1,5]:List Int).map D.int) (aaj ?_)) ⟨le_size (by decide),?_⟩
    ·simp only[qh,dX,cV,iR]
     exact⟨le_size (by decide),by first|rfl|trivial,by first|rfl|trivial⟩
    ·refine aai (i9 (λx=>decide ((Y:Int)+x<31)) (λx=>.int (Y+x)) [0,1,5] λx _=>⟨[some (.int x),some (.int Y)],rfl,?_,λ_=>rfl⟩) ⟨rfl,rfl⟩
     refine aaj ?_;simp only[VC,Ħ]
   ·obtain⟨x,T,rfl⟩:=å.mp V
    obtain⟨C,w⟩:=ê.mp T;have w:=Ė w;simp only[Ò,þ,or_false] at C;exact⟨_,rfl,by omega,by omega⟩
  refine it.mono λds Yo o=>?_;obtain⟨rfl,o⟩:=o;refine Wp.iQ (λn env t=>∃cT,env=[some (.aZ ns),some (.int i),some (.ao k),some (bD Z),some (.int m),some (cS u v),some (.int Y),some (.int ((m+1) % 4)),some (cS A S),some (.lst (fx Z u v)),some (fX Z m),some (bD L),some (bD N),some (bD K),cT,cD,cE,some (.int j),some (bD q4)]) _ ⟨_,rfl⟩ (λn d env t V O=>?_) λenv t O=>?_
  ·obtain⟨cT,rfl⟩:=O
   obtain⟨x,rfl,T⟩:=o d (Ę V);refine⟨_,rfl,(N8 B B4 P T M4).mono λfl s' z=>?_⟩;obtain⟨⟨c,rfl⟩,rfl⟩:=z;exact⟨_,rfl⟩
  ·obtain⟨cT,rfl⟩:=O
   rw[ff];subst DM;simp only[VC];refine(B4.sure P ⟨J,I⟩).mono λx Yp T=>?_;obtain⟨rfl,Yq,rfl⟩:=T;unfold dO;refine aai (i5 _ _ _).2 ?_;rw[pO,aQ,ß ((jC hD).2.mpr ⟨jH.mpr ⟨Lh,Li⟩,Q2 M4⟩)];simp only[VC,ï,Ã,ã];exact q _ _ _ _ _ _ _ _ _ _ _ _ _ _ _ _ _ _
def Pq (W:Ĉ) (ns:List Int) (hn:ns.length<=63):∃s,xo W [.aZ ns] []=some (.ok (.bl true),s):=by
 suffices h:Wp (xo W [.aZ ns] []) λd _=>d=.bl true by
  obtain⟨d,s,e,rfl⟩:=h;exact⟨s,e⟩
 unfold xo;refine jK.symm ▸ ⟨rfl,aak λR E=>?_⟩;rw[jc];have Y:∃n:Nat,n<=1000/\(ae (eB qr (ae (eC (.int 1)) (ae (eB xh (ae (eB ix (ae (aa 0) ah)) (ae (eC (.int 2)) ah))) ah))) ah) [some (.aZ ns),none,none,none,none,none,none,none,none,none,none,none,none,none,none,none,none,none,none] []=ok [.int n] []:=by
  refine⟨(if (if (2:Int)<ns.length then (2:Int) else ns.length) > 1 then (if (2:Int)<ns.length then (2:Int) else ns.length) else 1).toNat,by split<;>split<;>omega,?_⟩
  rw[Z4 (by split<;>split<;>omega)]
  rfl
 obtain⟨n,hn,Y⟩:=Y;refine aai (fS Y (by omega)) ?_;refine Wp.iQ (λi env s=>∃e1 e2 X V U T S Q P O N M L K J I H G,env=[some (.aZ ns),e1,e2,X,V,U,T,S,Q,P,O,N,M,L,K,J,I,H,G]) _ ⟨_,_,_,_,_,_,_,_,_,_,_,_,_,_,_,_,_,_,rfl⟩ (λi d env s Z F=>?_) (λenv s F=>?_)
 ·obtain⟨e1,e2,X,V,U,T,S,Q,P,O,N,M,L,K,J,I,H,G,rfl⟩:=F
  rw[ia] at Z;split at Z
  ·have Z:D.int (0+(i:Int))=d:=aam Z
   subst Z;exact⟨_,rfl,N9 (by omega) λ_ _ _ _ _ _ _ _ _ _ _ _ _ _ _ _ _ _=>⟨_,_,_,_,_,_,_,_,_,_,_,_,_,_,_,_,_,_,rfl⟩⟩
  ·cases Z
 ·obtain⟨e1,e2,X,V,U,T,S,Q,P,O,N,M,L,K,J,I,H,G,rfl⟩:=F
  rw[ff];subst E;simp only[ig,iR,ij]
end DI
end
namespace DI.jx
open PySem L2 DI
def Df (K:Ļ) (x:Str) (st:Stmt):Prop:=∃(f:à) (Z:Ê) (Y:Option à) (X:Array (Option Ê)) (kV W pm:Ê) (an:Option à) (cd V:Ê),ă K ó x=some (some (.ref f))/\K.lookup f=some ⟨Z,Y,.func (ſ x x (nP st) (kq st) (gp st) .none kV W pm an cd V),X⟩/\ZE K cd x=true/\Ů K (.ref f)=true
def Ur {K:Ļ} {x:Str} {st:Stmt} {f:à} {oc:Ê} {od:Option à} {sl:Array (Option Ê)} {kV dc pm:Ê} {an:Option à} {cd ct:Ê} (a:ă K ó x=some (some (.ref f))) (l:K.lookup f=some ⟨oc,od,.func (ſ x x (nP st) (kq st) (gp st) .none kV dc pm an cd ct),sl⟩) (c:ZE K cd x=true) (k:Ů K (.ref f)=true):Df K x st:=⟨f,oc,od,sl,kV,dc,pm,an,cd,ct,a,l,c,k⟩
def qA {K:Ļ} {x:Str} {i:Int} {t:Tok} (e:ă K ó x=some (some (.int i t))):∃t,ă K ó x=some (some (.int i t)):=⟨t,e⟩
def bz {K:Ļ} {h:ō} {mg:Str->Option Ê} {x:Str} {st:Stmt} {ps:List Str} (X:K.In h) (G:h.Ns ó mg) (D:Df K x st) (hb:∀(kV doc pm:Ê) (an:Option à) (bQ ct:Ê) (us:List Ê),us.length=ps.length->bindArgs (ſ x x (nP st) (kq st) (gp st) .none kV doc pm an bQ ct) ⟨us,[]⟩=pure (ps.zip us)):∃f fd,Gd K mg x st ps f fd:=by
 obtain⟨f,Z,Y,W,kV,V,pm,an,cd,ct,a,l,c,k⟩:=D;have F:=HI (st:=st) l c k;exact⟨f,_,Ŭ X G a,F,F.binds hb⟩
def fj {P:List Ê->Prop} (h:∀a0:Ê,P [a0]) (us:List Ê) (hl:us.length=1):P us:=by
 cases us with
 |nil=>simp at hl
 |cons a0 Z =>
 cases Z with
 |cons _ _=>simp at hl
 |nil =>
 exact h a0
def gy {P:List Ê->Prop} (h:∀a0 a1:Ê,P [a0,a1]) (us:List Ê) (hl:us.length=2):P us:=by
 cases us with
 |nil=>simp at hl
 |cons a0 Z =>
 cases Z with
 |nil=>simp at hl
 |cons a1 Y =>
 cases Y with
 |cons _ _=>simp at hl
 |nil =>
 exact h a0 a1
def qB {P:List Ê->Prop} (h:∀a0 a1 a2:Ê,P [a0,a1,a2]) (us:List Ê) (hl:us.length=3):P us:=by
 cases us with
 |nil=>simp at hl
 |cons a0 Z =>
 cases Z with
 |nil=>simp at hl
 |cons a1 Y =>
 cases Y with
 |nil=>simp at hl
 |cons a2 X =>
 cases X with
 |cons _ _=>simp at hl
 |nil =>
 exact h a0 a1 a2
def Us {P:List Ê->Prop} (h:∀a0 a1 a2 a3:Ê,P [a0,a1,a2,a3]) (us:List Ê) (hl:us.length=4):P us:=by
 cases us with
 |nil=>simp at hl
 |cons a0 Z =>
 cases Z with
 |nil=>simp at hl
 |cons a1 Y =>
 cases Y with
 |nil=>simp at hl
 |cons a2 X =>
 cases X with
 |nil=>simp at hl
 |cons a3 W =>
 cases W with
 |cons _ _=>simp at hl
 |nil =>
 exact h a0 a1 a2 a3
def all_mk {P:ô} {w:Ĉ} {K:Ļ} {h:ō} {mg:Str->Option Ê} {fa:à} (X:K.In h) (G:h.Ns ó mg) (Xi:mg "law"=some (.ref fa))
  (d0:Df K "_law_cell_at" (top 47))
  (d1:Df K "_law_state" (top 48))
  (d2:Df K "_law_more" (top 54))
  (d3:Df K "is_rising" (top 15))
  (d4:Df K "is_number" (top 10))
  (d5:Df K "is_below" (top 11))
  (d6:Df K "is_mark" (top 12))
  (d7:Df K "are_marks" (top 22))
  (d8:Df K "are_apart" (top 24))
  (d9:Df K "is_sheet" (top 23))
  (DP:Df K "is_mould" (top 13))
  (DQ:Df K "is_day" (top 14))
  (DR:Df K "is_page" (top 25))
  (DT:Df K "are_laid" (top 26))
  (DU:Df K "days_seen" (top 31))
  (DW:Df K "days_mended" (top 32))
  (DY:Df K "is_any_behind" (top 30))
  (DZ:Df K "clashes" (top 29))
  (D1:Df K "faults_of" (top 28))
  (D2:Df K "is_book" (top 27))
  (D3:Df K "_law_take" (top 49))
  (D4:Df K "_law_marks" (top 50))
  (D5:Df K "_law_sheet" (top 51))
  (D6:Df K "need_book" (top 34))
  (D7:Df K "need_mould" (top 16))
  (D8:Df K "need_day" (top 17))
  (D9:Df K "days_present" (top 42))
  (Ea:Df K "days_absent" (top 43))
  (Eb:Df K "marks_on" (top 41))
  (Ec:Df K "sure_sheets" (top 40))
  (Ed:Df K "surely" (top 36))
  (dh:Df K "need_sheet" (top 33))
  (Ee:Df K "stretches" (top 45))
  (Ef:Df K "agree" (top 44))
  (Eg:Df K "places_of" (top 39))
  (Eh:Df K "least_life" (top 37))
  (Ei:Df K "most_life" (top 38))
  (Ej:Df K "_law_lived" (top 52))
  (Ek:Df K "_law_book" (top 53))
  (El:Df K "_law_within" (top 56))
  (Em:Df K "_law_days" (top 55))
  (dl:Df K "law" (top 57))
  (An:∃t,ă K ó "MARKS"=some (some (.int (8) t)))
  (zH:∃t,ă K ó "MOULDS"=some (some (.int (4) t)))
  (AQ:∃t,ă K ó "DAYS"=some (some (.int (31) t)))
  (Ao:∃t,ă K ó "PAGES"=some (some (.int (24) t)))
  (Bm:∃t,ă K ó "HAS"=some (some (.int (0) t)))
  (Ap:∃t,ă K ó "LACKS"=some (some (.int (1) t)))
  (Bn:ă K ó "all"=some none)
  (Bo:ă K ó "any"=some none)
  (AR:ă K ó "bool"=some none)
  (Bp:ă K ó "int"=some none)
  (yI:ă K ó "isinstance"=some none)
  (Bq:ă K ó "len"=some none)
  (AS:ă K ó "list"=some none)
  (Br:ă K ó "max"=some none)
  (Bs:ă K ó "min"=some none)
  (Aq:ă K ó "range"=some none)
  (yV:ă K ó "reversed"=some none)
  (Bt:ă K ó "set"=some none)
  (zI:ă K ó "sorted"=some none)
  (Ar:ă K ó "tuple"=some none)
  (Bu:ă K ó "zip"=some none)
  : ∃fd:ű,(∀(s:Æ) (v:Ê),BindsTo s fd ⟨[v],[]⟩ [(aao,v)])/\∀base:ō,K.In base->base.Ns ó mg->fT P w K mg base iz 11 fa fd [aao] (xj K):=by
 have Z:=bz (ps:=[aao,"_law_k"]) X G d0 λ_ _ _ _ _ _=>gy λ_ _=>rfl;have g1:=bz (ps:=[aao,"_law_k"]) X G d1 λ_ _ _ _ _ _=>gy λ_ _=>rfl;have g2:=bz (ps:=["_law_book_here","_law_page"]) X G d2 λ_ _ _ _ _ _=>gy λ_ _=>rfl;have g3:=bz (ps:=["things"]) X G d3 λ_ _ _ _ _ _=>fj λ_=>rfl;have Y:=bz (ps:=["thing"]) X G d4 λ_ _ _ _ _ _=>fj λ_=>rfl;have W:=bz (ps:=["thing","many"]) X G d5 λ_ _ _ _ _ _=>gy λ_ _=>rfl;have V:=bz (ps:=["thing"]) X G d6 λ_ _ _ _ _ _=>fj λ_=>rfl;have U:=bz (ps:=["thing"]) X G d7 λ_ _ _ _ _ _=>fj λ_=>rfl;have T:=bz (ps:=["marks","others"]) X G d8 λ_ _ _ _ _ _=>gy λ_ _=>rfl;have S:=bz (ps:=["thing"]) X G d9 λ_ _ _ _ _ _=>fj λ_=>rfl;have R:=bz (ps:=["thing"]) X G DP λ_ _ _ _ _ _=>fj λ_=>rfl;have Q:=bz (ps:=["thing"]) X G DQ λ_ _ _ _ _ _=>fj λ_=>rfl;have O:=bz (ps:=["thing"]) X G DR λ_ _ _ _ _ _=>fj λ_=>rfl;have N:=bz (ps:=["thing"]) X G DT λ_ _ _ _ _ _=>fj λ_=>rfl;have M:=bz (ps:=["pages","mould","mark","half"]) X G DU λ_ _ _ _ _ _=>Us λ_ _ _ _=>rfl;have L:=bz (ps:=["pages","mould","mark"]) X G DW λ_ _ _ _ _ _=>qB λ_ _ _=>rfl;have J:=bz (ps:=["days","day","later"]) X G DY λ_ _ _ _ _ _=>qB λ_ _ _=>rfl;have I:=bz (ps:=["pages","mould","mark"]) X G DZ λ_ _ _ _ _ _=>qB λ_ _ _=>rfl;have H:=bz (ps:=["pages"]) X G D1 λ_ _ _ _ _ _=>fj λ_=>rfl;have E:=bz (ps:=["thing"]) X G D2 λ_ _ _ _ _ _=>fj λ_=>rfl;have D:=bz (ps:=[aan,"_law_many"]) X G D3 λ_ _ _ _ _ _=>gy λ_ _=>rfl;have C:=bz (ps:=[aan,"_law_most"]) X G D4 λ_ _ _ _ _ _=>gy λ_ _=>rfl;have B:=bz (ps:=[aan]) X G D5 λ_ _ _ _ _ _=>fj λ_=>rfl;have A:=bz (ps:=["thing"]) X G D6 λ_ _ _ _ _ _=>fj λ_=>rfl;have z:=bz (ps:=["thing"]) X G D7 λ_ _ _ _ _ _=>fj λ_=>rfl;have y:=bz (ps:=["thing"]) X G D8 λ_ _ _ _ _ _=>fj λ_=>rfl;have x:=bz (ps:=["book","mould","mark"]) X G D9 λ_ _ _ _ _ _=>qB λ_ _ _=>rfl;have u:=bz (ps:=["book","mould","mark"]) X G Ea λ_ _ _ _ _ _=>qB λ_ _ _=>rfl;have r:=bz (ps:=["days_by_mark","day"]) X G Eb λ_ _ _ _ _ _=>gy λ_ _=>rfl;have q:=bz (ps:=["book","mould"]) X G Ec λ_ _ _ _ _ _=>gy λ_ _=>rfl;have p:=bz (ps:=["book","mould","day"]) X G Ed λ_ _ _ _ _ _=>qB λ_ _ _=>rfl;have o:=bz (ps:=["thing"]) X G dh λ_ _ _ _ _ _=>fj λ_=>rfl;have n:=bz (ps:=["holds"]) X G Ee λ_ _ _ _ _ _=>fj λ_=>rfl;have m:=bz (ps:=["sheet","sure"]) X G Ef λ_ _ _ _ _ _=>gy λ_ _=>rfl;have j:=bz (ps:=["book","sheet"]) X G Eg λ_ _ _ _ _ _=>gy λ_ _=>rfl;have i:=bz (ps:=["book","mould"]) X G Eh λ_ _ _ _ _ _=>gy λ_ _=>rfl;have g:=bz (ps:=["book","mould"]) X G Ei λ_ _ _ _ _ _=>gy λ_ _=>rfl;have d:=bz (ps:=[aan,aas]) X G Ej λ_ _ _ _ _ _=>gy λ_ _=>rfl;have b:=bz (ps:=[aan]) X G Ek λ_ _ _ _ _ _=>fj λ_=>rfl;have XO:=bz (ps:=["_law_one",aat]) X G El λ_ _ _ _ _ _=>gy λ_ _=>rfl;have XQ:=bz (ps:=["_law_told",aar]) X G Em λ_ _ _ _ _ _=>gy λ_ _=>rfl;have mv:∃t,mg "MARKS"=some (.int (8) t):=by obtain⟨t,e⟩:=An;exact⟨t,Ŭ X G e⟩
 have rK:∃t,mg "MOULDS"=some (.int (4) t):=by obtain⟨t,e⟩:=zH;exact⟨t,Ŭ X G e⟩
 have nT:∃t,mg "DAYS"=some (.int (31) t):=by obtain⟨t,e⟩:=AQ;exact⟨t,Ŭ X G e⟩
 have zx:∃t,mg "PAGES"=some (.int (24) t):=by obtain⟨t,e⟩:=Ao;exact⟨t,Ŭ X G e⟩
 have qg:∃t,mg "HAS"=some (.int (0) t):=by obtain⟨t,e⟩:=Bm;exact⟨t,Ŭ X G e⟩
 have pY:∃t,mg "LACKS"=some (.int (1) t):=by obtain⟨t,e⟩:=Ap;exact⟨t,Ŭ X G e⟩
 have Ut:=Č X G Bn;have Uu:=Č X G Bo;have SS:=Č X G AR;have Uv:=Č X G Bp;have Ma:=Č X G yI;have Uw:=Č X G Bq;have SU:=Č X G AS;have Ux:=Č X G Br;have Uy:=Č X G Bs;have Q8:=Č X G Aq;have M6:=Č X G yV;have Uz:=Č X G Bt;have Pt:=Č X G zI;have Q9:=Č X G Ar;have UA:=Č X G Bu;obtain⟨f,oc,od,sl,kV,dc,pm,an,cd,ct,a,l,c,k⟩:=dl;have e:=Xi.symm.trans (Ŭ X G a);cases e;have F:=HI (st:=(top 57)) l c k;have GL:Gd K mg "law" (top 57) [aao] _ _:=⟨Ŭ X G a,F,F.binds λ_ _ _ _ _ _=>fj λ_=>rfl⟩;exact⟨_,λs v=>.of_eq rfl,λbase _ _=>Sa (SA ⟨Ut,Uu,SS,Uv,Ma,Uw,SU,Ux,Uy,Q8,M6,Uz,Pt,Q9,UA,mv,rK,nT,zx,qg,pY,Z,g1,g2,g3,Y,W,V,U,T,S,R,Q,O,N,M,L,J,I,H,E,D,C,B,A,z,y,x,u,r,q,p,o,n,m,j,i,g,d,b,XO,XQ⟩ GL) (Pq w)⟩
def walk {l:PySem.W.OpenLaw} {q:ô} {loose:List Str} {XP:(Str->Option Ê)->ō->Prop} {YP:Ĉ->ō->Prop} {d:DefRec} {K:Params->Ļ} (hn:l.most=some 63) (uO:d.params.defaults=[])
  (hY:∀(w:Ĉ) (h:ō),YP w h->(K w.params).In h)
  (F:∀(w:Ĉ) (mg:Str->Option Ê) (fa:à) (h:ō),(K w.params).In h->h.Ns ó mg->mg d.name=some (.ref fa) ->
   ∃fd:ű,(∀(s:Æ) (u:Ê),BindsTo s fd ⟨[u],[]⟩ [(aao,u)])/\∀base:ō,(K w.params).In base->base.Ns ó mg->fT l.prog w (K w.params) mg base iz 11 fa fd [aao] (xj (K w.params))) :
  PySem.W.WalkO q loose XP YP l.row.toRowW d [] (λf vs=>PySem.call f vs) :=
 L2.P0 (n:=63) (k:=11) (x:= aao) (CX:=λ_=>iz) (sp:=λw=>xj (K w.params)) hn (by decide) uO ⟨rfl,by decide,by decide,rfl⟩ hY F (λ_ _ a Z Y _ X=>⟨a,Z,rfl,X,Y,λ_=>rfl⟩) λ_ _ _ _ _ z=>z
end DI.jx
open PySem PySem.W PyProof.Rows
namespace PySem.W.Fast
def te887390545990186226:=trivial
def te1779705290660143289:=trivial
def te4594612160834647371:=trivial
def te8403559534865787773:=trivial
def te15500001179271910561:=trivial
def te4678103353419205127:=trivial
end PySem.W.Fast
set_option maxRecDepth 100000 in
set_option maxHeartbeats 0 in
theorem PySem.Challenge.cw_twinmoulds_k16_a_page_more_holds : PySem.Challenge.rw_twinmoulds_k16_a_page_more.Holds := by
 w_on;o_law;k_head;(case hw=>w_witness2)
 k_fill
 refine DI.jx.walk (l:=PySem.Challenge.rw_twinmoulds_k16_a_page_more) rfl rfl (λw h Y=>PySem.W.kIn_of Y) ?F
 case F =>
  intro w V U h Z G X;refine' DI.jx.all_mk Z G X ?d0 ?d1 ?d2 ?d3 ?d4 ?d5 ?d6 ?d7 ?d8 ?d9 ?DP ?DQ ?DR ?DT ?DU ?DW ?DY ?DZ ?D1 ?D2 ?D3 ?D4 ?D5 ?D6 ?D7 ?D8 ?D9 ?Ea ?Eb ?Ec ?Ed ?dh ?Ee ?Ef ?Eg ?Eh ?Ei ?Ej ?Ek ?El ?Em ?dl ?An ?zH ?AQ ?Ao ?Bm ?Ap ?Bn ?Bo ?AR ?Bp ?yI ?Bq ?AS ?Br ?Bs ?Aq ?yV ?Bt ?zI ?Ar ?Bu
  (case d0|d1|d2|d3|d4|d5|d6|d7|d8|d9|DP|DQ|DR|DT|DU|DW|DY|DZ|D1|D2|D3|D4|D5|D6|D7|D8|D9|Ea|Eb|Ec|Ed|dh|Ee|Ef|Eg|Eh|Ei|Ej|Ek|El|Em|dl=>refine' DI.jx.Ur ?a ?l ?c ?k;(case a=>k_is);(case l=>k_is);(case c=>k_is);(case k=>k_is))
  (case An=>refine' DI.jx.qA ?e;(case e=>k_is))
  (case zH=>refine' DI.jx.qA ?e;(case e=>k_is))
  (case AQ=>refine' DI.jx.qA ?e;(case e=>k_is))
  (case Ao=>refine' DI.jx.qA ?e;(case e=>k_is))
  (case Bm=>refine' DI.jx.qA ?e;(case e=>k_is))
  (case Ap=>refine' DI.jx.qA ?e;(case e=>k_is))
  (case Bn|Bo|AR|Bp|yI|Bq|AS|Br|Bs|Aq|yV|Bt|zI|Ar|Bu=>k_is)
