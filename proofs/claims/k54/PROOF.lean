import PyProof.Rows.All
import Wide.All
import OpenK.AllK
import Wide.FinOn
import Lean
import PyProof.EqAt
import PyProof.EqKinds
import PyProof.TupleCall
import PyProof.NeData
import PyProof.P3In
import PyProof.FactsAll.set
import PyProof.CollectWalk
import PyProof.FactsAll.range
import PyProof.MinMaxWalk
import KE.KMinKey
import PyProof.WalkInts
import PyProof.Rows.CallKwBuiltin
import KE.KLam
import KE.KSortTup
import PyProof.Rows.Range3
import PyProof.ListRange
import PyProof.DictRoadsH
import KE.KDictList
import PyProof.Rows.SortKeyStr
import PyProof.DictCompW
import PyProof.DictWalks
import PyProof.Rows.CompDC
import PyProof.SumAny
import PyProof.TupleOfGen
import PyProof.CollectIter
import KE.KTryMore
import OpenK.KOwn
import PyProof.ExcBaseAll.ValueError
import KE.KNestM
import PyProof.NsDelKeeps
import PyProof.ExcAttrAll.ValueError
import PyProof.Conv_int_bool
import PyProof.InstStoreFacts
import PyProof.Rows.SumAny
import PySem.Challenge.RW_twinmoulds_k54_told_lists_are_the_askers
set_option compiler.extract_closed false
set_option bootstrap.genMatcherCode false
set_option genInjectivity false
set_option genSizeOfSpec false
set_option Elab.async false
set_option linter.all false
set_option maxRecDepth 100000
set_option maxHeartbeats 4000000
open PySem renaming wpAny_bind→À,wpAny_pure→Ä,Shared→Å,Value→Ç,sizeLine→Ø,starEach→ß,wpAny→á,mainGlobals→â,Addr→ä,model→í,Program→ó,foldedSetIterable→ý,wpAny_newObj_type→ą,bootBuiltins→ć,Around→Ĉ,wpAny_callSpecial?_slot→č,wpAny_call_entry→Ď,World→Ĕ,compareOp→ě,wpAny_field→Ĝ,wpAny_holding→Ġ,wpAny_setField_rec→Ī,codeAny_builtin→ı,wpAny_seqItems→Ĵ,wpAny_mono→ķ,Expr→ľ,wpAny_pyIter_list→Ō,FuncData→ő,Heap→œ,wpAny_truthy_bool→ŗ,rawInt→Ś,binaryOp→ś,codeAny_mono→ŝ,compEnvC→š,eval→ţ,Builtin→Ť,sysModules→Ŧ,backTo→ũ,letOwnedTupleGo→Ū,intKind→ů,wpAny_rule→Ų,wpAny_askSetting→Ŵ,sizeLine_eq→Ÿ,codeAny→Ź,assignEach→Ž,wpAny_passesOwn→ž,pyNext→ſ,wpAny_setState_of→η,wpAny_standAt→μ,mem_of_lookup→ν,wpAny_of_eq→ξ,wpAny_attempt→ο,wpAny_setEntries_of→ς,plainId_quiet→υ,scanBound→ω,pickOrder→abb,wpAny_setField→abd,wpAny_Call_Name_kw→abf,NameKind→abg,holding→abj,keywordEach→abl,wpAny_loadPart'→abq,swapsWithSole→abv,swappedStores→abw,attributeBase→aby,fits_of_scanBound→abA,codeAny_call_builtin→abE,cellsFrom→abF,IsPair→abH,wpAny_tryCatch→abK,standAt→abO,wpAny_letGo→abS,wpAny_typeOf→abV,wpAny_comprehension_free→abY,behindInMarks→ab0,tupleKind_room_in1→ab4,codeAny_of_tree→ab6,wpAny_updateSeq→aca,wpAny_newList→acb,Scope→acf,cLine→acg,wpAny_pyIter_rangeiter→ach,sliceBounds→acp,wpAny_storeSet_of→acw,wpAny_bindName→acx,builtinLookup_eq_fast→acG,weight_type_call_type→acH,wpAny_isInstance→acM,assignInOrder→acR,bindName→acS,wpAny_execs_nil→acV,swapsWith→acW,PyData→acZ,backToKw→ac7,getItem→adm,Stmt→ado,assign→adp
open PySem.Heap renaming get?_push_of_some→Á,get?_push_size→Ë,lt_size→Ó,size_push→û,get?_update_self→Ė,get?_update_other→ģ,SameBut→ń,get?_update_ne→abT,ExtBut→acq
open List renaming length_map→Â,getElem?_eq_some_iff→Æ,mem_cons→É,mem_append_right→Ê,map_cons→Î,replicate→Ï,length_append→Ð,mem_cons_self→Ñ,mem_cons_of_mem→Ò,getElem?_eq_getElem→Ô,range→Ù,size_toArray→Û,mem_singleton→Ü,not_mem_nil→Ý,getElem?_append_left→ã,getElem?_set_ne→ç,getElem?_map→è,length_cons→ê,mem_range→ë,map_append→ì,getElem?_set_self→ð,mem_append→ñ,mem_map→ò,set_cons_zero→ô,all_eq_true→õ,set_cons_succ→ø,mem_append_left→þ,mem_filter→ÿ,length_singleton→ā,pairwise_cons→Ă,getElem?_append_right→ă,length_nil→Ć,cons_append→ď,append_nil→Ē,nil_append→ē,getElem?_eq_none→ė,map_nil→Ğ,length_set→ġ,mem_of_getElem?→Ĥ,nodup_cons→Ħ,append_assoc→Ĩ,map_map→ī,length_filter_le→Ĭ,getElem?_replicate→ĭ,lookup_cons→ļ,length_range→ŀ,zip_cons_cons→ņ,replicate_succ→Ř,getElem?_range→ř,drop_eq_getElem_cons→Ŝ,filter_cons→ť,nodup_append→ŧ,foldl_cons→ū,any_eq_true→ų,filter_append→ŷ,nodup_nil→ż,flatten_cons→δ,getD→ε,find?_cons→ζ,pairwise_singleton→χ,length_replicate→abm,set_append_right→abt,range_succ→abu,any_eq_false→abx,getD_eq_getElem?_getD→abD,length_take→abL,isEmpty_nil→abM,lookup→abP,map_congr_left→abQ,getElem_of_mem→abR,length_erase_of_mem→abX,any_cons→ab2,length_eq_zero_iff→ab9,flatMap_eq_nil_iff→ace,take_of_length_le→acm,drop_of_length_le→acn,ext_getElem?→acs,toArray→acF,getElem_mem→acL,drop_length→acN,mem_flatMap→acO,filterMap_cons→acU,map_eq_flatMap→ac4,any_map→ac9
open Bool renaming false_eq_true→Ã,and_eq_true→È,false_ne_true→Ö,not_true→Č,and_self→đ,true_and→ĕ,not_eq_true'→ĵ,eq_iff_iff→ň,not_eq_true→aba,or_eq_true→ab5,false_and→adb,not_false→adf
open Nat renaming lt_of_lt_of_le→Ì,le_trans→Ú,ne_of_lt→à,lt_succ_of_lt→é,lt_irrefl→ú,zero_le→ü,lt_succ_self→ĉ,ne_of_gt→ĸ,le_succ→ł,lt_of_le_of_lt→Ņ,lt_succ_iff_lt_or_eq→Ţ,le_of_not_lt→ψ,le_of_eq→abk,le_max_right→abN,succ_le_succ→acP,mul_le_mul_right→acQ,le_max_left→ac3,not_lt_zero→ac5
open And renaming intro→ö
open PySem.W renaming nsIn→ù,mg_none_of→Ċ,Frag→ĥ,mg_of→İ,emptyDict→ō,findIn→Ő,instObj→Ũ,keepIn→ź,fnOf→ι,cellsFrom_some→aci,lookIn→acy,codeIn→acz,plainGet→acK,plainGet_of→acX,methodObj→adg,hasDictIn→adh
open PySem.Str renaming ofString→Ā
open Array renaming length_toList→Ą,getElem?_toList→Ŏ,toList_push→acv,getD→adj
open PySem.Builtin.SmallTypes renaming nextOf→Đ,ownedTupleIsFree→ĝ,ownedTupleHandOut→Ŋ
open PySem.SetTable renaming below→Ę,grown→acA
open PySem.Obj renaming data_mapFields→ę,mapSeq→Ŀ,isFreed_of_fields→Ş,cls_mapFields→acr
open PySem.PassesOwn renaming never→Ģ
open PyProof.Rows renaming slot_tuple_getitem→ħ,callWith_type1→Ĺ,firstMet→ŏ,assignInOrder_cons→ŵ,seqObj→abh,IntsAre→aco,envOfC→ac1,AllBare→adl
open PySem.Builtin.Range renaming rangeFitsLong→ĩ,rangeSize→abZ,rangeFields→ade
open PySem.Heap.SameBut renaming update→Į
open Int renaming toNat_natCast→Ĳ,zero_add→Ŕ,emod_lt_of_pos→abi,emod_nonneg→acd
open PySem.PyData renaming eqv→ĳ,depthAll→Ļ,shownAll→Œ,showableAll→Ŷ,weightAll→abc,hasDict→abe,showable→abr,strOk→acI,leavesShortAll→acJ,leavesShort→ada
open PySem.F renaming called_set→ĺ,plain_max_loop→Ň,slot_tuple_iterator_next→Ű,slot_enumerate_next→abo,slot_range_reversed→abp,args_tuple_add_2→abU,entry_tuple_add→ab1,slot_tuple_add→acj,entry_max_loop→ack,slot_int_rmul→acY,slot_zip_next→ac0
open PySem.Value renaming ref→Ł,type→Ŗ,int→acD
open PySem.Around renaming under_plainId→Ń,under_plain→ac8
open Sum renaming inl→ŋ
open Ne renaming symm→ŕ
open List.cons renaming injEq→ş
open PySem.Builtin.Tuple renaming tupleExact→Š,tupleItemsOf→abB,tupleIsExact→abC
open ForInStep renaming yield→Ŭ
open PySem.Builtin.List renaming listExtendWith→ŭ,listTooLong→abW
open Option renaming map_eq_some_iff→Ů,map_some→abn,isSome_map→abz,isSome_some→ab3
open False renaming elim→ű
open PySem.Builtin.Slice renaming slicePlaces→Ż,sliceAdjust→abG,sliceApplied→ac6
open Function renaming comp_def→θ
open List.Perm renaming swap→abI
open PySem.Calls renaming call_function_entry→abJ
open PyProof.Rows.F renaming plain_set_update_loop→ab7
open PySem.Code renaming quiet_builtin→ab8
open PySem.SetTable.below renaming go→acu
open PySem.ReprK renaming of_reads→acC
open List.Pairwise renaming sublist→acE
open PySem.Builtin.Frozenset renaming updateFrom→acT
open PySem.Builtin.Builtins renaming bindParams→ac2
open True renaming intro→adi
open PySem.SetTable.probe renaming go→adk
open PySem.Shared renaming TypeIs→adn
def Í:=@decide_eq_true_eq
def Õ:=@decide_eq_true
def Þ:=@if_pos
def å:=@if_neg
def æ:=@decide_eq_false
def î:=@if_false
def ï:=@if_true
def ċ:=@of_decide_eq_true
def Ě:=@and_self
def ğ:=@bne_self_eq_false
def į:=@decide_true
def Ķ:=@congrArg
def Ľ:=@beq_self_eq_true
def acB:=@true_and
def adv:=@Nat.le_refl
def adw:=@Option.some.inj
abbrev adx:PySem.Str:="_law_state_here"
abbrev ady:PySem.Str:="_law_script"
abbrev adz:PySem.Str:="_law_many"
abbrev adA:PySem.Str:="_law_mark"
abbrev adB:PySem.Str:="_law_pages"
abbrev adC:PySem.Str:="_law_k"
abbrev adD:PySem.Str:="_law_mould"
abbrev adE:PySem.Str:="_law_heaps"
abbrev adF:PySem.Str:="_law_counts"
abbrev adG:PySem.Str:="_law_book_here"
abbrev adH:PySem.Str:="_law_sheet_here"
abbrev adI:PySem.Str:="_law_mark_stands"
noncomputable section
def hold{G:Prop}(h:∀P:Prop,(G->P)->P):G:=h G id
local macro_rules | `(tactic| obtain ⟨$a,$b,$c,$d,$xs,*⟩ := $h)=>`(tactic| (refine hold λP k=>?_;rcases $h:term with ⟨$a,$b,$c,$d,$xs,*⟩<;>(refine k ?_;clear k P)))
local macro_rules | `(tactic| obtain ⟨$a,$b,$c,$d⟩ := $h)=>`(tactic| (refine hold λP k=>?_;rcases $h:term with ⟨$a,$b,$c,$d⟩<;>(refine k ?_;clear k P)))
local macro_rules | `(tactic| rcases $h:term with ⟨$a,$b,$c,$xs,*⟩ | $q)=>`(tactic| (refine hold λP k=>?_;obtain ⟨$a,$b,$c,$xs,*⟩ | $q := $h<;>(refine k ?_;clear k P)))
local macro_rules | `(tactic| omega) => `(tactic| lia)
open PySem.W (Frag)
namespace L2
open PySem PySem.Spec PyProof.Rows
noncomputable abbrev Key:=Sum Int Str
noncomputable def pN:Key->Ç->Bool
 | .inl k,v=>Value.isInt k v
 | .inr x,v=>Value.isStrOf x v
noncomputable def Z5 (w:Ĕ):Key->Int
 | .inl k=>hashInt k
 | .inr x=>hashStr w x
def kc:∀{k:Key} {v:Ç},pN k v=true->(∃i t,k=ŋ i/\v=acD i t)\/(∃x t,k=Sum.inr x/\v=Value.str x t)
 | .inl i,v,h=>by
  obtain⟨t,e⟩:=Value.isInt_shape (k:=i) (v:=v) h;exact .inl ⟨i,t,rfl,e⟩
 | .inr x,v,h=>by
  obtain⟨t,e⟩:=Value.isStrOf_shape (x:=x) (v:=v) h;exact .inr ⟨x,t,rfl,e⟩
def Rz (i:Int) (t:Tok):pN (.inl i) (.int i t)=true:=by simp[pN,Value.isInt]
def RA (x:Str) (t:Tok):pN (.inr x) (.str x t)=true:=by simp[pN,Value.isStrOf]
def WQ (a b:Int):decide ((ŋ a:Key)=ŋ b)=(a==b):=by
 by_cases e:a=b
 ·subst e;simp
 ·have h:¬ (ŋ a:Key)=ŋ b:=λq=>e (Sum.inl.inj q)
  rw[æ h];exact(beq_eq_false_iff_ne.mpr e).symm
def WR (a b:Str):decide ((Sum.inr a:Key)=Sum.inr b)=decide (a=b):=by
 by_cases e:a=b
 ·subst e;simp
 ·have h:¬ (Sum.inr a:Key)=Sum.inr b:=λq=>e (Sum.inr.inj q)
  rw[æ h,æ e]
def WS (a:Int) (b:Str):decide ((ŋ a:Key)=Sum.inr b)=false:=æ (λq=>nomatch q)
def WT (a:Str) (b:Int):decide ((Sum.inr a:Key)=ŋ b)=false:=æ (λq=>nomatch q)
def dU (prog:ó) (w:Ĕ):PySem.KeyKind prog w Key where
 is:=pN
 hash:=Z5 w
 inj:=λv a b X Y=>by
  rcases kc X with ⟨i,t,rfl,rfl⟩ | ⟨x,t,rfl,rfl⟩
  ·rcases kc Y with ⟨j,u,rfl,e⟩ | ⟨y,u,rfl,e⟩
   ·injection e with e1 _;rw[e1]
   ·exact nomatch e
  ·rcases kc Y with ⟨j,u,rfl,e⟩ | ⟨y,u,rfl,e⟩
   ·exact nomatch e
   ·injection e with e1 _;rw[e1]
 byValue:=λk v h=>by
  rcases kc h with ⟨i,t,rfl,rfl⟩ | ⟨x,t,rfl,rfl⟩<;>rfl
 pyHash:=λZ h=>by
  rcases kc Z with ⟨i,t,rfl,rfl⟩ | ⟨x,t,rfl,rfl⟩
  ·exact wpAny_pyHash_int h
  ·exact wpAny_pyHash_str h
 eqBool:=λW Z h=>by
  rcases kc W with ⟨i,t,rfl,rfl⟩ | ⟨x,t,rfl,rfl⟩
  ·rcases kc Z with ⟨j,u,rfl,rfl⟩ | ⟨y,u,rfl,rfl⟩
   ·rw[WQ] at h;exact wpAny_eqBool_int h
   ·rw[WS] at h;exact SeqAt.EqAt.int_str i t y u _ _ _ _ h
  ·rcases kc Z with ⟨j,u,rfl,rfl⟩ | ⟨y,u,rfl,rfl⟩
   ·rw[WT] at h;exact SeqAt.EqAt.str_int x t j u _ _ _ _ h
   ·rw[WR] at h;exact wpAny_eqBool_str h
 «strs»:=λk x t v h=>by
  rcases kc h with ⟨i,u,rfl,e⟩ | ⟨y,u,rfl,e⟩
  ·exact nomatch e
  ·injection e with e1 _
   subst e1
   cases v<;>rfl
def HJ (prog:ó) (w:Ĕ) (i:Int) (t:Tok):(dU prog w).is (.inl i) (.int i t)=true:=Rz i t
def P0 (prog:ó) (w:Ĕ) (x:Str) (t:Tok):(dU prog w).is (.inr x) (.str x t)=true:=RA x t
set_option genInjectivity true in
inductive V where
 |ax|bl (b:Bool)|int (i:Int)|str (x:Str)|iW (b:Array UInt8)|tw (b:UInt64)|ref (a:ä)|ty (n:String)
 deriving DecidableEq
def RelV:V->Ç->Prop
 | .ax,u=>u=Value.none
 | .bl b,u=>u=Value.bool b
 | .int i,u=>∃t,u=acD i t
 | .str x,u=>∃t,u=Value.str x t
 | .iW b,u=>∃t,u=Value.bytes b t
 | .tw b,u=>∃t,u=Value.float b t
 | .ref a,u=>u=Ł a
 | .ty n,u=>u=Ŗ n
abbrev Vals:List V->List Ç->Prop:=Paired RelV
theorem Vals.length (r:Vals xs us):xs.length=us.length:=Paired.length r
theorem Vals.get:∀{xs:List V} {us:List Ç} {i:Nat} {x:V},Vals xs us->xs[i]?=some x->∃u,us[i]?=some u/\RelV x u
 |_,_,_,_,.nil,e=>by simp at e
 |_,_,0,_,.cons r _,e=>by simp at e;subst e;exact⟨_,rfl,r⟩
 |_,_,i+1,x,.cons _ t,e=>by
  obtain⟨u,Z,Y⟩:=Vals.get (i:=i) (x:=x) t (by simpa using e);exact⟨u,by simpa using Z,Y⟩
theorem Vals.set (r:RelV x u):∀{xs:List V} {us:List Ç} (i:Nat),Vals xs us->Vals (xs.set i x) (us.set i u)
 |_,_,_,.nil=>.nil
 |_,_,0,.cons _ t=>.cons r t
 |_,_,i+1,.cons q t=>.cons q (Vals.set r i t)
theorem Vals.append:∀{xs ys:List V} {us ws:List Ç},Vals xs us->Vals ys ws->Vals (xs++ys) (us++ws)
 |_,_,_,_,.nil,s=>s
 |_,_,_,_,.cons r t,s=>.cons r (Vals.append t s)
theorem Vals.take:∀{xs:List V} {us:List Ç} (n:Nat),Vals xs us->Vals (xs.take n) (us.take n)
 |_,_,0,_=>.nil
 |_,_,_ + 1,.nil=>.nil
 |_,_,n+1,.cons r t=>.cons r (Vals.take n t)
theorem Vals.drop:∀{xs:List V} {us:List Ç} (n:Nat),Vals xs us->Vals (xs.drop n) (us.drop n)
 |_,_,0,r=>r
 |_,_,_ + 1,.nil=>.nil
 |_,_,n+1,.cons _ t=>Vals.drop n t
def hV:Option V->Option Ç->Prop
 |some v,some u=>RelV v u
 |none,none=>True
 |_,_=>False
def KV {κ:Type}:List (κ×V)->List (κ×Ç)->Prop:=Paired λ(p:κ×V) (q:κ×Ç)=>p.1=q.1/\RelV p.2 q.2
noncomputable def kV:Key->V
 | .inl i=>.int i
 | .inr x=>.str x
inductive HO where
 |lst (xs:List V)
 |tup (xs:List V)
 |dK (aj:List (Key×V))|dT (aj:List (List Key×V))
 |set (S:Int->Bool) (n:Nat)
 |ins (C dx:ä) (fs:List (Str×V))
 |own (x:ä)
 |xd (fs:List (Str×V))
 |met (f x:ä)
 |cu (lo hi:Int)
 |bS (o:Obj) (u:HO)
 |lZ (ps:Array Ç)
 |ext (φ:œ->Prop)
noncomputable abbrev Hp:=ä->Option HO
noncomputable def upd (H:Hp) (a:ä) (o:HO):Hp:=λb=>if b=a then some o else H b
def cW:upd H a o a=some o:=by unfold upd;rw[Þ rfl]
def bu (h:b≠a):upd H a o b=H b:=by unfold upd;rw[å h]
def YD {H:Hp} {a b:ä} {o u:HO} (h:H a=some o) (h':H b=some u) (d:o≠u):a≠b:=by
 intro e;subst e;rw[h] at h';exact d (adw h')
def eQ {H:Hp} {a b:ä} {o:HO} (h:H a=some o) (h':H b=none):a≠b:=by
 intro e;subst e;rw[h] at h';cases h'
section
variable (P:ó) (w:Ĕ)
def cR (H:Hp) (h:œ) (a:ä):HO->Prop
 | .lst Z=>Z.length<=Ø/\∃(its:List Ç) (n:Nat),Vals Z its/\h.get? a=some { cls:=.type "list",data:=.seq its.toArray n }
 | .tup Z=>Z.length<=Ø/\∃its:List Ç,Vals Z its/\IsTup h a its.toArray
 | .dK X=>X.length<=Ø/\(a==Ŧ)=false/\∃T,KV X T/\h.DictOf (dU P w) a T
 | .dT X=>X.length<=Ø/\(a==Ŧ)=false/\∃Z:List (List Key×ä×Ç),
   Paired (λ(p:List Key×V) (q:List Key×ä×Ç)=>p.1=q.1/\H q.2.1=some (.tup (p.1.map kV))/\RelV p.2 q.2.2) X Z /\
   ∃o R N,h.get? a=some o/\o.ExactDict/\o.data=.dict R N/\R.toList=Z.map (entryOfKey (tupleKind (dU P w)))/\(Z.map (·.1)).Nodup
 | .set S n=>h.SetOf (ů P w) a S n
 | .ins C W fs=>H W=some (.own a)/\fs.length<=1000/\W≠a/\h.get? a=some (Ũ C W) /\
   ∃Y,h.Ns1 W Y/\(∀f,hV (fs.lookup f) (Y f))/\PySem.Within Y (fs.map (·.1))
 | .own _=>∃o,h.get? a=some o
 | .xd fs=>∃Y,h.Ns1 a Y/\∀f,hV (fs.lookup f) (Y f)
 | .cu lo hi=>∃t u v,h.get? a=some { cls:=.type "range",data:=.fields #[.int lo t,.int hi u,.int 1 v] }
 | .bS o u=>h.get? a=some o/\cR H h a u
 | .lZ M=>h.get? a=some { cls:=.none,data:=.fields M }
 | .met f x=>h.get? a=some (adg (.ref f) (.ref x))
 | .ext U=>U h/\(∃o,h.get? a=some o)/\∀Q O:œ,U Q->(∀o,Q.get? a=some o->O.get? a=some o)->U O
def bT (H:Hp) (h:œ):Prop:=∀a o,H a=some o->cR P w H h a o
end
section
variable {P:ó} {w:Ĕ} {H H':Hp} {h h':œ} {a:ä} {o:HO}
theorem cR.lt (x:cR P w H h a o):a<h.objs.size:=by
 cases o with
 |lst Z=>obtain⟨_,_,_,_,e⟩:=x;exact Ó e
 |tup Z=>obtain⟨_,_,_,p⟩:=x;exact p.lt
 |dK Y=>obtain⟨_,_,_,_,o,_,_,e,_⟩:=x;exact Ó e
 |dT Y=>obtain⟨_,_,_,_,o,_,_,e,_⟩:=x;exact Ó e
 |set S n=>obtain⟨o,_,_,_,e,_⟩:=x;exact Ó e
 |ins C X fs=>obtain⟨_,_,_,e,_⟩:=x;exact Ó e
 |own y=>obtain⟨_,e⟩:=x;exact Ó e
 |xd fs=>obtain⟨_,⟨_,_,_,e,_⟩,_⟩:=x;exact Ó e
 |cu lo hi=>obtain⟨_,_,_,e⟩:=x;exact Ó e
 |bS W u=>obtain⟨e,_⟩:=x;exact Ó e
 |lZ V=>exact Ó (show h.get? a=some _ from x)
 |met f y=>exact Ó (show h.get? a=some _ from x)
 |ext U=>obtain⟨_,⟨_,e⟩,_⟩:=x;exact Ó e
theorem Paired.En {α β:Type} {F G:α->β->Prop}:∀{l₁:List α} {l₂:List β},Paired F l₁ l₂->(∀a b,F a b->G a b)->Paired G l₁ l₂
 |_,_,.nil,_=>.nil
 |_,_,.cons r t,f=>.cons (f _ _ r) (Paired.En t f)
def cR.jU (x:cR P w H h a o) (k:∀b u,(b=a\/H b=some (.own a))->h.get? b=some u->h'.get? b=some u)
  (ho:∀b,H b=some (.own a)->H' b=some (.own a)) (ht:∀b xs,H b=some (.tup xs)->H' b=some (.tup xs)):cR P w H' h' a o:=by
 induction o with
 |lst xs=>obtain⟨z,its,n,r,e⟩:=x;exact⟨z,its,n,r,k _ _ (.inl rfl) e⟩
 |tup xs=>obtain⟨z,its,r,Z,e,c⟩:=x;exact⟨z,its,r,Z,k _ _ (.inl rfl) e,c⟩
 |dK T=>obtain⟨z,y,R,r,Z,Y,X,e,c⟩:=x;exact⟨z,y,R,r,Z,Y,X,k _ _ (.inl rfl) e,c⟩
 |dT T =>
  obtain⟨z,y,xs,r,Z,Y,X,e,c⟩:=x;exact⟨z,y,xs,Paired.En r λp q z=>⟨z.1,ht _ _ z.2.1,z.2.2⟩,Z,Y,X,k _ _ (.inl rfl) e,c⟩
 |set S n=>obtain⟨Z,Y,X,t,e,c⟩:=x;exact⟨Z,Y,X,t,k _ _ (.inl rfl) e,c⟩
 |ins C Q fs =>
  obtain⟨d,z,ne,e,W,⟨V,Y,X,e2,c⟩,r⟩:=x;exact⟨ho _ d,z,ne,k _ _ (.inl rfl) e,W,⟨V,Y,X,k _ _ (.inr d) e2,c⟩,r⟩
 |own y=>obtain⟨Z,e⟩:=x;exact⟨Z,k _ _ (.inl rfl) e⟩
 |xd fs=>obtain⟨W,⟨V,Y,X,e,c⟩,r⟩:=x;exact⟨W,⟨V,Y,X,k _ _ (.inl rfl) e,c⟩,r⟩
 |cu lo hi=>obtain⟨t,u,v,e⟩:=x;exact⟨t,u,v,k _ _ (.inl rfl) e⟩
 |bS Z u ih=>obtain⟨e,q⟩:=x;exact⟨k _ _ (.inl rfl) e,ih q⟩
 |lZ U =>
  have e:h.get? a=some { cls:=.none,data:=.fields U }:=x;show h'.get? a=some { cls:=.none,data:=.fields U };exact k a _ (.inl rfl) e
 |met f y =>
  have e:h.get? a=some (adg (.ref f) (.ref y)):=x;show h'.get? a=some (adg (.ref f) (.ref y));exact k a _ (.inl rfl) e
 |ext O=>obtain⟨p,⟨o,e⟩,st⟩:=x;exact⟨st _ _ p λo q=>k _ _ (.inl rfl) q,⟨o,k _ _ (.inl rfl) e⟩,st⟩
theorem bT.lt (x:bT P w H h) (e:H a=some o):a<h.objs.size:=(x a o e).lt
def bT.fresh (x:bT P w H h) (e:h.objs.size<=a):H a=none:=by
 cases q:H a with
 |none=>rfl
 |some u=>exact absurd (Ì (x.lt q) e) (ú _)
def bT.kept (x:bT P w H h) (k:∀b u,h.get? b=some u->h'.get? b=some u):bT P w H h':=λa o e =>
 (x a o e).jU (λb u _ q=>k b u q) (λ_ q=>q) λ_ _ q=>q
def bT.laid (x:bT P w H h) (k:∀b u,h.get? b=some u->h'.get? b=some u) (hp:h.objs.size<=a) (new:cR P w (upd H a o) h' a o):bT P w (upd H a o) h':=λb u e=>by
 have Z:=x.fresh hp;by_cases Y:b=a
 ·subst Y;rw[cW] at e;cases e;exact new
 ·rw[bu Y] at e
  exact(x b u e).jU (λc v _ q=>k c v q) (λc q=>by rw[bu (eQ q Z)];exact q) λc X q=>by rw[bu (eQ q Z)];exact q
end
def Rd (H:Hp) (a:ä) (u:HO):Prop:=H a=some u\/∃o,H a=some (.bS o u)
def Rd.ok (r:Rd H a u) (x:bT P w H h):cR P w H h a u:=by
 rcases r with r | ⟨o,r⟩
 ·exact x a u r
 ·obtain⟨_,q⟩:=x a _ r
  exact q
def wj:Option HO->Prop
 |some (.lst _)=>True
 |some (.dK _)=>True
 |some (.dT _)=>True
 |some (.set _ _)=>True
 |some (.ins _ _ _)=>True
 |some (.ext _)=>True
 |_=>False
section
variable {P:ó} {w:Ĕ} {H:Hp} {h h':œ} {x e:ä} {o':HO}
def bT.write (ok:bT P w H h) (mu:wj (H x)) (he:e=x\/H e=some (.own x)) (k:∀b u,b≠e->h.get? b=some u->h'.get? b=some u) (tB:∃u,h'.get? e=some u)
  (new:cR P w (upd H x o') h' x o'):bT P w (upd H x o') h':=λb u q=>by
 have W:∀c y,H c=some (.own y)->c≠x:=λc y r z=>by subst z;rw[r] at mu;exact mu
 have U:∀c Z,H c=some (.tup Z)->c≠x:=λc Z r z=>by subst z;rw[r] at mu;exact mu
 by_cases Y:b=x
 ·subst Y;rw[cW] at q;cases q;exact new
 ·rw[bu Y] at q
  by_cases X:b=e
  ·have V:H b=some (.own x):=by
    rcases he with z|z
    ·exact absurd (X.trans z) Y
    ·rw[X];exact z
   rw[q] at V;cases V;obtain⟨v,T⟩:=tB;exact⟨v,by rw[X];exact T⟩
  ·refine(ok b u q).jU (λc v hc r=>k c v ?_ r) (λc r=>by rw[bu (W c b r)];exact r) λc Z r=>by rw[bu (U c Z r)];exact r
   rcases hc with rfl|hc
   ·exact X
   ·rintro rfl
    rcases he with z|z
    ·exact W c b hc z
    ·rw[hc] at z;cases z;exact Y rfl
end
structure Un (fs ex:List ä) (H H':Hp) (h h':œ):Prop where
 keep:∀b o,h.get? b=some o->H b=none->b∉fs->b∉ex->h'.get? b=some o
 slot:∀b o,h.get? b=some o->H b=none->b∈fs->b∉ex->∃sl,h'.get? b=some { o with slots:=sl }
 free:∀b o,h.get? b=some o->H b=none->b∉ex->H' b=none
 there:∀b o,h.get? b=some o->b∉ex->∃o',h'.get? b=some o'
 jr:∀b xs,H b=some (.tup xs)->H' b=some (.tup xs)
 iQ:∀b o u,H b=some (.bS o u)->H' b=some (.bS o u)
 jV:∀b ps,H b=some (.lZ ps)->∃more,H' b=some (.lZ (ps++more))
section
variable {fs fs' ex ex':List ä} {H H1 H2:Hp} {h h1 h2 h':œ} {a x e:ä} {o:HO}
def Un.any (u:Un fs ex H H1 h h1) (q:h.get? b=some ob) (n:H b=none) (hx:b∉ex):∃sl,h1.get? b=some { ob with slots:=sl }:=by
 by_cases Z:b∈fs
 ·exact u.slot b ob q n Z hx
 ·exact⟨ob.slots,u.keep b ob q n Z hx⟩
def Un.kept (k:∀b u,h.get? b=some u->h'.get? b=some u):Un fs ex H H h h' :=
 ⟨λb Z q _ _ _=>k b Z q,λb Z q _ _ _=>⟨Z.slots,k b Z q⟩,λ_ _ _ n _=>n,λb Z q _=>⟨Z,k b Z q⟩,λ_ _ q=>q,λ_ _ _ q=>q,λ_ Y q=>⟨#[],by rw[q];simp⟩⟩
def Un.refl:Un fs ex H H h h:=Un.kept λ_ _ q=>q
def Un.laid (k:∀b u,h.get? b=some u->h'.get? b=some u) (hp:h.objs.size<=a) (hn:H a=none):Un fs ex H (upd H a o) h h' where
 keep:=λb u q _ _ _=>k b u q
 slot:=λb u q _ _ _=>⟨u.slots,k b u q⟩
 free:=λb u q n _=>by rw[bu (à (Ì (Ó q) hp))];exact n
 there:=λb u q _=>⟨u,k b u q⟩
 jr:=λb Z q=>by rw[bu (eQ q hn)];exact q
 iQ:=λb u Z q=>by rw[bu (eQ q hn)];exact q
 jV:=λb Y q=>⟨#[],by rw[bu (eQ q hn),q];simp⟩
def Un.write (mu:wj (H x)) (he:e=x\/H e=some (.own x)) (k:∀b u,b≠e->h.get? b=some u->h'.get? b=some u) (tB:∃u,h'.get? e=some u):Un fs ex H (upd H x o) h h':=by
 have Y:∀b,H b=none->b≠x:=λb n z=>by subst z;rw[n] at mu;exact mu
 have X:∀b,H b=none->b≠e:=λb n z=>by
  subst z
  rcases he with r|r
  ·exact Y b n r
  ·rw[n] at r;cases r
 have Z:∀b u,H b=some u->¬ wj (some u)->b≠x:=λb u q nm z=>by subst z;rw[q] at mu;exact nm mu
 refine⟨λb u q n _ _=>k b u (X b n) q,λb u q n _ _=>⟨u.slots,k b u (X b n) q⟩,λb u q n _=>by rw[bu (Y b n)];exact n,λb u q _=>?_,
  λb V q=>by rw[bu (Z b _ q λz=>z)];exact q,λb u V q=>by rw[bu (Z b _ q λz=>z)];exact q,λb U q=>⟨#[],by rw[bu (Z b _ q λz=>z),q];simp⟩⟩
 by_cases W:b=e
 ·subst W;exact tB
 ·exact⟨u,k b u W q⟩
end
noncomputable def wk (h:œ) (H:Hp):List ä:=(Ù h.objs.size).filter λa=>(H a).isSome
def mU (h:œ) (H:Hp):œ:=PySem.W.hideAll h (wk h H)
def RB (h:œ) (H:Hp):(mU h H).objs.size=h.objs.size:=PySem.W.hideAll_size _ _
def S8 (e:h.get? b=some o) (n:H b=none):(mU h H).get? b=some o :=
 PySem.W.hideAll_get _ e λZ=>by
  have q:(H b).isSome=true:=(ÿ.mp Z).2;rw[n] at q;simp at q
def UX (e:(mU h H).get? b=some o):h.get? b=some o/\H b=none:=by
 have Z:h.get? b=some o:=PySem.W.of_hideAll (wk h H) e;refine⟨Z,?_⟩
 cases q:H b with
 |none=>rfl
 |some x =>
  have Y:b∈wk h H:=ÿ.mpr ⟨ë.mpr (Ó Z),by simp[q]⟩;have z:(mU h H).get? b=none:=PySem.W.hideAll_none (wk h H) Y;rw[z] at e;cases e
noncomputable def UY (g h:œ) (L:ä):List (ä×Obj):=(Ù h.objs.size).filterMap λa=>if a=L\/(g.get? a).isSome=true then none else (h.get? a).map λo=>(a,o)
def rest (g h:œ) (L d:ä):List (ä×Obj):=(UY g h L).filter λp=>decide (p.1≠d)
structure Mod (K:ĥ) (mg:Str->Option Ç) (base:œ):Prop where
 tD:K.In base
 glob:base.Ns â mg
 blt:∃mb,base.Ns builtinsNs mb/\∀x:Str,x≠"__name__"->mb x=ć x
 nolimit:base.NoLimit
structure Cx where
 prog:ó
 w:Ĕ
 K:ĥ
 mg:Str->Option Ç
 base:œ
 A:Ĉ
 N:List Str
 cY:Å
 pW:Hp
 env:Env
 outer:List Env
 stack:List Env
 ex:List ä
 fn:Str->Bool
 calm:Bool
 pn:List (ä×Obj)
 xe:Ç->Å->Prop
noncomputable def fH (l:List Env):List ä:=l.filterMap (·.frame)
abbrev Cx.fs (X:Cx):List ä:=fH X.outer
def qk (sc:acf) (x:Str):Prop:=sc.names.lookup x=some .local\/sc.names.lookup x=some .cell\/sc.names.lookup x=some .free
def Loc (sc:acf) (x:Str):Prop:=sc.names.lookup x=some .local\/sc.names.lookup x=some .cell
def Look (env:Env) (h:œ) (m:Str->Option Ç) (x:Str) (u:Ç):Prop :=
 (env.kindOf x=some .local/\m x=some u)\/((env.kindOf x=some .cell\/env.kindOf x=some .free)/\∃c,env.cells.lookup x=some c/\h.IsCell c (some u))
structure Cx.Ok (X:Cx):Prop where
 mod:Mod X.K X.mg X.base
 kind:X.env.scope.kind=.function
 glob:X.env.globals=â
 blt:X.env.builtins=builtinsNs
 above:X.cY.heap.objs.size<=X.env.locals
 inj:∀x y c,X.env.cells.lookup x=some c->X.env.cells.lookup y=some c->x=y
 has:∀x,(X.env.kindOf x=some .cell\/X.env.kindOf x=some .free)->∃c,X.env.cells.lookup x=some c
 ql:∀x c,X.fn x=true->X.env.cells.lookup x=some c->X.cY.heap.objs.size<=c
 hd:X.calm=true->X.A.handled=none
 frames:X.A.frames=some X.stack
 qm:X.stack=X.outer\/(X.stack=X.env::X.outer/\X.env.frame=some X.env.locals)
 zX:∀b∈X.ex,b≠X.env.locals/\∀x c,X.env.cells.lookup x=some c->c≠b
 bs:∀b o,X.base.get? b=some o->X.cY.heap.get? b=some o/\X.pW b=none
 iA:X.base.objs.size<=X.cY.heap.objs.size
 lO:∀b o,X.base.get? b=some o->b∉X.ex
 sL:∀b∈X.ex,b∉X.fs
 iR:X.cY.heap.FunFrames X.base X.outer
 ni:∀b∈X.fs,X.pW b=none
structure Inv (X:Cx) (π:List (ä×Obj)) (σ:List (Option V)) (H:Hp) (s:Å):Prop where
 ok:X.Ok
 os:s.os=X.cY.os
 bare:adl s.gens
 base:Un X.fs X.ex X.pW H X.cY.heap s.heap
 loc:∃m,s.heap.Ns X.env.locals m/\∀(i:Nat) (x:Str) (v:V),X.N[i]?=some x->σ[i]?=some (some v)->qk X.env.scope x->∃u,RelV v u/\Look X.env s.heap m x u
 cell:∀x c,X.env.cells.lookup x=some c->∃v,s.heap.IsCell c v
 free:H X.env.locals=none
 iL:∀x c,X.env.cells.lookup x=some c->H c=none
 pin:∀p∈X.pn++π,s.heap.get? p.1=some p.2/\H p.1=none/\p.1≠X.env.locals/\p.1∉X.fs/\∀v,p.2.data≠.cell v
 aE:bT X.prog X.w H s.heap
 len:σ.length=X.N.length
section
variable {X:Cx} {π:List (ä×Obj)} {σ:List (Option V)} {H H':Hp} {s:Å} {h':œ}
def Cx.Ok.Z7 (ok:X.Ok) (e:X.base.get? b=some o):b∉X.fs:=λZ=>by
 have:=(ok.iR.mem Z).1;rw[e] at this;cases this
theorem Inv.bs (I:Inv X π σ H s):∀b o,X.base.get? b=some o->s.heap.get? b=some o/\H b=none:=λb o e =>
 ⟨I.base.keep b o (I.ok.bs b o e).1 (I.ok.bs b o e).2 (I.ok.Z7 e) (I.ok.lO b o e),I.base.free b o (I.ok.bs b o e).1 (I.ok.bs b o e).2 (I.ok.lO b o e)⟩
def Inv.bk (I:Inv X π σ H s):∀b o,X.base.get? b=some o->s.heap.get? b=some o:=λb o e=>(I.bs b o e).1
theorem Inv.mod (I:Inv X π σ H s):Mod X.K X.mg X.base:=I.ok.mod
def Inv.iX (I:Inv X π σ H s):X.K.In s.heap:=I.ok.mod.tD.keeps I.bk
theorem Inv.lt (I:Inv X π σ H s):X.env.locals<s.heap.objs.size:=let ⟨_,Z,_⟩:=I.loc;Z.lt
def Inv.sz (I:Inv X π σ H s):X.cY.heap.objs.size<=s.heap.objs.size:=Ú I.ok.above (Nat.le_of_lt I.lt)
def Inv.vK (I:Inv X π σ H s) {a:ä} (h:s.heap.objs.size<=a):a∉X.fs:=λZ=>by
 obtain⟨_,o,Y,_⟩:=I.ok.iR.mem Z;exact absurd (Ì (Ó Y) (Ú I.sz h)) (ú _)
def Inv.qo (I:Inv X π σ H s):∀x c,X.env.cells.lookup x=some c->c≠X.env.locals:=λx c e z=>by
 obtain⟨v,o,Z,Y⟩:=I.cell x c e;obtain⟨m,⟨U,T,S,W,V,_⟩,_⟩:=I.loc;rw[z,W] at Z;cases Z;rw[V] at Y;cases Y
theorem Inv.iR (I:Inv X π σ H s):s.heap.FunFrames X.base X.outer:=by
 have all:∀(l:List Env),(∀b∈fH l,b∈X.fs)->X.cY.heap.FunFrames X.base l->s.heap.FunFrames X.base l:=by
  intro l
  induction l with
  |nil=>intro _ _;trivial
  |cons env r ih =>
   intro hs V;obtain⟨U,⟨L,o,Z,T,S,R⟩,Q⟩:=V;have Y:L∈X.fs:=hs L (by unfold fH;rw[acU,Z];exact Ñ);obtain⟨P,e⟩:=I.base.slot L o S (I.ok.ni L Y) Y λz=>I.ok.sL L z Y;exact⟨U,⟨L,_,Z,T,e,R⟩,ih (λb W=>hs b (by unfold fH;rw[acU,Z];exact Ò _ W)) Q⟩
 exact all X.outer (λ_ W=>W) I.ok.iR
theorem Inv.stack (I:Inv X π σ H s):s.heap.FunFrames X.base X.stack:=by
 rcases I.ok.qm with e | ⟨e,Z⟩
 ·rw[e];exact I.iR
 ·rw[e]
  obtain⟨m,Y,_⟩:=I.loc;refine .cons (by rw[I.ok.kind];decide) Z Y ?_ I.iR;exact Heap.get?_none_of_le (Ú I.ok.iA I.ok.above)
def Inv.mF (I:Inv X π σ H s):∀b∈fH X.stack,b∈X.env.locals::X.fs:=λb Z=>by
 rcases I.ok.qm with e | ⟨e,Y⟩
 ·rw[e] at Z;exact Ò _ Z
 ·rw[e] at Z
  unfold fH at Z;rw[acU,Y] at Z;exact Z
def Inv.BU (I:Inv X π σ H s):∀b∈fH X.stack,H b=none:=λb hb=>by
 rcases É.mp (I.mF b hb) with e|hb
 ·rw[e];exact I.free
 ·obtain⟨_,o,Z,_⟩:=I.ok.iR.mem hb
  exact I.base.free b o Z (I.ok.ni b hb) λz=>I.ok.sL b z hb
def Inv.step {g':Array GenState} {t':Nat} {d':Drawn} {ch:List ä} (I:Inv X π σ H s)
  (l0:∀b∈ch,(b∈X.ex\/X.cY.heap.objs.size<=b)/\b≠X.env.locals/\(∀x c,X.env.cells.lookup x=some c->c≠b)/\∀p∈X.pn++π,p.1≠b)
  (keep:∀b o,b≠X.env.locals->b∉X.fs->b∉ch->s.heap.get? b=some o->H b=none->h'.get? b=some o)
  (slot:∀b o,b≠X.env.locals->b∈X.fs->b∉ch->s.heap.get? b=some o->H b=none->∃sl,h'.get? b=some { o with slots:=sl }) (free:∀b o,b∉ch->s.heap.get? b=some o->H b=none->H' b=none)
  (there:∀b o,b∉ch->s.heap.get? b=some o->∃o',h'.get? b=some o')
  (jr:∀b xs,H b=some (.tup xs)->H' b=some (.tup xs)) (iQ:∀b o u,H b=some (.bS o u)->H' b=some (.bS o u)) (jV:∀b ps,H b=some (.lZ ps)->∃more,H' b=some (.lZ (ps++more)))
  (ns:∀m,s.heap.Ns X.env.locals m->h'.Ns X.env.locals m) (aE:bT X.prog X.w H' h') (hg:adl g') :
  Inv X π σ H' { s with heap:=h',gens:=g',drawn:=d',toks:=t' }:=by
 have R:∀b o,X.cY.heap.get? b=some o->b≠X.env.locals:=λb o e=>à (Ì (Ó e) I.ok.above);have U:∀b o,X.cY.heap.get? b=some o->b∉X.ex->b∉ch:=λb o e Z Y=>by
  rcases(l0 b Y).1 with z|z
  ·exact Z z
  ·exact absurd (Ì (Ó e) z) (ú _)
 have cellK:∀x c,X.env.cells.lookup x=some c->∀v,s.heap.IsCell c v->h'.IsCell c v:=λx c e v ⟨o,W,T⟩=>by
  have V:c∉ch:=λz=>(l0 c z).2.2.1 x c e rfl;by_cases Q:c∈X.fs
  ·obtain⟨sl,q⟩:=slot c o (I.qo x c e) Q V W (I.iL x c e)
   exact⟨_,q,T⟩
  ·exact⟨o,keep c o (I.qo x c e) Q V W (I.iL x c e),T⟩
 refine⟨I.ok,I.os,hg,⟨λb o e n Y Z=>?_,λb o e n Y Z=>?_,λb o e n Z=>?_,λb o e Z=>?_,λb xs e=>jr b xs (I.base.jr b xs e),λb o xs e=>iQ b o xs (I.base.iQ b o xs e),λb ps e=>?_⟩,?_,λx c e=>?_,?_,λx c e=>?_,λp P=>?_,aE,I.len⟩
 ·exact keep b o (R b o e) Y (U b o e Z) (I.base.keep b o e n Y Z) (I.base.free b o e n Z)
 ·obtain⟨sl,e1⟩:=I.base.slot b o e n Y Z
  obtain⟨S,e2⟩:=slot b _ (R b o e) Y (U b o e Z) e1 (I.base.free b o e n Z);exact⟨S,e2⟩
 ·obtain⟨o',e1⟩:=I.base.there b o e Z
  exact free b o' (U b o e Z) e1 (I.base.free b o e n Z)
 ·obtain⟨o',e1⟩:=I.base.there b o e Z
  exact there b o' (U b o e Z) e1
 ·obtain⟨N,e1⟩:=I.base.jV b ps e
  obtain⟨M,e2⟩:=jV b _ e1;exact⟨N++M,by rw[e2,Array.append_assoc]⟩
 ·obtain⟨m,L,K⟩:=I.loc
  refine⟨m,ns m L,λi x v e1 e2 J=>?_⟩;obtain⟨u,r,l⟩:=K i x v e1 e2 J;refine⟨u,r,?_⟩
  rcases l with l | ⟨k,c,e,z⟩
  ·exact .inl l
  ·exact .inr ⟨k,c,e,cellK x c e _ z⟩
 ·obtain⟨v,z⟩:=I.cell x c e
  exact⟨v,cellK x c e v z⟩
 ·obtain⟨m,⟨o,_,_,W,_⟩,_⟩:=I.loc
  exact free _ o (λz=>(l0 _ z).2.1 rfl) W I.free
 ·obtain⟨v,o,W,T⟩:=I.cell x c e
  exact free c o (λz=>(l0 c z).2.2.1 x c e rfl) W (I.iL x c e)
 ·obtain⟨e,n,ne,O,d⟩:=I.pin p P
  have V:p.1∉ch:=λz=>(l0 p.1 z).2.2.2 p P rfl;exact⟨keep p.1 p.2 ne O V e n,free p.1 p.2 V e n,ne,O,d⟩
def Inv.un {t':Nat} (I:Inv X π σ H s) (u:Un X.fs [] H H' s.heap h') (aE:bT X.prog X.w H' h'):Inv X π σ H' { s with heap:=h',toks:=t' }:=by
 obtain⟨m,⟨o,Q,P,Y,r⟩,_⟩:=id I.loc;obtain⟨O,V⟩:=u.any Y I.free (by simp)
 exact I.step (g':=s.gens) (d':=s.drawn) (ch:=[]) (λ_ z=>nomatch z) (λb o _ Z _ e n=>u.keep b o e n Z (by simp)) (λb o _ Z _ e n=>u.slot b o e n Z (by simp)) (λb o _ e n=>u.free b o e n (by simp)) (λb o _ e=>u.there b o e (by simp)) u.jr u.iQ u.jV (λN U=>by
  obtain⟨M,T,S,W,R⟩:=U;rw[Y] at W;cases W;exact⟨_,T,S,V,R⟩) aE I.bare
def Inv.call {g':Array GenState} {t':Nat} {d':Drawn} {ch:List ä} (I:Inv X π σ H s) (u:Un (fH X.stack) ch H H' s.heap h') (aE:bT X.prog X.w H' h') (hg:adl g')
  (l0:∀b∈ch,(b∈X.ex\/X.cY.heap.objs.size<=b)/\b≠X.env.locals/\(∀x c,X.env.cells.lookup x=some c->c≠b)/\∀p∈X.pn++π,p.1≠b) :
  Inv X π σ H' { s with heap:=h',gens:=g',drawn:=d',toks:=t' }:=by
 obtain⟨m,⟨o,P,O,W,r⟩,_⟩:=id I.loc;obtain⟨N,Y⟩:=u.any W I.free λz=>(l0 _ z).2.1 rfl;exact I.step (ch:=ch) l0 (λb o Y U Z e n=>u.keep b o e n (λz=>(É.mp (I.mF b z)).elim Y U) Z) (λb o _ _ Z e n=>u.any e n Z) (λb o Z e n=>u.free b o e n Z) (λb o Z e=>u.there b o e Z) u.jr u.iQ u.jV (λM T=>by
  obtain⟨L,S,R,V,Q⟩:=T;rw[W] at V;cases V;exact⟨_,S,R,Y,Q⟩) aE hg
def Inv.turned {t':Nat} {it:ä} (I:Inv X π σ H s) (k:∀b o,b≠it->s.heap.get? b=some o->h'.get? b=some o) (hn:H it=none) (hL:it≠X.env.locals)
  (h1:it∈X.ex\/X.cY.heap.objs.size<=it) (h2:∀x c,X.env.cells.lookup x=some c->c≠it) (h3:∀p∈X.pn++π,p.1≠it):Inv X π σ H { s with heap:=h',toks:=t' }:=by
 have Y:∀b u,H b=some u->b≠it:=λb u e z=>by rw[z,hn] at e;cases e
 refine I.step (g':=s.gens) (d':=s.drawn) (ch:=[it]) (λb W=>?_) (λb o _ _ Z e _=>k b o (λz=>Z (by simp[z])) e) (λb o _ _ Z e _=>⟨o.slots,k b o (λz=>Z (by simp[z])) e⟩) (λ_ _ _ _ n=>n)
  (λb o Z e=>⟨o,k b o (λz=>Z (by simp[z])) e⟩) (λ_ _ e=>e) (λ_ _ _ e=>e) (λb R e=>⟨#[],by rw[e];simp⟩) (λm V=>?_) (λb u e=>?_) I.bare
 ·have e:b=it:=by simpa using W
  subst e;exact⟨h1,hL,h2,h3⟩
 ·obtain⟨o,U,T,S,r⟩:=V
  exact⟨o,U,T,k _ o (ŕ hL) S,r⟩
 ·refine(I.aE b u e).jU (λc v Z q=>k c v ?_ q) (λ_ q=>q) λ_ _ q=>q
  rcases Z with z|z
  ·rw[z];exact Y b u e
  ·exact Y c _ z
def Inv.tok (I:Inv X π σ H s) (t:Nat):Inv X π σ H { s with toks:=t }:=I.un (h':=s.heap) (t':=t) Un.refl I.aE
theorem Inv.kept (I:Inv X π σ H s) (k:∀b u,s.heap.get? b=some u->h'.get? b=some u):Inv X π σ H { s with heap:=h',toks:=t' }:=I.un (Un.kept k) (I.aE.kept k)
theorem Inv.laid {a:ä} {o:HO} {t':Nat} (I:Inv X π σ H s) (k:∀b u,s.heap.get? b=some u->h'.get? b=some u) (hp:s.heap.objs.size<=a) (new:cR X.prog X.w (upd H a o) h' a o) :
  Inv X π σ (upd H a o) { s with heap:=h',toks:=t' }:=I.un (Un.laid k hp (I.aE.fresh hp)) (I.aE.laid k hp new)
theorem Inv.write (I:Inv X π σ H s) (mu:wj (H x)) (he:e=x\/H e=some (.own x)) (k:∀b u,b≠e->s.heap.get? b=some u->h'.get? b=some u) (tB:∃u,h'.get? e=some u)
 (new:cR X.prog X.w (upd H x o) h' x o):Inv X π σ (upd H x o) { s with heap:=h',toks:=t' }:=I.un (Un.write mu he k tB) (I.aE.write mu he k tB new)
def Inv.mz (I:Inv X π σ H s) (h:∀p∈pins',s.heap.get? p.1=some p.2/\H p.1=none/\p.1≠X.env.locals/\p.1∉X.fs/\∀v,p.2.data≠.cell v):Inv X pins' σ H s :=
 ⟨I.ok,I.os,I.bare,I.base,I.loc,I.cell,I.free,I.iL,λp Z=>(ñ.mp Z).elim (λz=>I.pin p (þ _ z)) (h p),I.aE,I.len⟩
def Jk {N:List Str} (hN:N.Nodup) {i j:Nat} {x:Str} (a:N[i]?=some x) (b:N[j]?=some x):i=j:=by
 obtain⟨Z,e1⟩:=Æ.mp a;obtain⟨Y,e2⟩:=Æ.mp b;exact(List.getElem_inj hN).mp (e1.trans e2.symm)
def RC {M:Model} {A:Ĉ} {E:Ç->Å->Prop} {i:Nat} {x:Str} {v:V} {u:Ç} {Q:Unit->Å->Prop} (I:Inv X π σ H s) (hN:X.N.Nodup) (hi:X.N[i]?=some x) (hx:Loc X.env.scope x) (r:RelV v u)
  (h:∀s',Inv X π (σ.set i (some v)) H s'->(∃a,ń a s.heap s'.heap/\(a=X.env.locals\/X.env.cells.lookup x=some a))->Q () s') (hf:X.fn x=true\/X.env.scope.names.lookup x=some .local:=by first|exact .inl rfl|exact .inr rfl|assumption):á M A (storeName X.env x u) Q E s:=by
 obtain⟨m,T,D⟩:=id I.loc;have Z8:(X.env.scope.kind==.class||(X.env.scope.kind==.module&&X.env.locals != X.env.globals))=false:=by rw[I.ok.kind];rfl
 have C:i < σ.length:=by rw[I.len];exact(Æ.mp hi).1
 have qo:=I.qo;have tracked:∀{a:ä} {h':œ},(∃o,s.heap.get? a=some o/\H a=none)->ń a s.heap h'->bT X.prog X.w H h':=λ{a h'} ha hs b ob e=>by
  obtain⟨_,_,B⟩:=ha;refine(I.aE b ob e).jU (λc W hc q=>(hs.2 c ?_).trans q) (λ_ q=>q) λ_ _ q=>q;rintro rfl
  rcases hc with rfl|hc
  ·rw[B] at e;cases e
  ·rw[B] at hc;cases hc
 rcases hx with hk|hk
 ·refine wpAny_storeName_local hk T (λh' zZ hs=>?_) Z8
  obtain⟨oL,_,_,wq,_⟩:=id T;refine h _ ⟨I.ok,I.os,I.bare,⟨λb o e n Z hx=>?_,λb o e n Z hx=>?_,I.base.free,λb o e hx=>?_,I.base.jr,I.base.iQ,I.base.jV⟩,⟨_,zZ,λj y S e1 e2 R=>?_⟩,λy c e=>?_,I.free,I.iL,λp P=>?_,tracked ⟨oL,wq,I.free⟩ hs,by simpa using I.len⟩ ⟨_,hs,.inl rfl⟩
  ·exact(hs.2 b (à (Ì (Ó e) I.ok.above))).trans (I.base.keep b o e n Z hx)
  ·obtain⟨O,e1⟩:=I.base.slot b o e n Z hx
   exact⟨O,(hs.2 b (à (Ì (Ó e) I.ok.above))).trans e1⟩
  ·obtain⟨L,e1⟩:=I.base.there b o e hx
   exact⟨L,(hs.2 b (à (Ì (Ó e) I.ok.above))).trans e1⟩
  ·by_cases Y:j=i
   ·subst Y
    rw[hi] at e1;cases e1;rw[ð C] at e2;cases e2;exact⟨u,r,.inl ⟨hk,by simp⟩⟩
   ·rw[ç (ŕ Y)] at e2
    obtain⟨K,J,q⟩:=D j y S e1 e2 R;refine⟨K,J,?_⟩
    rcases q with ⟨k,e⟩ | ⟨k,c,e,z⟩
    ·refine .inl ⟨k,?_⟩
     have:y≠x:=λe=>Y (Jk hN e1 (e ▸ hi));simp[this,e]
    ·exact .inr ⟨k,c,e,z.sameBut hs (qo y c e)⟩
  ·obtain⟨W,z⟩:=I.cell y c e
   exact⟨W,z.sameBut hs (qo y c e)⟩
  ·obtain⟨e,n,ne,G,d⟩:=I.pin p P
   exact⟨(hs.2 p.1 ne).trans e,n,ne,G,d⟩
 ·have F:X.fn x=true:=by
   rcases hf with z|z
   ·exact z
   ·rw[z] at hk;cases hk
  obtain⟨c,hc⟩:=I.ok.has x (.inl hk);obtain⟨W,z⟩:=I.cell x c hc;refine wpAny_storeName_cell I.ok.kind hk hc z (λh' t hs=>?_);obtain⟨l,g,Z9⟩:=id z
  refine h { s with heap:=h' } ⟨I.ok,I.os,I.bare,⟨λb o e n Z hx=>?_,λb o e n Z hx=>?_,I.base.free,λb o e hx=>?_,I.base.jr,I.base.iQ,I.base.jV⟩,⟨m,T.sameBut hs (ŕ (qo x c hc)),λj y S e1 e2 R=>?_⟩,λy U e=>?_,I.free,I.iL,λp P=>?_,tracked ⟨l,g,I.iL x c hc⟩ hs,by simpa using I.len⟩ ⟨c,hs,.inr hc⟩
  ·exact(hs.2 b (à (Ì (Ó e) (I.ok.ql x c F hc)))).trans (I.base.keep b o e n Z hx)
  ·obtain⟨O,e1⟩:=I.base.slot b o e n Z hx
   exact⟨O,(hs.2 b (à (Ì (Ó e) (I.ok.ql x c F hc)))).trans e1⟩
  ·obtain⟨L,e1⟩:=I.base.there b o e hx
   exact⟨L,(hs.2 b (à (Ì (Ó e) (I.ok.ql x c F hc)))).trans e1⟩
  ·by_cases Y:j=i
   ·subst Y
    rw[hi] at e1;cases e1;rw[ð C] at e2;cases e2;exact⟨u,r,.inr ⟨.inl hk,c,hc,t⟩⟩
   ·rw[ç (ŕ Y)] at e2
    obtain⟨K,J,q⟩:=D j y S e1 e2 R;refine⟨K,J,?_⟩
    rcases q with q | ⟨k,U,e,z'⟩
    ·exact .inl q
    ·refine .inr ⟨k,U,e,z'.sameBut hs ?_⟩
     rintro rfl;exact Y (Jk hN e1 (I.ok.inj _ _ _ e hc ▸ hi))
  ·by_cases f:U=c
   ·subst f;exact⟨_,t⟩
   ·obtain⟨w2,z2⟩:=I.cell y U e
    exact⟨w2,z2.sameBut hs f⟩
  ·obtain⟨e,n,ne,G,d⟩:=I.pin p P
   refine⟨(hs.2 p.1 ?_).trans e,n,ne,G,d⟩;intro q;rw[q,g] at e;have q':l=p.2:=adw e;exact d W (by rw[<- q'];exact Z9)
def o7 (I:Inv X π σ H s) (hN:X.N.Nodup) (hi:X.N[i]?=some x) (hx:Loc X.env.scope x) (r:RelV v u)
 (h:∀s',Inv X π (σ.set i (some v)) H s'->Q () s') (hf:X.fn x=true\/X.env.scope.names.lookup x=some .local:=by first|exact .inl rfl|exact .inr rfl|assumption):á M A (storeName X.env x u) Q E s :=
 RC I hN hi hx r (λs' Z _=>h s' Z) hf
def Inv.Du (I:Inv X π σ H s) (ho:s'.os=s.os) (u:Un (fH X.stack) ch H H' s.heap s'.heap) (aE:bT X.prog X.w H' s'.heap) (hg:adl s'.gens)
 (l0:∀b∈ch,(b∈X.ex\/X.cY.heap.objs.size<=b)/\b≠X.env.locals/\(∀x c,X.env.cells.lookup x=some c->c≠b)/\∀p∈X.pn++π,p.1≠b):Inv X π σ H' s':=by
 obtain⟨h',g',d',t',Z⟩:=s';have e:Z=s.os:=ho;subst e;exact I.call (g':=g') (t':=t') (d':=d') u aE hg l0
end
noncomputable abbrev XK:=Ç->Option ä->Hp->Prop
noncomputable abbrev St:=List (Option V)
noncomputable abbrev VK:=V->Hp->Prop
noncomputable abbrev TE:=St->Hp->VK->Prop
noncomputable abbrev TT:=St->Hp->(Bool->Hp->Prop)->Prop
noncomputable abbrev TA:=St->Hp->(List V->Hp->Prop)->Prop
structure Ends where
 nx:St->Hp->Prop
 rt:VK
 bk:St->Hp->Prop:=λ_ _=>False
 ct:St->Hp->Prop:=λ_ _=>False
noncomputable abbrev TS:=Ends->St->Hp->Prop
def EP (X:Cx) (π:List (ä×Obj)) (σ:St) (Q:VK) (u:Ç) (s':Å):Prop:=∃v Z,Inv X π σ Z s'/\RelV v u/\Q v Z
def TP (X:Cx) (π:List (ä×Obj)) (σ:St) (Q:Bool->Hp->Prop) (b:Bool) (s':Å):Prop:=∃Z,Inv X π σ Z s'/\Q b Z
def AP (X:Cx) (π:List (ä×Obj)) (σ:St) (Q:List V->Hp->Prop) (us:List Ç) (s':Å):Prop:=∃Z Y,Inv X π σ Y s'/\Vals Z us/\Q Z Y
def SP (X:Cx) (π:List (ä×Obj)) (D:Ends) (f:Flow) (s':Å):Prop :=
 match f with
 | .next=>∃ Y Z,Inv X π Y Z s'/\D.nx Y Z
 | .brk=>∃ Y Z,Inv X π Y Z s'/\D.bk Y Z
 | .cont=>∃ Y Z,Inv X π Y Z s'/\D.ct Y Z
 | .ret u=>∃v Y Z,Inv X π Y Z s'/\RelV v u/\D.rt v Z
def PE (X:Cx) (e:ľ) (t:TE):Prop :=
 ∀(Z:List (ä×Obj)) (s:Å) (σ:St) (H:Hp) (Q:VK),Inv X Z σ H s->t σ H Q->á (í X.prog X.w) X.A (ţ e X.env) (EP X Z σ Q) X.xe s
def PT (X:Cx) (e:ľ) (t:TT):Prop :=
 ∀(Z:List (ä×Obj)) (s:Å) (σ:St) (H:Hp) (Q:Bool->Hp->Prop),Inv X Z σ H s->t σ H Q->á (í X.prog X.w) X.A (isTrue e X.env (ţ e X.env)) (TP X Z σ Q) X.xe s
def PW (X:Cx) (e:ľ) (t:TT):Prop :=
 ∀(whole:Sem Ç) (Z:List (ä×Obj)) (s:Å) (σ:St) (H:Hp) (Q:Bool->Hp->Prop),Inv X Z σ H s->t σ H Q->á (í X.prog X.w) X.A (isTrue e X.env whole) (TP X Z σ Q) X.xe s
def PW.pt (h:PW X e t):PT X e t:=h _
def PA (X:Cx) (es:List ľ) (t:TA):Prop :=
 ∀(pos:Pos) (Z:List (ä×Obj)) (s:Å) (σ:St) (H:Hp) (Q:List V->Hp->Prop),Inv X Z σ H s->t σ H Q->á (í X.prog X.w) X.A (spliced (ũ pos (ß es X.env))) (AP X Z σ Q) X.xe s
def PS (X:Cx) (st:ado) (t:TS):Prop :=
 ∀(Z:List (ä×Obj)) (s:Å) (σ:St) (H:Hp) (D:Ends),Inv X Z σ H s->t D σ H->á (í X.prog X.w) X.A (exec st X.env) (SP X Z D) X.xe s
def dj (X:Cx) (st:List ado) (t:TS):Prop :=
 ∀(Z:List (ä×Obj)) (s:Å) (σ:St) (H:Hp) (D:Ends),Inv X Z σ H s->t D σ H->á (í X.prog X.w) X.A (execs st X.env) (SP X Z D) X.xe s
def aJ {α:Type} {t:Sem α} {Q Q':α->Å->Prop} {M:Model} {A:Ĉ} {E:Ç->Å->Prop} {s:Å} (h:á M A t Q E s) (hQ:∀a s,Q a s->Q' a s):á M A t Q' E s:=ķ h hQ λ_ _ x=>x
section
variable {X:Cx}
def aaa (i:Nat):TE:=fun σ H Q=>∃v,σ[i]?=some (some v)/\Q v H
def tC (v:V):TE:=λ_ H Q=>Q v H
def Lm {i:Nat} {x:Str} {pos:Pos} (hN:X.N[i]?=some x) (hv:qk X.env.scope x) (hd:(x==("__debug__":Str))=false:=by decide) (gy:(x==("__classdict__":Str))=false:=by decide):PE X (.Name x pos) (aaa i):=by
 intro W s σ H Q I h;obtain⟨v,e,h⟩:=h;obtain⟨m,V,U⟩:=I.loc;obtain⟨u,r,l⟩:=U i x v hN e hv;have fin:EP X W σ Q u s:=⟨v,H,I,r,h⟩
 rcases l with ⟨hk,T⟩ | ⟨hk,c,Z,Y⟩
 ·exact wpAny_Name (wpAny_loadName_local I.ok.kind hk V T fin) hd
 ·rcases hk with hk|hk
  ·exact wpAny_Name (wpAny_loadName_cell I.ok.kind hk Z Y fin) hd
  ·exact wpAny_Name (wpAny_loadName_free I.ok.kind hk Z Y fin gy) hd
def WU {i j pos}:PE X (.Constant (.int i) j pos) (tC (.int i)):=λ_ _ _ H _ I h=>wpAny_Constant_int ⟨.int i,H,I.tok _,⟨_,rfl⟩,h⟩
def YE {b j pos}:PE X (.Constant (.bool b) j pos) (tC (.bl b)):=λ_ _ _ H _ I h=>Constant_bool ⟨.bl b,H,I,rfl,h⟩
def WV {x j pos}:PE X (.Constant (.str x) j pos) (tC (.str x)):=λ_ _ _ H _ I h=>Calls.Constant_str ⟨.str x,H,I.tok _,⟨_,rfl⟩,h⟩
def Gl (X:Cx) (x:Str):Prop:=X.env.kindOf x=some .globalImplicit
def BV {E:Ç->Å->Prop} {π:List (ä×Obj)} {s:Å} {σ:St} {H:Hp} {x:Str} {u:Ç} {pos:Pos} {Q:Ç->Å->Prop} (I:Inv X π σ H s) (hg:Gl X x) (hm:X.mg x=some u) (h:Q u s)
  (hd:(x==("__debug__":Str))=false:=by decide):á (í X.prog X.w) X.A (ţ (.Name x pos) X.env) Q E s :=
 Calls.Name_function_global I.ok.kind hg (Calls.loadGlobal_global (by rw[I.ok.glob];exact I.mod.glob.keeps I.bk) hm h) hd
def lj {E:Ç->Å->Prop} {π:List (ä×Obj)} {s:Å} {σ:St} {H:Hp} {x:Str} {u:Ç} {pos:Pos} {Q:Ç->Å->Prop} (I:Inv X π σ H s) (hg:Gl X x) (hm:X.mg x=none) (hv:ć x=some u) (h:Q u s)
  (hn:x≠"__name__":=by decide) (hd:(x==("__debug__":Str))=false:=by decide):á (í X.prog X.w) X.A (ţ (.Name x pos) X.env) Q E s:=by
 obtain⟨W,Z,Y⟩:=I.mod.blt;exact Calls.Name_function_global I.ok.kind hg (Calls.loadGlobal_builtin (by rw[I.ok.glob];exact I.mod.glob.keeps I.bk) hm (by rw[I.ok.blt];exact Z.keeps I.bk) ((Y x hn).trans hv) h) hd
def UZ (hg:Gl X x) (hm:X.mg x=some u) (r:RelV v u) (hd:(x==("__debug__":Str))=false:=by decide):PE X (.Name x pos) (tC v) :=
 λ_ _ _ H _ I h=>BV I hg hm ⟨v,H,I,r,h⟩ hd
def U0 {x:Str} {v:V} {u:Ç} {pos:Pos} (hg:Gl X x) (hm:X.mg x=none) (hv:ć x=some u) (r:RelV v u) (hn:x≠"__name__":=by decide) (hd:(x==("__debug__":Str))=false:=by decide):PE X (.Name x pos) (tC v) :=
 λ_ _ _ H _ I h=>lj I hg hm hv ⟨v,H,I,r,h⟩ hn hd
variable {a b:ľ} {ta tb:TE} {pos:Pos}
variable {tA z9:TT} {rest:List ľ}
def ei (t u:TT):TT:=fun σ H Q=>t σ H λc Z=>if c=true then u σ Z Q else Q false Z
def ie (t u:TT):TT:=fun σ H Q=>t σ H λc Z=>if c=true then Q true Z else u σ Z Q
def fm (t:TT):TT:=fun σ H Q=>t σ H λc Z=>Q (!c) Z
def U1 (ha:PT X a tA):PW X (.BoolOp .And [a] pos) tA:=by
 intro Y Z s σ H Q I h;refine isTrue_and (aJ (ha Z s σ H Q I h) λc W e=>?_)
 cases c with
 |true=>exact isTrue_and_nil e
 |false=>exact e
def WW (ha:PT X a tA):PW X (.BoolOp .Or [a] pos) tA:=by
 intro Y Z s σ H Q I h;refine isTrue_or (aJ (ha Z s σ H Q I h) λc W e=>?_)
 cases c with
 |false=>exact isTrue_or_nil e
 |true=>exact e
def WX (ha:PT X a tA) (hb:PW X (.BoolOp .And (b::rest) pos) z9):PW X (.BoolOp .And (a::b::rest) pos) (ei tA z9):=by
 intro U Z s σ H Q I h;refine isTrue_and (aJ (ha Z s σ H _ I h) λc T ⟨Y,W,V⟩=>?_)
 cases c with
 |true=>exact hb U Z T σ Y Q W V
 |false=>exact⟨Y,W,V⟩
def YF (ha:PT X a tA) (hb:PW X (.BoolOp .Or (b::rest) pos) z9):PW X (.BoolOp .Or (a::b::rest) pos) (ie tA z9):=by
 intro U Z s σ H Q I h;refine isTrue_or (aJ (ha Z s σ H _ I h) λc T ⟨Y,W,V⟩=>?_)
 cases c with
 |true=>exact⟨Y,W,V⟩
 |false=>exact hb U Z T σ Y Q W V
def WY (ha:PT X a tA):PT X (.UnaryOp .Not a pos) (fm tA):=by
 intro Z s σ H Q I h;exact isTrue_not (ha Z s σ H (λc Y=>Q (!c) Y) I h)
def YG (ta tb:TE):TE:=fun σ H Q=>ta σ H λx Z=>∃c,x=.bl c/\if c=true then tb σ Z Q else Q (.bl false) Z
def aab (ta tb:TE):TE:=fun σ H Q=>ta σ H λx Z=>∃c,x=.bl c/\if c=true then Q (.bl true) Z else tb σ Z Q
def YH (ta:TE):TE:=fun σ H Q=>ta σ H λx Z=>∃c,x=.bl c/\Q (.bl (!c)) Z
def WZ {op} (h:PE X a t):PE X (.BoolOp op [a] pos) t:=λZ s σ H Q I hw=>BoolOp_one (h Z s σ H Q I hw)
def W0 (ha:PE X a ta) (hb:PE X (.BoolOp .And (b::rest) pos) tb):PE X (.BoolOp .And (a::b::rest) pos) (YG ta tb):=by
 intro Y s σ H Q I h;refine BoolOp_and (aJ (ha Y s σ H _ I h) λv U ⟨x,W,V,T,Z⟩=>?_);obtain⟨c,rfl,Z⟩:=Z;cases T;refine ŗ ?_
 cases c with
 |true=>exact hb Y U σ W Q V Z
 |false=>exact⟨.bl false,W,V,rfl,Z⟩
def YI (ha:PE X a ta) (hb:PE X (.BoolOp .Or (b::rest) pos) tb):PE X (.BoolOp .Or (a::b::rest) pos) (aab ta tb):=by
 intro Y s σ H Q I h;refine BoolOp_or (aJ (ha Y s σ H _ I h) λv U ⟨x,W,V,T,Z⟩=>?_);obtain⟨c,rfl,Z⟩:=Z;cases T;refine ŗ ?_
 cases c with
 |false=>exact hb Y U σ W Q V Z
 |true=>exact⟨.bl true,W,V,rfl,Z⟩
def W4 (ha:PE X a ta):PE X (.UnaryOp .Not a pos) (YH ta):=by
 intro Y s σ H Q I h;refine UnaryOp_ (aJ (ha Y s σ H _ I h) λv T ⟨x,W,V,U,Z⟩=>?_);obtain⟨c,rfl,Z⟩:=Z;cases U;exact not_of (ŗ ⟨.bl (!c),W,V,rfl,Z⟩)
def tIf (t:TT) (ta tb:TE):TE:=fun σ H Q=>t σ H λc Z=>if c=true then ta σ Z Q else tb σ Z Q
def S9 {c:ľ} (hc:PT X c tA) (ha:PE X a ta) (hb:PE X b tb):PE X (.IfExp c a b pos) (tIf tA ta tb):=by
 intro Z s σ H Q I h;refine wpAny_IfExp (aJ (hc Z s σ H _ I h) λd Y ⟨W,V,U⟩=>?_)
 cases d with
 |true=>exact ha Z Y σ W Q V U
 |false=>exact hb Z Y σ W Q V U
end
def bh (K:ĥ) (H:Hp) (a:ä) (xs:List V):Prop :=
 Rd H a (.lst xs) \/
  ∃(o:Obj) (its:Array Ç) (n:Nat),K.lookup a=some o/\o.cls=.type "list"/\o.dict=none/\o.data=.seq its n/\its.size<=Ø/\Vals xs its.toList
def bz (K:ĥ) (H:Hp) (a:ä) (xs:List V):Prop :=
 Rd H a (.tup xs) \/
  ∃(o:Obj) (its:Array Ç) (n:Nat),K.lookup a=some o/\o.cls=.type "tuple"/\o.data=.seq its n/\its.size<=Ø/\Vals xs its.toList
noncomputable def aac:Ç->Option V
 | .none=>some .ax
 | .bool b=>some (.bl b)
 | .int i _=>some (.int i)
 | .str x _=>some (.str x)
 | .bytes b _=>some (.iW b)
 | .float b _=>some (.tw b)
 | .ref a=>some (.ref a)
 | .type n=>some (.ty n)
 |_=>none
def RelV.abs (r:RelV x u):aac u=some x:=by
 cases x with
 |ax=>cases r;rfl
 |bl _=>cases r;rfl
 |int _=>obtain⟨t,rfl⟩:=r;rfl
 |str _=>obtain⟨t,rfl⟩:=r;rfl
 |iW _=>obtain⟨t,rfl⟩:=r;rfl
 |tw _=>obtain⟨t,rfl⟩:=r;rfl
 |ref _=>cases r;rfl
 |ty _=>cases r;rfl
def RelV.inj (r:RelV x u) (q:RelV y u):x=y:=adw (r.abs.symm.trans q.abs)
theorem Vals.inj:∀{xs ys:List V} {us:List Ç},Vals xs us->Vals ys us->xs=ys
 |_,_,_,.nil,.nil=>rfl
 |_,_,_,.cons r t,.cons Z Y=>by rw[r.inj Z,Vals.inj t Y]
section
variable {X:Cx} {π:List (ä×Obj)} {σ:St} {H:Hp} {s:Å} {a:ä} {xs ys:List V}
def bh.of {K:ĥ} (h:H a=some (.lst xs)):bh K H a xs:=.inl (.inl h)
def bz.of {K:ĥ} (h:H a=some (.tup xs)):bz K H a xs:=.inl (.inl h)
def Inv.list (I:Inv X π σ H s) (h:bh X.K H a xs):∃its:List Ç,Vals xs its/\PlainL s.heap a its.toArray/\xs.length<=Ø:=by
 rcases h with h | ⟨o,its,n,Z,Y,W,hs,V,r⟩
 ·obtain⟨z,its,n,r,e⟩:=h.ok I.aE
  exact⟨its,r,⟨_,n,e,rfl,rfl,rfl⟩,z⟩
 ·refine⟨its.toList,r,⟨o,n,I.iX a o Z,Y,W,by simpa using hs⟩,?_⟩
  have e:=r.length;simp only[Ą] at e;omega
def Inv.tuple (I:Inv X π σ H s) (h:bz X.K H a xs):∃its:List Ç,Vals xs its/\IsTup s.heap a its.toArray/\xs.length<=Ø:=by
 rcases h with h | ⟨o,its,n,Z,Y,hs,W,r⟩
 ·obtain⟨z,its,r,p⟩:=h.ok I.aE
  exact⟨its,r,p,z⟩
 ·refine⟨its.toList,r,⟨o,I.iX a o Z,Y,n,by simpa using hs⟩,?_⟩
  have e:=r.length;simp only[Ą] at e;omega
def Inv.Bo (I:Inv X π σ H s) (h:bh X.K H a xs) (h':bh X.K H a ys):xs=ys:=by
 obtain⟨its,r,⟨o,n,e,_,_,d⟩,_⟩:=I.list h;obtain⟨Z,V,⟨T,S,Y,_,_,W⟩,_⟩:=I.list h';rw[e] at Y;cases Y;rw[d] at W
 injection W with U _
 have:its=Z:=by simpa using Ķ Array.toList U
 subst this;exact r.inj V
def Inv.Ir (I:Inv X π σ H s) (h:bz X.K H a xs) (h':bz X.K H a ys):xs=ys:=by
 obtain⟨its,r,⟨o,e,_,n,d⟩,_⟩:=I.tuple h;obtain⟨Z,V,⟨T,Y,_,S,W⟩,_⟩:=I.tuple h';rw[e] at Y;cases Y;rw[d] at W
 injection W with U _
 have:its=Z:=by simpa using Ķ Array.toList U
 subst this;exact r.inj V
end
noncomputable abbrev Cx.lP (X:Cx) (E:Ç->Å->Prop):Cx:={ X with xe:=E }
noncomputable abbrev Cx.qq (X:Cx):Cx:=X.lP λ_ _=>False
theorem Cx.Ok.lP {X:Cx} (ok:X.Ok) (E:Ç->Å->Prop):(X.lP E).Ok :=
 ⟨ok.mod,ok.kind,ok.glob,ok.blt,ok.above,ok.inj,ok.has,ok.ql,ok.hd,ok.frames,ok.qm,ok.zX,ok.bs,ok.iA,ok.lO,ok.sL,ok.iR,ok.ni⟩
def Cx.Ok.nU {X:Cx} {E:Ç->Å->Prop} (ok:(X.lP E).Ok):X.Ok :=
 ⟨ok.mod,ok.kind,ok.glob,ok.blt,ok.above,ok.inj,ok.has,ok.ql,ok.hd,ok.frames,ok.qm,ok.zX,ok.bs,ok.iA,ok.lO,ok.sL,ok.iR,ok.ni⟩
section
variable {X:Cx} {π:List (ä×Obj)} {σ:St} {H:Hp} {s:Å} {E:Ç->Å->Prop}
theorem Inv.lP (I:Inv X π σ H s) (E:Ç->Å->Prop):Inv (X.lP E) π σ H s:=⟨I.ok.lP E,I.os,I.bare,I.base,I.loc,I.cell,I.free,I.iL,I.pin,I.aE,I.len⟩
theorem Inv.nU (I:Inv (X.lP E) π σ H s):Inv X π σ H s:=⟨I.ok.nU,I.os,I.bare,I.base,I.loc,I.cell,I.free,I.iL,I.pin,I.aE,I.len⟩
theorem SP.nU (h:SP (X.lP E) π D f s'):SP X π D f s':=by
 cases f with
 |next=>obtain⟨Z,Y,I,q⟩:=h;exact⟨Z,Y,I.nU,q⟩
 |brk=>obtain⟨Z,Y,I,q⟩:=h;exact⟨Z,Y,I.nU,q⟩
 |cont=>obtain⟨Z,Y,I,q⟩:=h;exact⟨Z,Y,I.nU,q⟩
 |ret u=>obtain⟨v,Z,Y,I,r,q⟩:=h;exact⟨v,Z,Y,I.nU,r,q⟩
theorem dj.qq {st:List ado} {t:TS} (h:dj X.qq st t):dj X st t:=λπ s σ H D I hw =>
 ķ (h π s σ H D (I.lP _) hw) (λ_ _ q=>q.nU) λ_ _ z=>ű z
end
section
variable {X:Cx} {st:ado} {rest:List ado} {t u:TS} {e:ľ} {te:TE} {pos:Pos}
def YJ:TS:=λD σ H=>D.nx σ H
def aad (t u:TS):TS:=λD σ H=>t { D with nx:=u D } σ H
def U2:dj X [] YJ:=λ_ _ σ H _ I h=>acV ⟨σ,H,I,h⟩
def Ta (h1:PS X st t) (h2:dj X rest u):dj X (st::rest) (aad t u):=by
 intro Z s σ H D I h
 refine wpAny_execs_cons (aJ (h1 Z s σ H { D with nx:=u D } I h) λf Y q=>?_)
 cases f with
 |next =>
  obtain⟨W,V,U,q⟩:=q;exact h2 Z Y W V D U q
 |ret v=>exact q
 |brk=>exact q
 |cont=>exact q
def U3 (h1:PS X st t):dj X [st] t:=by
 intro Z s σ H D I h;refine wpAny_execs_cons (aJ (h1 Z s σ H D I h) λf Y q=>?_)
 cases f with
 |next=>exact acV q
 |ret v=>exact q
 |brk=>exact q
 |cont=>exact q
def Inv.quiet {π:List (ä×Obj)} {σ:St} {H:Hp} {s:Å} (I:Inv X π σ H s):interactive X.env=false:=by simp[interactive,I.ok.kind]
def YK (te:TE):TS:=λD σ H=>te σ H λ_ Z=>D.nx σ Z
def U4 (he:PE X e te) (hs:acW e none pos.line X.env=pure false:=by rfl):PS X (.Expr e pos) (YK te):=by
 intro Z s σ H D I h;exact wpAny_Expr_any (aJ (he Z s σ H _ I h) λv U ⟨x,Y,W,T,V⟩=>⟨σ,Y,W,V⟩) I.quiet hs
def aae (te:TE):TS:=λD σ H=>te σ H D.rt
def W5 (he:PE X e te):PS X (.Return (some e) pos) (aae te):=by
 intro Z s σ H D I h;exact wpAny_Return_some (aJ (he Z s σ H _ I h) λv T ⟨x,Y,W,V,U⟩=>⟨x,σ,Y,W,V,U⟩)
def aaf (c:TT) (t u:TS):TS:=λD σ H=>c σ H λb Z=>if b=true then t D σ Z else u D σ Z
def YL {c:ľ} {a b:List ado} {tc:TT} (hc:PT X c tc) (ha:dj X a t) (hb:dj X b u):PS X (.If c a b pos) (aaf tc t u):=by
 intro Z s σ H D I h;refine wpAny_If (aJ (hc Z s σ H _ I h) λd Y ⟨W,V,U⟩=>?_)
 cases d with
 |true=>exact ha Z Y σ W D V U
 |false=>exact hb Z Y σ W D V U
end
noncomputable abbrev TG:=V->St->Hp->(St->Hp->Prop)->Prop
noncomputable abbrev kG:=List V->St->Hp->(St->Hp->Prop)->Prop
def PG (X:Cx) (target:ľ) (t:TG):Prop :=
 ∀(Z:List (ä×Obj)) (s:Å) (σ:St) (H:Hp) (v:V) (u:Ç) (Q:St->Hp->Prop),Inv X Z σ H s->RelV v u->t v σ H Q ->
  á (í X.prog X.w) X.A (adp target X.env u) (λ_ U=>∃ Y W,Inv X Z Y W U/\Q Y W) X.xe s
def l6 (X:Cx) (ts:List ľ) (t:kG):Prop :=
 ∀(Z:List (ä×Obj)) (s:Å) (σ:St) (H:Hp) (Y:List V) (W:List Ç) (Q:St->Hp->Prop),Inv X Z σ H s->Vals Y W->t Y σ H Q ->
  á (í X.prog X.w) X.A (acR ((Ž ts X.env).map (·.2)) W) (λ_ S=>∃ U T,Inv X Z U T S/\Q U T) X.xe s
noncomputable abbrev Eo:=V->V->V->Hp->(Hp->Prop)->Prop
def M5 (X:Cx) (t:Eo):Prop :=
 ∀(Z:List (ä×Obj)) (s:Å) (σ:St) (H:Hp) (o i v:V) (Y W u:Ç) (Q:Hp->Prop),Inv X Z σ H s->RelV o Y->RelV i W->RelV v u->t o i v H Q ->
  á (í X.prog X.w) X.A (setItem Y W u) (λ_ T=>∃U,Inv X Z σ U T/\Q U) X.xe s
section
variable {X:Cx} {pos:Pos}
def pO (i:Nat):TG:=λv σ H Q=>Q (σ.set i (some v)) H
def gW (hN:X.N.Nodup) (hi:X.N[i]?=some x) (hx:Loc X.env.scope x) (hf:X.fn x=true\/X.env.scope.names.lookup x=some .local:=by first|exact .inl rfl|exact .inr rfl|assumption):PG X (.Name x pos) (pO i):=by
 intro Y s σ H v u Q I r h;exact wpAny_assign_Name (o7 I hN hi hx r (λW Z=>⟨_,H,Z,h⟩) hf)
def Ep:kG:=λZ σ H Q=>Z=[]/\Q σ H
def Dv (t:TG) (u:kG):kG:=λZ σ H Q=>∃v r,Z=v::r/\t v σ H fun Y X=>u r Y X Q
def yy:l6 X [] Ep:=by
 intro Z s σ H Y W Q I r h;obtain⟨e,h⟩:=h;subst e;cases r;exact assignInOrder_nil ⟨σ,H,I,h⟩
def o9 {e:ľ} {es:List ľ} {t:TG} {u:kG} (h1:PG X e t) (h2:l6 X es u)
  (hs:(Ž (e::es) X.env).map (·.2)=adp e X.env::(Ž es X.env).map (·.2):=by rfl):l6 X (e::es) (Dv t u):=by
 intro Z s σ H R P Q I r h;obtain⟨v,O,e1,h⟩:=h;subst e1
 cases r with
 |cons r Y =>
  rw[hs];refine ŵ (aJ (h1 Z s σ H _ _ _ I r h) λ_ W ⟨V,U,T,S⟩=>?_);exact h2 Z W V U _ _ Q T Y S
def Er (K:ĥ) (n:Nat) (t:kG):TG:=λv σ H Q=>∃a Z,v=.ref a/\bz K H a Z/\Z.length=n/\t Z σ H Q
def yL {k:Nat} {n:Nat} (hc:X.calm=true) (h:l6 X es t)
 (hn:(Ž es X.env).length=n:=by rfl) (iC:(Ž es X.env).findIdx? (·.1)=none:=by rfl):PG X (.Tuple es k pos) (Er X.K n t):=by
 intro Z s σ H v u Q I r hw;obtain⟨a,Y,e1,W,V,hw⟩:=hw;subst e1;cases r;obtain⟨its,rv,U,P⟩:=I.tuple W;refine assign_Tuple_tuple (I.ok.hd hc) U (by simp[hn,<- V,rv.length]) iC λT S=>?_
 have R:Inv X Z σ H { s with heap:=T }:=I.kept (t':=s.toks) λb o e=>S b o (à (Ó e)) e
 exact h Z _ σ H Y _ Q R (by simpa using rv) hw
def aag (to ti:TE) (t:Eo):TG:=λv σ H Q=>to σ H λo Z=>ti σ Z λi Y=>t o i v Y λX=>Q σ X
def W6 {o i:ľ} {to ti:TE} {t:Eo} (ho:PE X o to) (hi:PE X i ti) (hs:M5 X t)
  (ha:∀v,adp (.Subscript o i pos) X.env v=(do
   let ov <- abj [v] (ţ o X.env)
   let iv <- abj [v,ov] (ţ i X.env)
   abO pos
   abj [v,ov,iv] (setItem ov iv v)
   release [v,ov,iv] []):=by intro _;rfl):PG X (.Subscript o i pos) (aag to ti t):=by
 intro Z s σ H v u Q I r h;rw[ha];refine À (Ġ (aJ (ho Z s σ H _ I h) λov Y ⟨x,W,V,U,T⟩=>?_));refine À (Ġ (aJ (hi Z Y σ W _ V T) λiv S ⟨y,R,P,O,N⟩=>?_));refine À (μ (À (Ġ (aJ (hs Z S σ R x y v ov iv u _ P U O r N) λ_ J ⟨M,L,K⟩=>?_))));exact wpAny_release ⟨σ,M,L,K⟩
def vL (te:TE) (g:TG):TS:=λD σ H=>te σ H λx Z=>g x σ Z D.nx
def Ln {tg e:ľ} {te:TE} {g:TG} (he:PE X e te) (hg:PG X tg g) (hs:abv [tg] e pos.line X.env=pure false:=by rfl) (hw:abw [tg] e X.env=pure none:=by rfl)
  (h1:(Ž [tg] X.env).map (·.2)=[adp tg X.env]:=by rfl):PS X (.Assign [tg] e pos) (vL te g):=by
 intro Z s σ H D I h;refine wpAny_Assign_stores (aJ (he Z s σ H _ I h) λv Y ⟨x,W,V,U,T⟩=>?_) hs hw;rw[h1];exact aJ (hg Z Y σ W x v _ V U T) λ_ S q=>q
def W7 {i:Nat} {x:Str} {e:ľ} {te:TE} {pos':Pos} (hN:X.N.Nodup) (hi:X.N[i]?=some x) (hx:Loc X.env.scope x) (he:PE X e te) (hs:acW e (some (.Name x pos')) pos.line X.env=pure false:=by rfl) (hf:X.fn x=true\/X.env.scope.names.lookup x=some .local:=by first|exact .inl rfl|exact .inr rfl|assumption) :
  PS X (.Assign [.Name x pos'] e pos) (vL te (pO i)):=by
 intro Z s σ H D I h;refine wpAny_Assign_Name (aJ (he Z s σ H _ I h) λv S ⟨y,Y,W,V,U⟩=>?_) hs;exact o7 W hN hi hx V (λR T=>⟨_,Y,T,U⟩) hf
def aah (i j:Nat) (ta:TA):TS:=λD σ H=>ta σ H λZ Y=>∃v w,Z=[v,w]/\D.nx ((σ.set i (some v)).set j (some w)) Y
def W8 {i j:Nat} {x y:Str} {a b:ľ} {ta:TA} {px py pt:Pos} {kt k2 iD} (hc:X.calm=true) (hN:X.N.Nodup) (hi:X.N[i]?=some x) (hj:X.N[j]?=some y) (eZ:i≠j)
  (hx:X.env.scope.names.lookup x=some .local) (hy:X.env.scope.names.lookup y=some .local) (ha:PA X [a,b] ta)
  (hw:abw [.Tuple [.Name x px,.Name y py] kt pt] (.Tuple [a,b] k2 iD) X.env=pure (some [x,y]))
  (hs:abv [.Tuple [.Name x px,.Name y py] kt pt] (.Tuple [a,b] k2 iD) pos.line X.env=pure false:=by rfl) :
  PS X (.Assign [.Tuple [.Name x px,.Name y py] kt pt] (.Tuple [a,b] k2 iD) pos) (aah i j ta):=by
 intro U s σ H D I h;rw[exec_Assign_arm];refine À (μ ?_);rw[hs];refine À (Ä ?_);rw[å (by decide)];refine À (Tuple_ (aJ (ha _ U s σ H _ I h) λR Z ⟨E,T,Q,P,V⟩=>?_));obtain⟨v,w,e1,V⟩:=V;subst e1;obtain⟨Y,W,rfl,rv,O⟩:∃Y W,R=[Y,W]/\RelV v Y/\RelV w W:=by
  cases P with
  |cons p q =>
   cases q with
   |cons M L =>
    cases L;exact⟨_,_,rfl,p,M⟩
 refine ą ?_ (by show 2<=Ø;decide)
 have K:Inv X U σ T { Z with heap:=Z.heap.push { cls:=.type "tuple",data:=.seq [Y,W].toArray } }:=Q.kept (t':=Z.toks) λb o e=>Á _ e
 rw[hw];refine À (Ä ?_)
 show á (í X.prog X.w) X.A (do rule "assign.swapped-stores";let items <- unpackItems (.ref Z.heap.objs.size) 2 none;acR [λv=>acS X.env y v,λv=>acS X.env x v] items.reverse;pure Flow.next) _ _ _
 refine À (Ų (À (unpackItems_tuple (items:=#[Y,W]) (I.ok.hd hc) (IsTup.new Z.heap _) λh' J=>?_)));have G:=K.kept (h':=h') (t':=Z.toks) λb o e=>J b o (à (Ó e)) e
 show á _ _ (acR [λv=>acS X.env y v,λv=>acS X.env x v] [W,Y] >>= λ_=>pure Flow.next) _ _ _
 refine À (ŵ (acx (o7 G hN hj (.inl hy) O (λC F=>?_) (.inr hy))));refine ŵ (acx (o7 F hN hi (.inl hx) rv (λB S=>assignInOrder_nil (Ä ?_)) (.inr hx)));rw[List.set_comm _ _ (ŕ eZ)] at S;exact⟨_,T,S,V⟩
def Lo (c:TT) (tb:TS):TS:=λD σ H=>∃W:Nat->St->Hp->Prop,(∃m,W m σ H)/\∀m σ H,W m σ H ->
 c σ H λb Z=>if b=true then ∃N:St->Hp->Prop,(∀ Y X,N Y X->∃V,V < m/\W V Y X)/\tb { D with nx:=N,ct:=N,bk:=D.nx } σ Z else D.nx σ Z
def Tb {c:ľ} {body:List ado} {tc:TT} {tb:TS} (hp:PassesOwn (í X.prog X.w) X.A X.env X.xe) (hc:PT X c tc) (hb:dj X body tb):PS X (.While c body [] pos) (Lo tc tb):=by
 intro S s σ H D I h;obtain⟨W,⟨m0,C⟩,turn⟩:=h;refine wpAny_While (codeAny_whileLoop (λn B=>∃ L K,Inv X S L K B/\W n L K) ?_ m0 ⟨σ,H,I,C⟩);intro n z zzz;obtain⟨V,J,y,x⟩:=zzz;refine ž hp (aJ (hc S z V J _ y (turn n V J x)) λb u ⟨G,F,U⟩=>?_)
 cases b with
 |true =>
  obtain⟨N,E,U⟩:=U;rw[Þ rfl];refine ž hp (aJ (hb S u V G _ F U) λf t T=>?_)
  cases f with
  |next =>
   obtain⟨Z,Y,R,Q⟩:=T;obtain⟨P,O,M⟩:=E Z Y Q;exact⟨P,O,Z,Y,R,M⟩
  |cont =>
   obtain⟨Z,Y,R,Q⟩:=T;obtain⟨P,O,M⟩:=E Z Y Q;exact⟨P,O,Z,Y,R,M⟩
  |brk=>exact T
  |ret v=>exact T
 |false =>
  rw[å Ö];exact acV ⟨V,G,F,U⟩
end
structure It where
 go:Nat->Hp->Prop
 tF:Nat->Hp->V->Hp->Prop
 stop:Nat->Hp->Prop
def dh (X:Cx) (π:List (ä×Obj)) (H:Hp) (b:ä):Prop :=
 H b=none/\b≠X.env.locals/\b∉X.fs/\(b∈X.ex\/X.cY.heap.objs.size<=b)/\(∀x c,X.env.cells.lookup x=some c->c≠b)/\∀p∈X.pn++π,p.1≠b
def Inv.oh {X:Cx} {π:List (ä×Obj)} {σ:St} {H H':Hp} {s:Å} {b:ä} (I:Inv X π σ H s) (hb:s.heap.objs.size<=b) (hn:H' b=none):dh X π H' b:=by
 refine⟨hn,ĸ (Ì I.lt hb),I.vK hb,.inr (Ú I.sz hb),λx c e z=>?_,λp Z z=>?_⟩
 ·obtain⟨v,q⟩:=I.cell x c e
  exact absurd (Ì q.lt (by rw[z];exact hb)) (ú _)
 ·exact absurd (Ì (Ó (I.pin p Z).1) (by rw[z];exact hb)) (ú _)
structure Turn (P:ó) (w:Ĕ) (K:ĥ) (tg:ľ) (J:It) (fp:List ä) (it:ä) (tn:Nat->œ->Prop):Prop where
 mem:it∈fp
 obj:∀i h,tn i h->∀b∈fp,∃o,h.get? b=some o/\∀v,o.data≠.cell v
 keep:∀i h h',tn i h->(∀b∈fp,∀o,h.get? b=some o->h'.get? b=some o)->tn i h'
 item:∀(X:Cx),X.prog=P->X.w=w->X.K=K->X.calm=true->∀(i:Nat) (π:List (ä×Obj)) (s:Å) (σ:St) (H:Hp) (E:Ç->Å->Prop),Inv X π σ H s->(∀b∈fp,dh X π H b)->tn i s.heap->J.go i H ->
  á (í P w) X.A (ſ (.ref it)) (λr s1=>∃u,r=some u /\
   á (í P w) X.A (Ū tg (.ref it) u) (λ_ s2=>∃x H',Inv X π σ H' s2/\RelV x u/\J.tF i H x H'/\tn (i+1) s2.heap/\∀b∈fp,H' b=none) E s1) E s
 done:∀(X:Cx),X.prog=P->X.w=w->X.K=K->X.calm=true->∀(i:Nat) (π:List (ä×Obj)) (s:Å) (σ:St) (H:Hp) (E:Ç->Å->Prop),Inv X π σ H s->(∀b∈fp,dh X π H b)->tn i s.heap->J.stop i H ->
  á (í P w) X.A (ſ (.ref it)) (λr s1=>r=none/\Inv X π σ H s1) E s
 self:∀(A:Ĉ) (i:Nat) (s:Å) (Q:Ç->Å->Prop) (E:Ç->Å->Prop),tn i s.heap->Q (.ref it) s->á (í P w) A (pyIter (.ref it)) Q E s
noncomputable abbrev TI:=St->Hp->(It->Hp->Prop)->Prop
def NF (X:Cx) (π:List (ä×Obj)) (σ:St) (tg:ľ) (R:It->Hp->Prop) (gA:Ç) (s2:Å):Prop :=
 ∃(it:ä) (Y:List ä) (W:Nat->œ->Prop) (J:It) (Z:Hp),gA=.ref it/\Inv X π σ Z s2/\Turn X.prog X.w X.K tg J Y it W/\W 0 s2.heap/\(∀b∈Y,dh X π Z b)/\R J Z
def PI (X:Cx) (tg iter:ľ) (wi:TI):Prop :=
 ∀(Z:List (ä×Obj)) (s:Å) (σ:St) (H:Hp) (R:It->Hp->Prop),Inv X Z σ H s->wi σ H R ->
  á (í X.prog X.w) X.A (ţ iter X.env) (λv Y=>á (í X.prog X.w) X.A (pyIter v) (NF X Z σ tg R) X.xe Y) X.xe s
def zg (ho:s.heap.get? it=some o) (hc:o.cls=.type n) (hd:o.data=.fields vs)
 (hn:["enumerate","zip","dict_itemiterator","dict_reverseitemiterator","odict_iterator","itertools.zip_longest","itertools.pairwise"].contains n=false) (hQ:Q () s):á M A (Ū tg (.ref it) u) Q E s:=by
 unfold Ū
 cases tg<;>first
  |exact Ä hQ
  |(cases u<;>first
    |exact Ä hQ
    |(refine À (wpAny_load ho ?_)
      rw[hc,hd]
      show á M A (if (["enumerate","zip","dict_itemiterator","dict_reverseitemiterator","odict_iterator","itertools.zip_longest","itertools.pairwise"].contains n&&vs[0]?==some (Ś _))=true then _ else _) Q E s
      rw[å (by intro h;rw[hn,adb] at h;cases h)];exact Ä hQ))
noncomputable def Fi (K:ĥ) (a:ä):It :=
 ⟨λi H=>∃Z x,bh K H a Z/\Z[i]?=some x,λi H x Y=>Y=H/\∀Z,bh K H a Z->Z[i]?=some x,λi H=>∃Z,bh K H a Z/\Z.length<=i⟩
noncomputable def Fj (K:ĥ) (a:ä):It :=
 ⟨λi H=>∃Z x,bz K H a Z/\Z[i]?=some x,λi H x Y=>Y=H/\∀Z,bz K H a Z->Z[i]?=some x,λi H=>∃Z,bz K H a Z/\Z.length<=i⟩
noncomputable def wu (lo:Int) (n:Nat):It:=⟨λi _=>i<n,λi H x Z=>Z=H/\x=.int (lo+i),λi _=>n<=i⟩
def RD {P:ó} {w:Ĕ} {K:ĥ} {tg:ľ} (a it:ä):Turn P w K tg (Fi K a) [it] it (λi h=>h.IsListIter it a i) where
 mem:=by simp
 obj:=λi h st b Z=>by
  have e:b=it:=by simpa using Z
  subst e;obtain⟨o,e,c,d⟩:=st;exact⟨o,e,λv z=>by rw[d] at z;cases z⟩
 keep:=λi h Y st k=>st.at λo e=>k it (by simp) o e
 item:=by
  intro X U hw T N i M s σ H E I W st S;subst U hw T;obtain⟨J,x,V,R⟩:=S;obtain⟨its,rv,p,G⟩:=I.list V;obtain⟨u,F,D⟩:=rv.get R;obtain⟨f0,f1,f2,Q,f4,O⟩:=W it (by simp);refine wpAny_pyNext_list_item st p.isList (x:=u) (by simpa using F) λY L C=>?_
  have B:Inv X M σ H { s with heap:=Y }:=I.turned (t':=s.toks) (λb o Z e=>(C.2 b Z).trans e) f0 f1 Q f4 O
  obtain⟨o,e,c,d⟩:=id L
  exact⟨u,rfl,zg (s:={ s with heap:=Y }) e c d (by decide) ⟨x,H,B,D,⟨rfl,λt A=>by rw[I.Bo A V];exact R⟩,L,λb Z=>(W b Z).1⟩⟩
 done:=by
  intro X U hw T N i M s σ H E I W st S;subst U hw T;obtain⟨J,V,R⟩:=S;obtain⟨its,rv,p,G⟩:=I.list V;obtain⟨f0,f1,f2,Q,f4,O⟩:=W it (by simp);have r:=rv.length;exact wpAny_pyNext_list_end (I.ok.hd N) st p.isList (by simp;omega) λY y=>⟨rfl,I.turned (t':=s.toks) (λb o Z e=>y b o Z e) f0 f1 Q f4 O⟩
 self:=λ_ _ _ _ _ st h=>wpAny_pyIter_listiter st h
def Qu {P:ó} {w:Ĕ} {K:ĥ} {tg:ľ} (a it:ä):Turn P w K tg (Fj K a) [it] it (λi h=>h.IsTupleIter it a i) where
 mem:=by simp
 obj:=λi h st b Z=>by
  have e:b=it:=by simpa using Z
  subst e;obtain⟨o,e,c,d⟩:=st;exact⟨o,e,λv z=>by rw[d] at z;cases z⟩
 keep:=λi h Y st k=>st.at λo e=>k it (by simp) o e
 item:=by
  intro X U hw T N i M s σ H E I W st S;subst U hw T;obtain⟨J,x,V,R⟩:=S;obtain⟨its,rv,p,G⟩:=I.tuple V;obtain⟨u,F,D⟩:=rv.get R;obtain⟨f0,f1,f2,Q,f4,O⟩:=W it (by simp);refine wpAny_pyNext_tuple_item st (show s.heap.IsTuple a its.toArray from p) (x:=u) (by simpa using F) λY L C=>?_
  have B:Inv X M σ H { s with heap:=Y }:=I.turned (t':=s.toks) (λb o Z e=>(C.2 b Z).trans e) f0 f1 Q f4 O
  obtain⟨o,e,c,d⟩:=id L
  exact⟨u,rfl,zg (s:={ s with heap:=Y }) e c d (by decide) ⟨x,H,B,D,⟨rfl,λt A=>by rw[I.Ir A V];exact R⟩,L,λb Z=>(W b Z).1⟩⟩
 done:=by
  intro X U hw T N i M s σ H E I W st S;subst U hw T;obtain⟨J,V,R⟩:=S;obtain⟨its,rv,p,G⟩:=I.tuple V;obtain⟨f0,f1,f2,Q,f4,O⟩:=W it (by simp);have r:=rv.length;exact wpAny_pyNext_tuple_end (I.ok.hd N) st (show s.heap.IsTuple a its.toArray from p) (by simp;omega) λY y=>⟨rfl,I.turned (t':=s.toks) (λb o Z e=>y b o Z e) f0 f1 Q f4 O⟩
 self:=λ_ _ _ _ _ st h=>wpAny_pyIter_tupleiter st h
def Qv {P:ó} {w:Ĕ} {K:ĥ} {tg:ľ} (it:ä) (lo:Int) (n:Nat):Turn P w K tg (wu lo n) [it] it (λi h=>IsRangeIter h it (lo+(i:Nat)*1) ((n:Int)-(i:Nat)) 1) where
 mem:=by simp
 obj:=λi h st b Z=>by
  have e:b=it:=by simpa using Z
  subst e;exact⟨_,st,λv z=>by
   have J:Data.fields _=Data.cell v:=z;cases J⟩
 keep:=λi h Y st k=>k it (by simp) _ st
 item:=by
  intro X U hw T S i N s σ H E I V st R;subst U hw T;obtain⟨f0,f1,f2,Q,f4,O⟩:=V it (by simp);have W:=Walks.range (prog:=X.prog) (w:=X.w) (I.ok.hd S) it lo 1 n;refine W.item i s _ _ R st λv Y M G L F=>?_;obtain⟨t,rfl⟩:=G
  have D:Inv X N σ H { s with heap:=Y,toks:=M }:=I.turned (λb o Z e=>F b o (by simpa using Z) e) f0 f1 Q f4 O
  refine⟨_,rfl,zg (s:={ s with heap:=Y,toks:=M }) (n:="range_iterator") L rfl rfl (by decide) ⟨.int (lo+i),H,D,⟨t,?_⟩,⟨rfl,rfl⟩,L,λb Z=>(V b Z).1⟩⟩
  rw[Int.mul_one]
 done:=by
  intro X U hw T S i N s σ H E I V st R;subst U hw T;obtain⟨f0,f1,f2,Q,f4,O⟩:=V it (by simp);exact wpAny_pyNext_range_end (I.ok.hd S) st (by have:n<=i:=R;omega) λY C=>⟨rfl,I.turned (t':=s.toks) (λb o Z e=>C b o Z e) f0 f1 Q f4 O⟩
 self:=λ_ _ _ _ _ st h=>ach st h
section
variable {X:Cx} {tg:ľ}
def Mh (K:ĥ) (tl:TE):TI:=fun σ H R=>tl σ H λx Z=>∃a,x=.ref a/\(∃Y,bh K Z a Y)/\R (Fi K a) Z
def M6 (K:ĥ) (tl:TE):TI:=fun σ H R=>tl σ H λx Z=>∃a,x=.ref a/\(∃Y,bz K Z a Y)/\R (Fj K a) Z
def J5 {l:ľ} {tl:TE} (hl:PE X l tl):PI X tg l (Mh X.K tl):=by
 intro W s σ H R I h;refine aJ (hl W s σ H _ I h) λv Z ⟨x,V,Y,U,T⟩=>?_;obtain⟨a,e,⟨P,S⟩,q⟩:=T;subst e;cases U;obtain⟨its,rv,p,O⟩:=Y.list S;refine Ō p.isList ?_;refine⟨Z.heap.objs.size,[Z.heap.objs.size],_,_,V,rfl,Y.kept (t':=Z.toks) λb o e=>Á _ e,RD a _,⟨_,Ë _ rfl,rfl,rfl⟩,λb Q=>?_,q⟩;have e:b=Z.heap.objs.size:=by simpa using Q
 subst e;exact Y.oh (adv _) (Y.aE.fresh (adv _))
def W9 {l:ľ} {tl:TE} (hl:PE X l tl):PI X tg l (M6 X.K tl):=by
 intro W s σ H R I h;refine aJ (hl W s σ H _ I h) λv Z ⟨x,V,Y,U,T⟩=>?_;obtain⟨a,e,⟨P,S⟩,q⟩:=T;subst e;cases U;obtain⟨its,rv,p,O⟩:=Y.tuple S;refine wpAny_pyIter_tuple (show Z.heap.IsTuple a its.toArray from p) ?_;refine⟨Z.heap.objs.size,[Z.heap.objs.size],_,_,V,rfl,Y.kept (t':=Z.toks) λb o e=>Á _ e,Qu a _,⟨_,Ë _ rfl,rfl,rfl⟩,λb Q=>?_,q⟩;have e:b=Z.heap.objs.size:=by simpa using Q
 subst e;exact Y.oh (adv _) (Y.aE.fresh (adv _))
def Jl {π:List (ä×Obj)} {σ:St} {H:Hp} {s:Å} {R:It->Hp->Prop} {E:Ç->Å->Prop} {lo hi:Int} {t u v:Tok} {tk:Nat} (I:Inv X π σ H s) (h1:-(2 ^ 62)<=lo) (h2:lo<2 ^ 62) (h3:-(2 ^ 62)<=hi) (h4:hi<2 ^ 62)
  (q:R (wu lo (hi-lo).toNat) H):á (í X.prog X.w) X.A (pyIter (.ref s.heap.objs.size)) (NF X π σ tg R) E { s with heap:=s.heap.push { cls:=.type "range",data:=.fields #[.int lo t,.int hi u,.int 1 v] },toks:=tk }:=by
 refine wpAny_pyIter_range (IsRange.new ..) (small_one h1 h2 h3 h4) ?_
 have Z:Inv X π σ H { s with heap:=s.heap.push { cls:=.type "range",data:=.fields #[.int lo t,.int hi u,.int 1 v] },toks:=tk }:=I.kept λb o e=>Á _ e
 refine⟨(s.heap.push { cls:=.type "range",data:=.fields #[.int lo t,.int hi u,.int 1 v] }).objs.size,[(s.heap.push { cls:=.type "range",data:=.fields #[.int lo t,.int hi u,.int 1 v] }).objs.size],_,_,H,rfl,
  Z.kept (t':=tk) λb o e=>Á _ e,Qv _ lo (hi-lo).toNat,?_,λb Y=>?_,q⟩
 ·have e1:lo+((0:Nat):Int)*1=lo:=by simp
  have e2:(((hi-lo).toNat:Nat):Int)-((0:Nat):Int)=abZ lo hi 1:=by rw[rangeSize_one];split<;>omega
  show IsRangeIter _ _ (lo+((0:Nat):Int)*1) ((((hi-lo).toNat:Nat):Int)-((0:Nat):Int)) 1;rw[e1,e2];exact Ë _ rfl
 ·have e:b=(s.heap.push { cls:=.type "range",data:=.fields #[.int lo t,.int hi u,.int 1 v] }).objs.size:=by simpa using Y
  subst e;exact Z.oh (adv _) (Z.aE.fresh (adv _))
def YM (ta:TA):TI:=fun σ H R=>ta σ H λZ Y=>∃j:Int,Z=[.int j]/\-(2 ^ 62)<=j/\j<2 ^ 62/\R (wu 0 j.toNat) Y
def YN (ta:TA):TI:=fun σ H R=>ta σ H λZ Y=>∃i j:Int,Z=[.int i,.int j]/\(-(2 ^ 62)<=i/\i<2 ^ 62/\-(2 ^ 62)<=j/\j<2 ^ 62)/\R (wu i (j-i).toNat) Y
def RE {a:ľ} {ta:TA} {p pos:Pos} (hg:Gl X "range") (hm:X.mg "range"=none) (ha:PA X [a] ta) (hs:ß [a] X.env=[(false,ţ a X.env)]:=by rfl):PI X tg (.Call (.Name "range" p) [a] [] pos) (YM ta):=by
 intro Y s σ H R I h;refine Call_ (lj I hg hm boot_range (Ĺ (aJ (ha pos Y s σ H _ I h) λS Q ⟨P,O,W,V,Z⟩=>?_) hs rfl));obtain⟨j,e,Z,U,q⟩:=Z;subst e
 cases V with
 |cons r T =>
  cases T;obtain⟨t,rfl⟩:=r;exact call_range_1 (Jl W (by omega) (by omega) Z U (by simpa using q))
def RF {a b:ľ} {ta:TA} {p pos:Pos} (hg:Gl X "range") (hm:X.mg "range"=none) (ha:PA X [a,b] ta) (hs:ß [a,b] X.env=[(false,ţ a X.env),(false,ţ b X.env)]:=by rfl) (cF:ß [b] X.env=[(false,ţ b X.env)]:=by rfl) :
  PI X tg (.Call (.Name "range" p) [a,b] [] pos) (YN ta):=by
 intro W s σ H R I h;refine Call_ (lj I hg hm boot_range (Ĺ (aJ (ha pos W s σ H _ I h) λO N ⟨M,L,V,U,Z⟩=>?_) (by rw[hs,cF]) (by rw[cF];rfl)));obtain⟨i,j,e,⟨Z,T,S,Q⟩,q⟩:=Z;subst e
 cases U with
 |cons r Y =>
  cases Y with
  |cons P Y =>
   cases Y;obtain⟨t,rfl⟩:=r;obtain⟨K,rfl⟩:=P;exact call_range_2 (Jl V Z T S Q q)
def M7 (wi:TI) (g:TG) (tb:TS):TS:=λD σ H=>wi σ H λJ V=>∃W:Nat->Nat->St->Hp->Prop,(∃m,W 0 m σ V)/\∀i m σ H,W i m σ H ->
 (J.stop i H/\D.nx σ H)\/(J.go i H/\∃N:St->Hp->Prop,(∀ Y Z,N Y Z->∃X,X < m/\W (i+1) X Y Z)/\∀x Z,J.tF i H x Z->g x σ Z fun U T=>tb { D with nx:=N,ct:=N,bk:=D.nx } U T)
noncomputable def nV (fp:List ä) (h:œ):List (ä×Obj):=fp.filterMap λb=>(h.get? b).map λo=>(b,o)
def rm (hb:b∈fp) (e:h.get? b=some o):(b,o)∈nV fp h:=List.mem_filterMap.mpr ⟨b,hb,by rw[e];rfl⟩
def Iu (hp:p∈nV fp h):p.1∈fp/\h.get? p.1=some p.2:=by
 obtain⟨b,Z,e⟩:=List.mem_filterMap.mp hp
 cases q:h.get? b with
 |none=>rw[q] at e;cases e
 |some o =>
  rw[q] at e;have Y:(b,o)=p:=adw e;subst Y;exact⟨Z,q⟩
def Inv.pinned {π:List (ä×Obj)} {σ:St} {H:Hp} {s:Å} {fp:List ä} (I:Inv X π σ H s) (hf:∀b∈fp,dh X π H b) (ho:∀b∈fp,∃o,s.heap.get? b=some o/\∀v,o.data≠.cell v):Inv X (π++nV fp s.heap) σ H s :=
 I.mz λp W=>(ñ.mp W).elim (λz=>I.pin p (Ê _ z)) λz=>by
  obtain⟨Z,e⟩:=Iu z;obtain⟨f0,f1,f2,_⟩:=hf p.1 Z;obtain⟨o,Y,d⟩:=ho p.1 Z;rw[e] at Y;cases Y;exact⟨e,f0,f1,f2,d⟩
def Inv.ke {π pl:List (ä×Obj)} {σ:St} {H:Hp} {s:Å} (I:Inv X (π++pl) σ H s):Inv X π σ H s:=I.mz λp Z=>I.pin p (Ê _ (þ _ Z))
def Xa {iter:ľ} {body:List ado} {wi:TI} {g:TG} {tb:TS} {pos:Pos} (hp:PassesOwn (í X.prog X.w) X.A X.env X.xe) (hc:X.calm=true) (hi:PI X tg iter wi) (hg:PG X tg g) (hb:dj X body tb)
  (hs:∀x,ý iter X.env x=pure x:=by intro _;rfl):PS X (.For tg iter body [] pos) (M7 wi g tb):=by
 intro R s σ H D I h;refine wpAny_For (aJ (hi R s σ H _ I h) λv s1 l=>aJ l λgA s2 k=>?_) hs;obtain⟨it,Q,C,J,j,e,c,T,a,f2,W,⟨m0,w0⟩,turn⟩:=k;subst e;have stat:∀{U:Hp},(∀b∈Q,U b=none)->∀b∈Q,dh X R U b:=λhn b hb=>⟨hn b hb,(f2 b hb).2⟩;refine codeAny_forLoop_any (λn B=>∃i P U,Inv X R P U B/\C i B.heap/\(∀b∈Q,U b=none)/\W i n P U) ?_ m0 ⟨0,σ,j,c,a,λb hb=>(f2 b hb).1,w0⟩;intro n z zzz;obtain⟨i,O,L,y,t,q,w3⟩:=zzz
 rcases turn i n O L w3 with ⟨stop,qn⟩ | ⟨go,N,hN,step⟩
 ·refine ž hp (aJ (T.done X rfl rfl rfl hc i R z O L X.xe y (stat q) t stop) λr s4 ⟨K,I4⟩=>?_)
  subst K;exact acV ⟨O,L,I4,qn⟩
 ·refine ž hp (aJ (T.item X rfl rfl rfl hc i R z O L X.xe y (stat q) t go) λr s4 ⟨u,K,h4⟩=>?_)
  subst K;refine ž hp (aJ h4 λ_ s5 ⟨x,p,I5,r5,y5,G,wx⟩=>?_);have wy:=I5.pinned (stat wx) (T.obj _ _ G);refine ž hp (aJ (hg _ s5 O p x u _ wy r5 (step x p y5)) λ_ s6 ⟨F,H6,I6,q6⟩=>?_);refine ž hp (aJ (hb _ s6 F H6 _ I6 q6) λf E S=>?_);have again:∀{Z:St} {Y:Hp},Inv X (R++nV Q s5.heap) Z Y E->N Z Y->∃m,m<n/\∃i P U,Inv X R P U E/\C i E.heap/\(∀b∈Q,U b=none)/\W i m P U:=λ{Z Y} V M=>by
   obtain⟨m',hm,w7⟩:=hN Z Y M;refine⟨m',hm,i+1,Z,Y,V.ke,T.keep _ _ _ G λb hb o e=>(V.pin (b,o) (Ê _ (Ê _ (rm hb e)))).1,λb hb=>?_,w7⟩;obtain⟨o,e,d⟩:=T.obj _ _ G b hb;exact(V.pin (b,o) (Ê _ (Ê _ (rm hb e)))).2.1
  cases f with
  |next=>obtain⟨Z,Y,V,M⟩:=S;exact again V M
  |cont=>obtain⟨Z,Y,V,M⟩:=S;exact again V M
  |brk=>obtain⟨Z,Y,V,S⟩:=S;exact⟨Z,Y,V.ke,S⟩
  |ret v=>obtain⟨x7,Z,Y,V,r7,S⟩:=S;exact⟨x7,Z,Y,V.ke,r7,S⟩
end
noncomputable abbrev R2:=V->V->Hp->VK->Prop
def bp (X:Cx) (f:Ç->Ç->Sem Ç) (r:R2):Prop :=
 ∀(Z:List (ä×Obj)) (s:Å) (σ:St) (H:Hp) (x y:V) (v u:Ç) (Q:VK),Inv X Z σ H s->RelV x v->RelV y u->r x y H Q ->
  á (í X.prog X.w) X.A (f v u) (EP X Z σ Q) X.xe s
def wz (X:Cx) (f:Ç->Sem Ç) (r:V->Hp->VK->Prop):Prop :=
 ∀(Z:List (ä×Obj)) (s:Å) (σ:St) (H:Hp) (x:V) (v:Ç) (Q:VK),Inv X Z σ H s->RelV x v->r x H Q ->
  á (í X.prog X.w) X.A (f v) (EP X Z σ Q) X.xe s
def cT (X:Cx) (f:Ç) (r:List V->Hp->VK->Prop):Prop :=
 ∀(Z:List (ä×Obj)) (s:Å) (σ:St) (H:Hp) (Y:List V) (W:List Ç) (Q:VK),Inv X Z σ H s->Vals Y W->r Y H Q ->
  á (í X.prog X.w) X.A (call f W) (EP X Z σ Q) X.xe s
def aai (X:Cx) (r:V->Hp->(Bool->Hp->Prop)->Prop):Prop :=
 ∀(Z:List (ä×Obj)) (s:Å) (σ:St) (H:Hp) (x:V) (v:Ç) (Q:Bool->Hp->Prop),Inv X Z σ H s->RelV x v->r x H Q ->
  á (í X.prog X.w) X.A (truthy v) (TP X Z σ Q) X.xe s
def wA (r:R2) (ta tb:TE):TE:=fun σ H Q=>ta σ H λx Z=>tb σ Z λy Y=>r x y Y Q
def tUn (r:V->Hp->VK->Prop) (ta:TE):TE:=fun σ H Q=>ta σ H λx Z=>r x Z Q
def rI (C:Int->Int->Prop) (g:Int->Int->V):R2:=λx y H Q=>∃i j,x=.int i/\y=.int j/\C i j/\Q (g i j) H
def qt (g:Int->Int->V):R2:=λx y H Q=>∃i j,x=.int i/\y=.int j/\Q (g i j) H
def rU (g:Int->V):V->Hp->VK->Prop:=λx H Q=>∃i,x=.int i/\Q (g i) H
section
variable {X:Cx} {a b c:ľ} {ta tb tc:TE} {pos:Pos}
def Es (ha:PE X a ta) (hb:PE X b tb) {π:List (ä×Obj)} {s:Å} {σ:St} {H:Hp} {R:V->V->Hp->Prop} (I:Inv X π σ H s)
  (h:ta σ H λx H1=>tb σ H1 λy H2=>R x y H2) {Q:Ç->Å->Prop} {f:Ç->Ç->Sem Ç}
  (hf:∀v u s2 x y H2,Inv X π σ H2 s2->RelV x v->RelV y u->R x y H2->á (í X.prog X.w) X.A (f v u) Q X.xe s2) :
  á (í X.prog X.w) X.A (ţ a X.env) (λv bo=>á (í X.prog X.w) X.A (ţ b X.env) (λu jW=>á (í X.prog X.w) X.A (f v u) Q X.xe jW) X.xe bo) X.xe s:=by
 refine aJ (ha π s σ H _ I h) λv Z ⟨x,H1,Y,W,U⟩=>?_;refine aJ (hb π Z σ H1 _ Y U) λu s2 ⟨y,H2,T,S,P⟩=>?_;exact hf v u s2 x y H2 T W S P
def YO (ho:bp X (ś op) r) (ha:PE X a ta) (hb:PE X b tb):PE X (.BinOp a op b pos) (wA r ta tb):=by
 intro Z s σ H Q I h;exact wpAny_BinOp (Es ha hb I h λv u Y x y W V U T q=>ho Z Y σ W x y v u Q V U T q)
def YQ {op:UnaryOp} {r:V->Hp->VK->Prop} (ho:wz X (unaryOp op) r) (ha:PE X a ta):PE X (.UnaryOp op a pos) (tUn r ta):=by
 intro Z s σ H Q I h;exact UnaryOp_ (aJ (ha Z s σ H _ I h) λv Y ⟨x,W,U,T,S⟩=>ho Z Y σ W x v Q U T S)
def Aa {C:Int->Int->Prop} {g:Int->Int->Int}
 (rule:∀(i j:Int) (t u:Tok) (s:Å) (Q:Ç->Å->Prop) (E:Ç->Å->Prop),C i j->Q (.int (g i j) s.toks) { s with toks:=s.toks+1 }->á (í X.prog X.w) X.A (f (.int i t) (.int j u)) Q E s) :
  bp X f (rI C λi j=>.int (g i j)):=by
 intro U s σ H x y v u Q I Z Y h;obtain⟨i,j,rfl,rfl,W,q⟩:=h;obtain⟨t,rfl⟩:=Z;obtain⟨V,rfl⟩:=Y;exact rule i j t V s _ _ W ⟨.int (g i j),H,I.tok _,⟨_,rfl⟩,q⟩
def M8 {g:Int->Int->Int}
 (rule:∀(i j:Int) (t u:Tok) (s:Å) (Q:Ç->Å->Prop) (E:Ç->Å->Prop),Q (.int (g i j) s.toks) { s with toks:=s.toks+1 }->á (í X.prog X.w) X.A (f (.int i t) (.int j u)) Q E s) :
  bp X f (qt λi j=>.int (g i j)):=by
 intro V s σ H x y v u Q I Z Y h;obtain⟨i,j,rfl,rfl,q⟩:=h;obtain⟨t,rfl⟩:=Z;obtain⟨W,rfl⟩:=Y;exact rule i j t W s _ _ ⟨.int (g i j),H,I.tok _,⟨_,rfl⟩,q⟩
def Et {g:Int->Int->Bool}
 (rule:∀(i j:Int) (t u:Tok) (s:Å) (Q:Ç->Å->Prop) (E:Ç->Å->Prop),Q (.bool (g i j)) s->á (í X.prog X.w) X.A (f (.int i t) (.int j u)) Q E s) :
  bp X f (qt λi j=>.bl (g i j)):=by
 intro V s σ H x y v u Q I Z Y h;obtain⟨i,j,rfl,rfl,q⟩:=h;obtain⟨t,rfl⟩:=Z;obtain⟨W,rfl⟩:=Y;exact rule i j t W s _ _ ⟨.bl (g i j),H,I,rfl,q⟩
def aaj (i j:Int):Prop:=0<j/\j<1073741824
def aak (i j:Int):Prop:=0<=j/\j<=1000000/\i.natAbs<2 ^ 64
def zA (i j:Int):Prop:=(-(2 ^ 64)<i/\i<2 ^ 64)\/(-(2 ^ 64)<j/\j<2 ^ 64)
def zA.ok (h:zA i j):IntMulOk i j:=by
 rcases h with ⟨Z,Y⟩ | ⟨Z,Y⟩
 ·exact .of_left (intBits_le_64 Z Y)
 ·exact .of_right (intBits_le_64 Z Y)
def Xb:bp X (ś .Add) (qt λi j=>.int (i+j)):=M8 λ_ _ _ _ _ _ _ q=>add_int q
def Xc:bp X (ś .Sub) (qt λi j=>.int (i-j)):=M8 λ_ _ _ _ _ _ _ q=>sub_int q
def Xd:bp X (ś .Mult) (rI zA λi j=>.int (i*j)):=Aa λ_ _ _ _ _ _ _ Z q=>mul_int q Z.ok
def U5:bp X (ś .FloorDiv) (rI aaj λi j=>.int (i / j)):=Aa λi j _ _ _ _ _ Z q=>by
 have Y:(0:Int)<j:=Z.1;have W:j<1073741824:=Z.2;exact floordiv_int (by omega) (by rw[Int.fdiv_eq_ediv_of_nonneg i (by omega)];exact q) (.inl (PyProof.noPylong_small (by omega)))
def Xe:bp X (ś .Mod) (rI (λ_ j=>0<j) λi j=>.int (i % j)):=Aa λi j _ _ _ _ _ Z q=>by
 have Y:(0:Int)<j:=Z;exact mod_int' (by omega) (by rw[Int.fmod_eq_emod_of_nonneg i (by omega)];exact q)
def Xf:bp X (ś .Pow) (rI aak λi j=>.int (i ^ j.toNat)):=Aa λ_ _ _ _ _ _ _ Z q=>pow_int_small Z.1 Z.2.1 Z.2.2 q
def unI {g:Int->Int}
 (rule:∀(i:Int) (t:Tok) (s:Å) (Q:Ç->Å->Prop) (E:Ç->Å->Prop),Q (.int (g i) s.toks) { s with toks:=s.toks+1 }->á (í X.prog X.w) X.A (f (.int i t)) Q E s) :
  wz X f (rU λi=>.int (g i)):=by
 intro Y s σ H x v Q I Z h;obtain⟨i,rfl,q⟩:=h;obtain⟨t,rfl⟩:=Z;exact rule i t s _ _ ⟨.int (g i),H,I.tok _,⟨_,rfl⟩,q⟩
def Xg:wz X (unaryOp .USub) (rU λi=>.int (-i)):=unI λ_ _ _ _ _ q=>neg_int q
end
noncomputable def Eu:V->V->Bool
 | .ax,.ax=>true | .ax,.int _=>true | .int _,.ax=>true | .ax,.bl _=>true | .bl _,.ax=>true | .ax,.str _=>true | .str _,.ax=>true
 | .int _,.int _=>true | .bl _,.bl _=>true | .str _,.str _=>true | .iW _,.iW _=>true
 | .int _,.str _=>true | .str _,.int _=>true | .bl _,.str _=>true | .str _,.bl _=>true
 |_,_=>false
def rEq:R2:=λx y H Q=>Eu x y=true/\Q (.bl (decide (x=y))) H
def rNe:R2:=λx y H Q=>Eu x y=true/\Q (.bl (!decide (x=y))) H
def J6:decide (V.int i=V.int j)=(i==j):=by
 rw[ň];simp
def Lp:decide (V.bl i=V.bl j)=(i==j):=by
 rw[ň];simp
def BW:decide (V.str i=V.str j)=(i==j):=by
 rw[ň];simp
def J7:decide (V.iW i=V.iW j)=(i.toList==j.toList):=by
 rw[ň];cases i;cases j;simp
section
variable {X:Cx} {a b c:ľ} {ta tb tc:TE} {pos:Pos}
def cG {π:List (ä×Obj)} {σ:St} {H:Hp} {s:Å} {Q:VK} {k k':Bool} (I:Inv X π σ H s) (q:Q (.bl k) H) (e:k=k'):EP X π σ Q (.bool k') s:=by
 subst e;exact⟨.bl k,H,I,rfl,q⟩
def YR:bp X (ě .Eq) rEq:=by
 intro U s σ H x y v u Q I V Z h;obtain⟨hs,q⟩:=h
 cases x with
 |ax =>
  cases V
  cases y with
  |ax=>cases Z;exact PySem.EqNone.eq_none_none (cG I q (by simp))
  |bl j=>cases Z;exact PySem.EqNone.eq_none_bool (cG I q (by simp))
  |int j=>obtain⟨Y,rfl⟩:=Z;exact PySem.EqNone.eq_none_int (cG I q (by simp))
  |str j=>obtain⟨Y,rfl⟩:=Z;exact PySem.EqNone.eq_none_str (cG I q (by simp))
  |_=>exact absurd (show false=true from hs) Ö
 |bl i =>
  cases V
  cases y with
  |ax=>cases Z;exact PySem.EqNone.eq_bool_none (cG I q (by simp))
  |bl j=>cases Z;exact eq_bool (cG I q Lp)
  |str j=>obtain⟨Y,rfl⟩:=Z;exact PySem.EqMixed.eq_bool_str (cG I q (by simp))
  |_=>exact absurd (show false=true from hs) Ö
 |int i =>
  obtain⟨t,rfl⟩:=V
  cases y with
  |ax=>cases Z;exact PySem.EqNone.eq_int_none (cG I q (by simp))
  |int j=>obtain⟨Y,rfl⟩:=Z;exact eq_int (cG I q J6)
  |str j=>obtain⟨Y,rfl⟩:=Z;exact PySem.EqMixed.eq_int_str (cG I q (by simp))
  |_=>exact absurd (show false=true from hs) Ö
 |str i =>
  obtain⟨t,rfl⟩:=V
  cases y with
  |ax=>cases Z;exact PySem.EqNone.eq_str_none (cG I q (by simp))
  |bl j=>cases Z;exact PySem.EqMixed.eq_str_bool (cG I q (by simp))
  |int j=>obtain⟨Y,rfl⟩:=Z;exact PySem.EqMixed.eq_str_int (cG I q (by simp))
  |str j=>obtain⟨Y,rfl⟩:=Z;exact eq_str (cG I q BW)
  |_=>exact absurd (show false=true from hs) Ö
 |iW i =>
  obtain⟨t,rfl⟩:=V
  cases y with
  |iW j=>obtain⟨Y,rfl⟩:=Z;exact PySem.W.eq_bytes (cG I q J7)
  |_=>exact absurd (show false=true from hs) Ö
 |_=>cases y<;>exact absurd (show false=true from hs) Ö
def YS:bp X (ě .NotEq) rNe:=by
 intro U s σ H x y v u Q I V Z h;obtain⟨hs,q⟩:=h
 cases x with
 |ax =>
  cases V
  cases y with
  |ax=>cases Z;exact PySem.EqNone.ne_none_none (cG I q (by simp))
  |bl j=>cases Z;exact PySem.EqNone.ne_none_bool (cG I q (by simp))
  |int j=>obtain⟨Y,rfl⟩:=Z;exact PySem.EqNone.ne_none_int (cG I q (by simp))
  |str j=>obtain⟨Y,rfl⟩:=Z;exact PySem.EqNone.ne_none_str (cG I q (by simp))
  |_=>exact absurd (show false=true from hs) Ö
 |bl i =>
  cases V
  cases y with
  |ax=>cases Z;exact PySem.EqNone.ne_bool_none (cG I q (by simp))
  |bl j=>cases Z;exact ne_bool (cG I q (Ķ not Lp))
  |str j=>obtain⟨Y,rfl⟩:=Z;exact PySem.EqMixed.ne_bool_str (cG I q (by simp))
  |_=>exact absurd (show false=true from hs) Ö
 |int i =>
  obtain⟨t,rfl⟩:=V
  cases y with
  |ax=>cases Z;exact PySem.EqNone.ne_int_none (cG I q (by simp))
  |int j=>obtain⟨Y,rfl⟩:=Z;exact ne_int (cG I q (Ķ not J6))
  |str j=>obtain⟨Y,rfl⟩:=Z;exact PySem.EqMixed.ne_int_str (cG I q (by simp))
  |_=>exact absurd (show false=true from hs) Ö
 |str i =>
  obtain⟨t,rfl⟩:=V
  cases y with
  |ax=>cases Z;exact PySem.EqNone.ne_str_none (cG I q (by simp))
  |bl j=>cases Z;exact PySem.EqMixed.ne_str_bool (cG I q (by simp))
  |int j=>obtain⟨Y,rfl⟩:=Z;exact PySem.EqMixed.ne_str_int (cG I q (by simp))
  |str j=>obtain⟨Y,rfl⟩:=Z;exact ne_str (cG I q (Ķ not BW))
  |_=>exact absurd (show false=true from hs) Ö
 |iW i =>
  obtain⟨t,rfl⟩:=V
  cases y with
  |iW j=>obtain⟨Y,rfl⟩:=Z;exact PySem.W.ne_bytes (cG I q (Ķ not J7))
  |_=>exact absurd (show false=true from hs) Ö
 |_=>cases y<;>exact absurd (show false=true from hs) Ö
def YT:bp X (ě .LtE) (qt λi j=>.bl (decide (i<=j))):=Et λ_ _ _ _ _ _ _ q=>le_int q
def YU:bp X (ě .Gt) (qt λi j=>.bl (decide (j<i))):=Et λ_ _ _ _ _ _ _ q=>gt_int q
def YV:bp X (ě .GtE) (qt λi j=>.bl (decide (j<=i))):=Et λ_ _ _ _ _ _ _ q=>ge_int q
def bF (b:ľ) (h:op≠.In:=by decide) (h2:op≠.NotIn:=by decide):ab0 op b=false:=by
 have e1:(op==CmpOp.In)=false:=by cases op<;>first|rfl|exact absurd rfl h
 have e2:(op==CmpOp.NotIn)=false:=by cases op<;>first|rfl|exact absurd rfl h2
 cases b<;>simp[ab0,e1,e2]
def U6 (ho:bp X (ě op) r) (ha:PE X a ta) (hb:PE X b tb) (hm:ab0 op b=false):PE X (.Compare a [op] [b] pos) (wA r ta tb):=by
 intro Z s σ H Q I h;exact wpAny_Compare1 (Es ha hb I h λv u Y x y W V U T q=>ho Z Y σ W x y v u Q V U T q) hm
def zh (t:TE):TT:=fun σ H Q=>t σ H λx Z=>∃k,x=.bl k/\Q k Z
def U7 {op:CmpOp} {r:R2} (ho:bp X (ě op) r) (ha:PE X a ta) (hb:PE X b tb) (hm:ab0 op b=false):PT X (.Compare a [op] [b] pos) (zh (wA r ta tb)):=by
 intro Z s σ H Q I h;refine wpAny_isTrue_Compare1 (aJ (ha Z s σ H _ I h) λv Y ⟨x,W,V,U,T⟩=>aJ (hb Z Y σ W _ V T) λu S ⟨y,R,P,O,N⟩ =>
  aJ (ho Z S σ R x y v u _ P U O N) λc G ⟨z,M,L,K,k,e,J⟩=>?_) hm
 subst e;cases K;exact ŗ ⟨M,L,J⟩
def Lq (r r':R2) (ta tb tc:TE):TE:=fun σ H Q=>ta σ H λx Y=>tb σ Y λy X=>r x y X λz Z=>∃k,z=.bl k /\
 (if k=true then tc σ Z λW V=>r' y W V Q else Q (.bl false) Z)
def Tc {op tG:CmpOp} {r r':R2} (ho:bp X (ě op) r) (gw:bp X (ě tG) r') (ha:PE X a ta) (hb:PE X b tb) (hc:PE X c tc)
  (hm:lastMarks [op,tG] [b,c]=false:=by with_unfolding_all rfl):PE X (.Compare a [op,tG] [b,c] pos) (Lq r r' ta tb tc):=by
 intro Z s σ H Q I h;refine Compare_chain (aJ (ha Z s σ H _ I h) λv T ⟨x,S,R,P,O⟩=>chain_link (aJ (hb Z T σ S _ R O) λu N ⟨y,M,L,Y,K⟩ =>
  aJ (ho Z N σ M x y v u _ L P Y K) λd J ⟨z,W,V,G,k,e,U⟩=>?_)) hm
 subst e;cases G;refine ŗ ?_
 cases k with
 |false=>exact ite_ff ⟨.bl false,W,V,rfl,U⟩
 |true=>exact ite_tt (chain_last (aJ (hc Z J σ W _ V U) λF E ⟨D,C,B,A,w⟩=>gw Z E σ C y D u F Q B Y A w))
def pX (K:ĥ) (x:V) (H:Hp) (k:Bool):Prop :=
 match x with
 | .ax=>k=false
 | .bl b=>k=b
 | .int i=>k=(i != 0)
 | .str y=>y.length<=Ø/\k=((y.length:Int) != 0)
 | .iW y=>y.size<=Ø/\k=((y.size:Int) != 0)
 | .ref p=>(∃Z,bh K H p Z/\k=!Z.isEmpty)\/(∃Z,bz K H p Z/\k=!Z.isEmpty)\/∃Y,H p=some (.dK Y)/\k=!Y.isEmpty
 |_=>False
def Qw {κ:Type} {aj:List (κ×V)} {vs:List (κ×Ç)} (r:KV aj vs):(!vs.isEmpty)=!aj.isEmpty:=by
 cases r<;>rfl
def HX (r:Vals xs its):(!its.toArray.isEmpty)=!xs.isEmpty:=by
 cases r<;>simp
def pB:(Ø:Nat)<2 ^ 63:=by rw[Ÿ];decide
def Lr:aai X (λx H Q=>∃k,pX X.K x H k/\Q k H):=by
 intro J s σ H x v Q I U h;obtain⟨k,e,q⟩:=h;have G:=pB;have hs:Ø=16777216:=Ÿ
 cases x with
 |ax =>
  cases U;have Z:k=false:=e;subst Z;exact truthy_none ⟨H,I,q⟩
 |bl b =>
  cases U;have Z:k=b:=e;subst Z;exact ŗ ⟨H,I,q⟩
 |int i =>
  obtain⟨t,rfl⟩:=U;have Z:k=(i != 0):=e;subst Z;exact PySem.P.truthy_int ⟨H,I,q⟩
 |str y =>
  obtain⟨t,rfl⟩:=U;obtain⟨M,Z⟩:y.length<=Ø/\k=((y.length:Int) != 0):=e;subst Z;exact PySem.P.truthy_str (by omega) ⟨H,I.tok _,q⟩
 |iW y =>
  obtain⟨t,rfl⟩:=U;obtain⟨M,Z⟩:y.size<=Ø/\k=((y.size:Int) != 0):=e;subst Z;exact PySem.W.truthy_bytes (by omega) ⟨H,I.tok _,q⟩
 |ref p =>
  cases U;have Z:(∃V,bh X.K H p V/\k=!V.isEmpty)\/(∃V,bz X.K H p V/\k=!V.isEmpty)\/∃T,H p=some (.dK T)/\k=!T.isEmpty:=e
  rcases Z with ⟨V,S,Z⟩ | ⟨V,S,Z⟩ | ⟨T,S,Z⟩
  ·subst Z
   obtain⟨its,r,O,N⟩:=I.list S;have Y:=r.length;exact wpAny_truthy_list O.isList (by simp only[Û];omega) ⟨H,I.tok _,by rw[HX r];exact q⟩
  ·subst Z
   obtain⟨its,r,O,N⟩:=I.tuple S;have Y:=r.length;exact truthy_tuple O (by simp only[Û];omega) ⟨H,I.tok _,by rw[HX r];exact q⟩
  ·subst Z
   obtain⟨N,L,R,r,m⟩:T.length<=Ø/\(p==Ŧ)=false/\∃R,KV T R/\s.heap.DictOf (dU X.prog X.w) p R:=I.aE p _ S;have Y:T.length=R.length:=Paired.length r;exact wpAny_truthy_dict L m (by omega) ⟨H,I.tok _,by rw[Qw r];exact q⟩
 |_=>exact(show False from e).elim
def Td (ha:PE X a ta) (he:∀whole,isTrue a X.env whole=(do let v <- whole;abO a.pos;abj [v] (truthy v))) :
  PT X a (fun σ H Q=>ta σ H λx H'=>∃k,pX X.K x H' k/\Q k H'):=by
 intro Z s σ H Q I h;exact isTrue_plain (aJ (ha Z s σ H _ I h) λv Y ⟨x,W,V,U,T⟩=>Lr Z Y σ W x v Q V U T) (he _)
def Qx:bp X (ś .Add) (λx y H Q=>∃i j,x=.str i/\y=.str j/\i.length+j.length<=Ø/\Q (.str (i++j)) H):=by
 intro U s σ H x y v u Q I Z Y h;obtain⟨i,j,rfl,rfl,W,q⟩:=h;obtain⟨t,rfl⟩:=Z;obtain⟨V,rfl⟩:=Y;exact add_str (λV T=>⟨.str (i++j),H,I.tok _,⟨_,rfl⟩,q⟩) W
def vals1 (r:Vals [x] us):∃u,us=[u]/\RelV x u:=by
 cases r with
 |cons Z Y=>cases Y;exact⟨_,rfl,Z⟩
def vals2 (r:Vals [x,y] us):∃u w',us=[u,w']/\RelV x u/\RelV y w':=by
 cases r with
 |cons Z Y =>
  cases Y with
  |cons X W=>cases W;exact⟨_,_,rfl,Z,X⟩
end
structure pY (h:œ) (x dx C:ä) (mA:Str->Option Ç):Prop where
 obj:h.get? x=some (Ũ C dx)
 ns:h.Ns1 dx mA
 ne:dx≠x
def RG {h:œ} {dx:ä} {mA:Str->Option Ç} (n:h.Ns1 dx mA):∃od,h.get? dx=some od/\∀name,acy name od=some (mA name):=by
 obtain⟨o,Y,R,X,W,V,_,U⟩:=n;refine⟨o,X,λname=>?_⟩;have e:=U name;unfold nsFind findBy at e;rw[<- Array.find?_toList] at e;unfold acy;rw[W];dsimp only;split
 ·rename_i y q
  rw[q] at e;exact Ķ some e
 ·rename_i q
  rw[q] at e;have a:Y.toList.any (·.refKey)=false:=by
   rw[abx];intro y T;obtain⟨z,t,Z⟩:=V y (Array.mem_toList_iff.mp T);simp[DictEntry.refKey,Z]
  have S:¬ Y.toList.any (·.refKey)=true:=by rw[a];exact Ö
  rw[å S];exact Ķ some e
def pY.look (I:pY h x dx C mA):∃od,PySem.W.InstAt h x (Ũ C dx) C (some od)/\∀name,acy name od=some (mA name) :=
 let ⟨od,Z,Y⟩:=RG I.ns
 ⟨od,⟨I.obj,rfl,rfl,Z⟩,Y⟩
section
variable {prog:ó} {w:Ĕ} {A:Ĉ} {E:Ç->Å->Prop} {s:Å} {K:ĥ} {x dx C f:ä} {mA:Str->Option Ç} {name:Str} {v:Ç}
def get_map (X:K.In s.heap) (I:pY s.heap x dx C mA) (hg:acK K C name=true) (hh:adh K C=true)
 (ha:Ő K (.ref C) name=some none) (hv:mA name=some v) (oB:PySem.W.handedIn v=true) (h:Q v { s with toks:=s.toks+1 }) :
  á (í prog w) A (getAttr (.ref x) name expr) Q E s:=by
 obtain⟨Y,J,Z⟩:=I.look;exact PySem.W.get_value X J (acX hg).1 (PySem.W.findObj_own hh ha rfl (by rw[Z,hv])) oB h
def Te (X:K.In s.heap) (I:pY s.heap x dx C mA) (hg:acK K C name=true)
 (hf:Ő K (.ref C) name=some (some (.ref f))) (ht:PySem.W.isFn K (.ref f)=true) (hv:mA name=none) (h:Q (.ref f,[.ref x]) s) :
  á (í prog w) A (getMethod (.ref x) name pl) Q E s:=by
 obtain⟨Z,J,Y⟩:=I.look;exact PySem.W.method_fn X J (acX hg).1 (acX hg).2 hf (beq_iff_eq.mp ht) (by show (acy name Z).map (·.isSome)=some false;rw[Y,hv];rfl) h
def U8 (X:K.In s.heap) (I:pY s.heap x dx C mA)
 (hs:Ő K (.ref C) "__setattr__"=some (some (.builtin "object.__setattr__"))) (hp:PySem.W.plainOver K C=true) (ht:PySem.W.takerIn K C name=some none) (hh:adh K C=true)
 (hw:PySem.Within mA ns) (hsz:ns.length<=Ø)
 (h:∀h',pY h' x dx C (λy=>if y=name then some v else mA y)->ń dx s.heap h'->Q () { s with heap:=h',toks:=s.toks+2 }) :
  á (í prog w) A (setAttr (.ref x) name v) Q E s:=by
 obtain⟨M,J,L⟩:=I.look
 refine PySem.W.set_plain X J hs (PySem.W.osa_open (s:={ s with toks:=s.toks+1 }) (r:=none) X J hp ht λb=>?_)
 obtain⟨cd,S,R⟩:=PySem.W.any_some hh;have P:s.heap.get? x=some ⟨.ref C,some dx,.plain,#[]⟩:=I.obj
 refine À (Ä (À (À (wpAny_loadPart P (À (PySem.W.Looks.here (s:={ s with toks:=s.toks+1 }) (PySem.W.looks_clsIn X S) ?_))))))
 rw[R];refine Ä (a:=some dx) (À (Ä (À ?_)))
 refine wpAny_nsSet1 (s:={ s with toks:=s.toks+1 }) I.ns λh' U T=>?_
 obtain⟨H,O,N,Z,Y,V⟩:=U.count (PySem.Within.cons name v hw);refine À (wpAny_lookBehind Z (by rw[Y];exact pastItsLine_dict (Ú V (by rw[ê];omega))) ?_);exact Ä (h _ ⟨(T.2 _ (ŕ I.ne)).trans I.obj,U,I.ne⟩ T)
def Tf (X:K.In s.heap) (hm:PySem.W.makesIn K C=true)
 (hi:Ő K (.ref C) "__init__"=some (some (.ref f))) (hf:PySem.W.typeIn K (.ref f)=some (.type "function"))
 (h:Ź (í prog w) (A.under (.builtin "type.__call__" ⟨.ref C::vs,kw⟩)) (.call (.ref f) ⟨.ref (s.heap.objs.size+1)::vs,kw⟩) (PySem.W.InitBack (s.heap.objs.size+1) R)
 { s with heap:=(s.heap.push ō).push (Ũ C s.heap.objs.size) }) :
  Ź (í prog w) A (.call (.ref C) ⟨vs,kw⟩) R s:=by
 obtain⟨Z,g,d,t,os⟩:=s;exact PySem.W.make_core (PySem.W.makes_of X hm) (PySem.W.looks_findIn X hi) (λself=>PySem.W.bind_fn X self hf) (.inl rfl) h
end
noncomputable def fq (f:Str) (v:V):List (Str×V)->List (Str×V)
 | []=>[(f,v)]
 |(g,x)::r=>if g=f then (g,v)::r else (g,x)::fq f v r
theorem HK (f g:Str) (v:V):∀fs:List (Str×V),(fq f v fs).lookup g=if g=f then some v else fs.lookup g
 | []=>by
  show abP g [(f,v)]=_;by_cases h:g=f
  ·have Z:(g==f)=true:=beq_iff_eq.mpr h
   simp only[abP,Z,Þ h]
  ·have Z:(g==f)=false:=beq_eq_false_iff_ne.mpr h
   simp only[abP,Z,å h]
 |(k,x)::r=>by
  have ih:=HK f g v r
  rw[show fq f v ((k,x)::r)=(if k=f then (k,v)::r else (k,x)::fq f v r) from rfl]
  by_cases Y:k=f
  ·rw[Þ Y]
   by_cases h:g=k
   ·have Z:(g==k)=true:=beq_iff_eq.mpr h
    simp only[abP,Z,Þ (h.trans Y)]
   ·have Z:(g==k)=false:=beq_eq_false_iff_ne.mpr h
    simp only[abP,Z,å (λe:g=f=>h (e.trans Y.symm))]
  ·rw[å Y]
   by_cases h:g=k
   ·have Z:(g==k)=true:=beq_iff_eq.mpr h
    simp only[abP,Z,å (λe:g=f=>Y (h.symm.trans e))]
   ·have Z:(g==k)=false:=beq_eq_false_iff_ne.mpr h
    simp only[abP,Z];exact ih
theorem Bb (f:Str) (v:V):∀fs:List (Str×V),f∈(fq f v fs).map (·.1)/\∀g,g∈fs.map (·.1)->g∈(fq f v fs).map (·.1)
 | []=>⟨by simp[fq],λg h=>by simp at h⟩
 |(k,x)::r=>by
  obtain⟨Y,X⟩:=Bb f v r
  rw[show fq f v ((k,x)::r)=(if k=f then (k,v)::r else (k,x)::fq f v r) from rfl]
  by_cases Z:k=f
  ·rw[Þ Z]
   subst Z;exact⟨by simp,λg h=>by simpa using h⟩
  ·rw[å Z]
   refine⟨?_,λg h=>?_⟩
   ·rw[Î]
    exact Ò _ Y
   ·rw[Î] at h |-
    rcases É.mp h with e|e
    ·exact É.mpr (.inl e)
    ·exact Ò _ (X g e)
theorem HL (f:Str) (v:V):∀fs:List (Str×V),(fq f v fs).length<=fs.length+1
 | []=>by simp[fq]
 |(k,x)::r=>by
  have ih:=HL f v r
  rw[show fq f v ((k,x)::r)=(if k=f then (k,v)::r else (k,x)::fq f v r) from rfl]
  by_cases Z:k=f
  ·rw[Þ Z,ê,ê];omega
  ·rw[å Z,ê,ê];omega
def hV.some_of (r:hV (some v) o):∃u,o=some u/\RelV v u:=by
 cases o with
 |none=>exact(show False from r).elim
 |some u=>exact⟨u,rfl,r⟩
def hV.none_of (r:hV none o):o=none:=by
 cases o with
 |none=>rfl
 |some u=>exact(show False from r).elim
def RH (r:RelV v u):PySem.W.handedIn u=true:=by
 cases v with
 |ax=>cases (show u=Value.none from r);rfl
 |bl b=>cases (show u=Value.bool b from r);rfl
 |int i=>obtain⟨t,e⟩:=(show ∃t,u=acD i t from r);cases e;rfl
 |str x=>obtain⟨t,e⟩:=(show ∃t,u=Value.str x t from r);cases e;rfl
 |iW b=>obtain⟨t,e⟩:=(show ∃t,u=Value.bytes b t from r);cases e;rfl
 |tw b=>obtain⟨t,e⟩:=(show ∃t,u=Value.float b t from r);cases e;rfl
 |ref a=>cases (show u=Ł a from r);rfl
 |ty n=>cases (show u=Ŗ n from r);rfl
section
variable {P:ó} {w:Ĕ} {H H':Hp} {h h':œ} {a C dx:ä} {fs fs':List (Str×V)}
def BX (aE:bT P w H h) (e:H a=some (.ins C dx fs)):∃mA,pY h a dx C mA/\(∀f,hV (fs.lookup f) (mA f))/\PySem.Within mA (fs.map (·.1))/\fs.length<=1000/\H dx=some (.own a):=by
 obtain⟨d,z,ne,Z,mA,n,r,q⟩:=(show cR P w H h a (.ins C dx fs) from aE a _ e);exact⟨mA,⟨Z,n,ne⟩,r,q,z,d⟩
end
structure jz (K:ĥ) (C:ä):Prop where
 pg:acK K C Str.empty=true
 hd:adh K C=true
 po:PySem.W.plainOver K C=true
 sa:Ő K (.ref C) "__setattr__"=some (some (.builtin "object.__setattr__"))
def jz.get {K:ĥ} {C:ä} (c:jz K C) (f:Str):acK K C f=true:=c.pg
def mG (K:ĥ) (C:ä) (f:Str):Prop:=Ő K (.ref C) f=some none
def mG.YW {K:ĥ} {C:ä} {f:Str} (n:mG K C f):PySem.W.takerIn K C f=some none:=by
 unfold PySem.W.takerIn;rw[show Ő K (.ref C) f=some none from n];rfl
structure Con (K:ĥ) (C:ä) (f:Str) (v:V) (u:Ç):Prop where
 at_:Ő K (.ref C) f=some (some u)
 rel:RelV v u
 get:PySem.W.specialIn K u "__get__"=some none
 cp:PySem.W.copiedNames.contains f=false
structure Meth (K:ĥ) (C:ä) (m:Str) (f:ä):Prop where
 at_:Ő K (.ref C) m=some (some (.ref f))
 fn:PySem.W.isFn K (.ref f)=true
 kp:ź K (.ref f)=true
section
variable {X:Cx} {π:List (ä×Obj)} {σ:St} {H:Hp} {s:Å} {a C dx:ä} {fs:List (Str×V)} {f:Str} {v:V} {A:Ĉ} {E:Ç->Å->Prop}
def Qy (I:Inv X π σ H s) (e:H a=some (.ins C dx fs)) (c:jz X.K C) (n:mG X.K C f) (l:fs.lookup f=some v)
 (h:∀u s',Inv X π σ H s'->RelV v u->Q u s'):á (í X.prog X.w) A (getAttr (.ref a) f b) Q E s:=by
 obtain⟨Y,O,r,_,_,_⟩:=BX I.aE e;obtain⟨u,W,Z⟩:=hV.some_of (v:=v) (o:=Y f) (by rw[<- l];exact r f);exact get_map I.iX O (c.get f) c.hd n W (RH Z) (h u _ (I.tok _) Z)
def HY (I:Inv X π σ H s) (e:H a=some (.ins C dx fs)) (c:jz X.K C) (k:Meth X.K C m g) (l:fs.lookup m=none)
 (h:Q (.ref g,[.ref a]) s):á (í X.prog X.w) A (getMethod (.ref a) m pl) Q E s:=by
 obtain⟨Z,O,r,_,_,_⟩:=BX I.aE e;have Y:Z m=none:=hV.none_of (by rw[<- l];exact r m);exact Te I.iX O (c.get m) k.at_ k.fn Y h
def Qz (I:Inv X π σ H s) (e:H a=some (.ins C dx fs)) (c:jz X.K C) (n:mG X.K C f) (hl:fs.length<1000) (ry:RelV y u)
 (h:∀s',Inv X π σ (upd H a (.ins C dx (fq f y fs))) s'->Q () s'):á (í X.prog X.w) A (setAttr (.ref a) f u) Q E s:=by
 obtain⟨Y,O,r,W,_,V⟩:=BX I.aE e;have U:(fs.map (·.1)).length<=Ø:=by rw[Â,Ÿ];omega
 refine U8 I.iX O c.sa c.po n.YW c.hd W U λT Z S=>h _ ?_
 have hd:∃o,T.get? dx=some o:=let ⟨o,_,_,R,_⟩:=Z.ns;⟨o,R⟩
 refine I.write (x:=a) (e:=dx) (by rw[e];exact adi) (.inr V) (λb q P z=>(S.2 b P).trans z) hd ?_;refine⟨by rw[bu O.ne];exact V,?_,O.ne,Z.obj,_,Z.ns,λg=>?_,λg N=>?_⟩
 ·have:=HL f y fs;omega
 ·show hV ((fq f y fs).lookup g) (if g=f then some u else Y g)
  rw[HK];by_cases q:g=f
  ·rw[Þ q,Þ q];exact ry
  ·rw[å q,å q];exact r g
 ·by_cases q:g=f
  ·rw[q];exact(Bb f y fs).1
  ·refine(Bb f y fs).2 g (W g λz=>N ?_)
   show (if g=f then some u else Y g)=none
   rw[å q];exact z
def Inv.made (I:Inv X π σ H s):Inv X π σ (upd (upd H s.heap.objs.size (.own (s.heap.objs.size+1))) (s.heap.objs.size+1) (.ins C s.heap.objs.size []))
  { s with heap:=(s.heap.push ō).push (Ũ C s.heap.objs.size) }:=by
 have e1:(s.heap.push ō).get? s.heap.objs.size=some ō:=Ë s.heap rfl;have e2:((s.heap.push ō).push (Ũ C s.heap.objs.size)).get? (s.heap.objs.size+1)=some (Ũ C s.heap.objs.size):=by
  have:=Ë (s.heap.push ō) (o:=Ũ C s.heap.objs.size) rfl;rwa [û] at this
 have Z:(s.heap.push ō).Ns s.heap.objs.size (λ_=>none):=⟨ō,#[],_,e1,rfl,(λe Y=>absurd Y (by simp)),λ_=>rfl⟩;have W:=I.laid (a:=s.heap.objs.size) (o:=.own (s.heap.objs.size+1)) (h':=s.heap.push ō) (t':=s.toks) (λb u q=>Á _ q) (adv _) ⟨_,e1⟩;refine W.laid (a:=s.heap.objs.size+1) (o:=.ins C s.heap.objs.size []) (t':=s.toks) (λb u q=>Á _ q) (abk (û _ _)) ?_;have ne:s.heap.objs.size≠s.heap.objs.size+1:=à (ĉ _);refine⟨by rw[bu ne,cW],ü _,ne,e2,λ_=>none,(Heap.Ns1.of_empty Z).at λo q=>Á _ q,λ_=>adi,λy V=>absurd rfl V⟩
def U9 (hb:aby e f env (ţ e env)=ţ e env)
 (h:á (í prog w) A (ţ e env) (λo bo=>á (í prog w) A (getAttr o f true) Q E bo) E s):á (í prog w) A (ţ (.Attribute e f pos) env) Q E s :=
 Attribute_any_ h (by rw[arm_eval_Attribute,hb])
end
def aam (K:ĥ) (ta:TE) (f:Str):TE:=fun σ H Q=>ta σ H λx Z=>∃a C Y fs v,x=.ref a/\Z a=some (.ins C Y fs)/\jz K C/\mG K C f/\fs.lookup f=some v/\Q v Z
def aan (K:ĥ) (ta tv:TE) (f:Str):TS:=λD σ H=>tv σ H λy X=>ta σ X λx Z=>∃a C Y fs,x=.ref a/\Z a=some (.ins C Y fs)/\jz K C/\mG K C f/\fs.length<1000 /\
 D.nx σ (upd Z a (.ins C Y (fq f y fs)))
section
variable {X:Cx} {o e value:ľ} {f:Str} {pos pos' zB:Pos} {ta tv:TE}
def Xh (he:PE X e ta) (hb:aby e f X.env (ţ e X.env)=ţ e X.env):PE X (.Attribute e f pos) (aam X.K ta f):=by
 intro Z s σ H Q I h;refine U9 hb (aJ (he Z s σ H _ I h) λu R ⟨x,Y,W,V,a,C,P,fs,v,ex,U,c,n,l,q⟩=>?_);subst ex;obtain rfl:u=Ł a:=V;exact Qy W U c n l λO N T S=>⟨v,Y,T,S,q⟩
def Xi (ha:PE X o ta) (hv:PE X value tv) (hs:acW value (some (.Attribute o f pos')) pos.line X.env=pure false):PS X (.Assign [.Attribute o f pos'] value pos) (aan X.K ta tv f):=by
 intro Z s σ H D I h;refine plainObj_wpAny_Assign_Attribute (aJ (hv Z s σ H _ I h) λu Y ⟨y,W,V,U,q⟩=>aJ (ha Z Y σ W _ V q) λT N ⟨x,M,S,R,a,C,L,fs,ex,Q,c,n,l,P⟩=>?_) hs;subst ex;obtain rfl:T=Ł a:=R;exact Qz S Q c n l U λJ O=>⟨σ,_,O,P⟩
end
section
variable {X:Cx} {π:List (ä×Obj)} {σ:St} {H:Hp} {s:Å} {A:Ĉ} {E:Ç->Å->Prop} {Q:Ç->Å->Prop} {c:Ç} {b:Bool}
inductive kz (K:ĥ) (H:Hp):V->Ç->Prop where
 |ax:kz K H .ax (.type "NoneType")
 |bl (x:Bool):kz K H (.bl x) (.type "bool")
 |int (i:Int):kz K H (.int i) (.type "int")
 |str (x:Str):kz K H (.str x) (.type "str")
 |tw (x:UInt64):kz K H (.tw x) (.type "float")
 |lst {a:ä} {xs:List V} (e:H a=some (.lst xs)):kz K H (.ref a) (.type "list")
 |bS {a:ä} {o:Obj} {xs:List V} (e:H a=some (.bS o (.lst xs))):kz K H (.ref a) (.type "list")
 |tup {a:ä} {xs:List V} (e:H a=some (.tup xs)):kz K H (.ref a) (.type "tuple")
 |dK {a:ä} {aj:List (Key×V)} (e:H a=some (.dK aj)):kz K H (.ref a) (.type "dict")
 |dT {a:ä} {aj:List (List Key×V)} (e:H a=some (.dT aj)):kz K H (.ref a) (.type "dict")
 |ins {a C dx:ä} {fs:List (Str×V)} (e:H a=some (.ins C dx fs)) (cl:jz K C) (ha:Ő K (.ref C) "__class__"=some (some (.builtin "object.__class__")))
   (hn:PySem.W.specialIn K (.builtin "object.__class__") "__get__"=some (some (.builtin "getset_descriptor.__get__"))) (htk:PySem.W.takesIn K (.builtin "object.__class__")=some true)
   (hm:PySem.W.mroIn K C (.type "object")=some true):kz K H (.ref a) (.ref C)
end
structure bC (k:Nat) (A:Ĉ):Prop where
 hd:A.handled=none
 dp:A.depth+3*k+5<recursionLimit
 un:A.units+16*k+200<acg
 gd:A.guards=some []
def bC.mono (r:bC k A) (h:j<=k):bC j A:=⟨r.hd,by have:=r.dp;omega,by have:=r.un;omega,r.gd⟩
theorem bC.deeper (r:bC (k+1) A) (env:Env):bC k (A.deeper env) :=
 ⟨r.hd,by have:=r.dp;show A.depth+1+3*k+5 < _;omega,by have:=r.un;show A.units+3+16*k+200 < _;omega,r.gd⟩
def QA {A:Ĉ} {C:ä} {us:List Ç} {kw:List (Str×Ç)}:(A.under (.builtin "type.__call__" ⟨.ref C::us,kw⟩)).depth=A.depth+1:=by
 first|rfl|simp[Around.under,Code.weight,Code.isCreation,Code.isGuard,Code.isCaller,Code.frames,Code.isFrame,guardIds]
def QC {A:Ĉ} {C:ä} {us:List Ç} {kw:List (Str×Ç)}:(A.under (.builtin "type.__call__" ⟨.ref C::us,kw⟩)).units=A.units+1:=by
 first|rfl|simp[Around.under,Code.cUnits,Code.frames,Code.isFrame]
def bC.make (r:bC (k+1) A) (C:ä) (us:List Ç) (kw:List (Str×Ç)):bC k (A.under (.builtin "type.__call__" ⟨.ref C::us,kw⟩)) :=
 ⟨r.hd,by have:=r.dp;rw[QA];omega,by have:=r.un;rw[QC];omega,by first|exact r.gd | (simp[Around.under,Code.isGuard,guardIds];exact r.gd)⟩
theorem bC.depth (r:bC k A):A.depth<recursionLimit:=by have:=r.dp;omega
def Ew:TA:=λ_ H Q=>Q [] H
def YX (ta:TE) (tr:TA):TA:=fun σ H Q=>ta σ H λx Z=>tr σ Z λY X=>Q (x::Y) X
section
variable {X:Cx} {e:ľ} {es:List ľ} {te:TE} {t:TA} {pos:Pos}
def nW:PA X [] Ew:=λ_ _ _ _ H Q I h=>Calls.spliced_nil ⟨[],H,I,.nil,h⟩
def nO (ha:PE X e te) (hr:PA X es t) (hs:ß (e::es) X.env=(false,ţ e X.env)::ß es X.env:=by rfl):PA X (e::es) (YX te t):=by
 intro pos Z s σ H Q I h;rw[hs];show á _ _ (spliced ((false,ţ e X.env)::ũ pos (ß es X.env))) _ _ s;refine Calls.spliced_cons (aJ (ha Z s σ H _ I h) λu Y ⟨x,W,V,U,T⟩=>?_);exact aJ (hr pos Z Y σ W _ V T) λM L ⟨S,R,P,O,N⟩=>⟨x::S,R,P,.cons U O,N⟩
def aao (t:TA):TE:=fun σ H Q=>t σ H λZ Y=>Z.length<=Ø/\∀p,Y p=none->Q (.ref p) (upd Y p (.tup Z))
def aap (t:TA):TE:=fun σ H Q=>t σ H λZ Y=>Z.length<=Ø/\∀p,Y p=none->Q (.ref p) (upd Y p (.lst Z))
def Xj {x1} (h:PA X es t):PE X (.Tuple es x1 pos) (aao t):=by
 intro V s σ H Q I U;refine wpAny_Tuple_spliced (aJ (h pos V s σ H _ I U) λT Z ⟨S,Y,W,r,z,q⟩=>⟨by rw[<- r.length];exact z,?_⟩);have R:Y Z.heap.objs.size=none:=W.aE.fresh (adv _);refine⟨.ref Z.heap.objs.size,upd Y Z.heap.objs.size (.tup S),W.laid (t':=Z.toks) (λb u e=>Á _ e) (adv _) ?_,rfl,q _ R⟩;exact⟨z,T,r,⟨_,Ë _ rfl,rfl,_,rfl⟩⟩
def Lu (h:PA X es t):PE X (.List es pos) (aap t):=by
 intro V s σ H Q I U;refine wpAny_List_spliced (aJ (h pos V s σ H _ I U) λT Z ⟨S,Y,W,r,z,q⟩=>⟨by rw[<- r.length];exact z,?_⟩);have R:Y Z.heap.objs.size=none:=W.aE.fresh (adv _);refine⟨.ref Z.heap.objs.size,upd Y Z.heap.objs.size (.lst S),W.laid (t':=Z.toks) (λb u e=>Á _ e) (adv _) ?_,rfl,q _ R⟩;exact⟨z,T,0,r,Ë _ rfl⟩
end
noncomputable abbrev Sp:=List V->Hp->VK->XK->Prop
noncomputable abbrev jA:=List Env->Hp->Å->XK->Ç->Å->Prop
structure oi (P:ó) (w:Ĕ) (K:ĥ) (mg:Str->Option Ç) (base:œ) (A:Ĉ) (outer:List Env) (s:Å) (H:Hp):Prop where
 frames:A.frames=some outer
 mod:Mod K mg base
 bs:∀b o,base.get? b=some o->s.heap.get? b=some o/\H b=none
 iA:base.objs.size<=s.heap.objs.size
 iR:s.heap.FunFrames base outer
 ni:∀b∈fH outer,H b=none
 aE:bT P w H s.heap
 bare:adl s.gens
def CE (outer:List Env) (P:ó) (w:Ĕ) (H:Hp) (s:Å) (Q:VK) (u:Ç) (s':Å):Prop :=
 ∃v Z,s'.os=s.os/\adl s'.gens/\Un (fH outer) [] H Z s.heap s'.heap/\bT P w Z s'.heap/\RelV v u/\Q v Z
def CR (CX:jA) (outer:List Env) (P:ó) (w:Ĕ) (H:Hp) (s:Å) (Q:VK) (E:XK) (r:Result) (s':Å):Prop :=
 match r with
 | .ok (.ret u)=>CE outer P w H s Q u s'
 | .ok _=>False
 | .error e=>CX outer H s E e s'
structure dH (P:ó) (w:Ĕ) (K:ĥ) (mg:Str->Option Ç) (base:œ) (CX:jA) (k:Nat) (f:ä) (fd:ő) (ps:List Str) (sp:Sp):Prop where
 len:∀vs H Q E,sp vs H Q E->vs.length=ps.length
 run:∀(A:Ĉ) (outer:List Env) (s:Å) (H:Hp) (args:Args) (us:List Ç) (vs:List V) (Q:VK) (E:XK),bC k A->oi P w K mg base A outer s H->BindsTo s fd args (ps.zip us)->Vals vs us->sp vs H Q E ->
  Ź (í P w) A (.call (.ref f) args) (CR CX outer P w H s Q E) s
def dH.imp {P:ó} {w:Ĕ} {K:ĥ} {mg:Str->Option Ç} {base:œ} {CX:jA} {k:Nat} {f:ä} {fd:ő} {ps:List Str} {sp NG:Sp} (F:dH P w K mg base CX k f fd ps sp)
  (h:∀vs H Q E,NG vs H Q E->sp vs H Q E):dH P w K mg base CX k f fd ps NG :=
 ⟨λvs H Q E q=>F.len vs H Q E (h _ _ _ _ q),λA outer s H args Z vs Q E Y X W V hs=>F.run A outer s H args Z vs Q E Y X W V (h _ _ _ _ hs)⟩
def oi.make {P:ó} {w:Ĕ} {K:ĥ} {mg:Str->Option Ç} {base:œ} {A:Ĉ} {outer:List Env} {s:Å} {H:Hp} (e:oi P w K mg base A outer s H) (C:ä) (us:List Ç) (kw:List (Str×Ç)) :
  oi P w K mg base (A.under (.builtin "type.__call__" ⟨.ref C::us,kw⟩)) outer s H:=⟨by first|exact e.frames | (simpa [Around.under,Code.envs,Code.isFrame,pushEnvs] using e.frames),e.mod,e.bs,e.iA,e.iR,e.ni,e.aE,e.bare⟩
section
variable {X:Cx} {π:List (ä×Obj)} {σ:St} {H:Hp} {s s':Å}
def Inv.lQ (I:Inv X π σ H s):oi X.prog X.w X.K X.mg X.base X.A X.stack s H :=
 ⟨I.ok.frames,I.ok.mod,I.bs,Ú I.ok.iA I.sz,I.stack,I.BU,I.aE,I.bare⟩
def Inv.after (I:Inv X π σ H s) (h:CE X.stack X.prog X.w H s Q u s'):EP X π σ Q u s':=by
 obtain⟨v,Z,os,bare,un,Y,r,q⟩:=h;obtain⟨W,g,d,t,V⟩:=s';obtain rfl:V=s.os:=os;exact⟨v,Z,I.call (h':=W) (g':=g) (d':=d) (t':=t) (ch:=[]) un Y bare (λb z=>absurd z (by simp)),r,q⟩
end
def YY (sp:Sp) (ao:List V) (E:XK) (t:TA):TE:=fun σ H Q=>t σ H λZ Y=>sp (Z++ao) Y Q E
def Dw (C:ä) (m:Str) (sp:Sp) (ao:List V) (E:XK) (ta:TE) (t:TA):TE:=fun σ H Q=>ta σ H λx Z=>∃a Y fs,x=.ref a/\Z a=some (.ins C Y fs)/\fs.lookup m=none /\
 t σ Z λX W=>sp (x::(X++ao)) W Q E
def YZ (C:ä) (sp:Sp) (ao:List V) (E:XK) (t:TA):TE:=fun σ H Q=>t σ H λX Y=>∀x Z,Y x=none->Y Z=none->Z≠x ->
 sp (.ref x::(X++ao)) (upd (upd Y Z (.own x)) x (.ins C Z [])) (λv W=>v=.ax/\Q (.ref x) W) E
def Binds (K:ĥ) (fd:ő) (ps:List Str) (ds:List Ç):Prop :=
 ∀(s:Å) (Z:List Ç),K.In s.heap->(Z++ds).length=ps.length->BindsTo s fd ⟨Z,[]⟩ (ps.zip (Z++ds))
def Binds.all {K:ĥ} {fd:ő} {ps:List Str} (h:∀us:List Ç,us.length=ps.length->bindArgs fd ⟨us,[]⟩=pure (ps.zip us)):Binds K fd ps []:=λs us _ Z=>by
 rw[Ē] at Z |-;exact .of_eq (h us Z)
def Passes (CX:jA) (X:Cx) (E:XK):Prop:=∀(Y:List (ä×Obj)) (σ:St) (H:Hp) (s:Å) (e:Ç) (Z:Å),Inv X Y σ H s->CX X.stack H s E e Z->X.xe e Z
section
variable {X:Cx} {CX:jA} {k:Nat} {f C:ä} {fd:ő} {ps:List Str} {sp:Sp} {ao:List V} {ds:List Ç} {E:XK} {x m:Str} {p pos apos:Pos} {e o:ľ} {es:List ľ} {ta:TE} {t:TA}
def CI {π:List (ä×Obj)} {σ:St} {H:Hp} {s:Å} {Q:VK} {us:List Ç} {vs:List V} (F:dH X.prog X.w X.K X.mg X.base CX k f fd ps sp) (hr:bC k X.A) (hb:Binds X.K fd ps ds) (hd:Vals ao ds) (hx:Passes CX X E)
  (I:Inv X π σ H s) (r:Vals vs us) (h:sp (vs++ao) H Q E):á (í X.prog X.w) X.A (call (.ref f) us) (EP X π σ Q) X.xe s:=by
 have Y:Vals (vs++ao) (us++ds):=r.append hd;have W:(us++ds).length=ps.length:=by rw[<- Y.length];exact F.len _ _ _ _ h
 refine wpAny_call (ŝ (F.run X.A X.stack s H ⟨us,[]⟩ (us++ds) (vs++ao) Q E hr I.lQ (hb s us I.iX W) Y h) λr U Z=>?_)
 cases r with
 |error e=>exact hx π σ H s e U I Z
 |ok T =>
  cases T with
  |ret u=>exact I.after Z
  |next=>exact ű Z
  |brk=>exact ű Z
  |cont=>exact ű Z
def Va (F:dH X.prog X.w X.K X.mg X.base CX k f fd ps sp) (hr:bC k X.A) (hg:Gl X x) (hm:X.mg x=some (.ref f)) (hk:ź X.K (.ref f)=true) (hb:Binds X.K fd ps ds) (hd:Vals ao ds) (hx:Passes CX X E)
  (ha:PA X (e::es) t) (gB:(x==("__debug__":Str))=false:=by decide) (he:ß (e::es) X.env=(false,ţ e X.env)::ß es X.env:=by rfl) (bU:(ũ pos (ß es X.env)).any (·.1)=false:=by rfl) :
  PE X (.Call (.Name x p) (e::es) [] pos) (YY sp ao E t):=by
 intro Y s σ H Q I h;refine abf (BV I hg hm ?_ gB);refine PySem.W.callWith_K (h₀:=X.base) I.ok.mod.tD hk (aJ (ha pos Y s σ H _ I h) λV U ⟨T,S,Z,r,q⟩=>⟨Z.iX,?_⟩) he bU;exact CI F hr hb hd hx Z r q
def Vb {pl:Sem Bool} (he:PE X o ta) (c:jz X.K C) (hm:Meth X.K C m f) (F:dH X.prog X.w X.K X.mg X.base CX k f fd ps sp) (hr:bC k X.A) (hb:Binds X.K fd ps ds) (hd:Vals ao ds) (hx:Passes CX X E) (ha:PA X (e::es) t)
  (iC:ß (e::es) X.env=(false,ţ e X.env)::ß es X.env:=by rfl) (bU:(ũ pos (ß es X.env)).any (·.1)=false:=by rfl)
  (ht:ţ (.Call (.Attribute o m apos) (e::es) [] pos) X.env=(do
   let ov <- ţ o X.env
   abO apos.atName
   let (f,first) <- abj [ov] (getMethod ov m pl)
   callWith pos f first (ũ pos (ß (e::es) X.env)) (ac7 pos (abl [] X.env))):=by rfl) :
  PE X (.Call (.Attribute o m apos) (e::es) [] pos) (Dw C m sp ao E ta t):=by
 intro Z s σ H Q I h;refine PySem.W.methodCall_KW (pl:=pl) (aJ (he Z s σ H _ I h) λu U ⟨x,T,Y,S,a,O,fs,ex,R,l,q⟩=>?_) ht;subst ex;obtain rfl:u=Ł a:=S;refine HY Y R c hm l ?_
 refine PySem.W.callWith_K (first:=[.ref a]) (h₀:=X.base) I.ok.mod.tD hm.kp (aJ (ha pos Z U σ T _ Y q) λus N ⟨vs,M,V,r,P⟩=>⟨V.iX,?_⟩) iC bU
 exact CI (us:=.ref a::us) (vs:=.ref a::vs) F hr hb hd hx V (.cons rfl r) P
def Th (he:PE X o ta) (c:jz X.K C) (hm:Meth X.K C m f) (F:dH X.prog X.w X.K X.mg X.base CX k f fd ps sp) (hr:bC k X.A) (hb:Binds X.K fd ps ds) (hd:Vals ao ds) (hx:Passes CX X E)
 (ht:ţ (.Call (.Attribute o m apos) [] [] pos) X.env=(do
   let ov <- ţ o X.env
   abO apos.atName
   let (f,first) <- abj [ov] (getMethod ov m pl)
   callWith pos f first (ũ pos (ß [] X.env)) (ac7 pos (abl [] X.env))):=by rfl) :
  PE X (.Call (.Attribute o m apos) [] [] pos) (Dw C m sp ao E ta Ew):=by
 intro Y s σ H Q I h;refine PySem.W.methodCall_KW (pl:=pl) (aJ (he Y s σ H _ I h) λu T ⟨x,S,Z,V,a,R,fs,ex,U,l,q⟩=>?_) ht;subst ex;obtain rfl:u=Ł a:=V;refine HY Z U c hm l ?_
 exact PySem.W.callWith_K0 (first:=[.ref a]) Z.iX hm.kp (CI (us:=[.ref a]) (vs:=[.ref a]) F hr hb hd hx Z (.cons rfl .nil) q)
structure Mk (K:ĥ) (C f:ä):Prop where
 makes:PySem.W.makesIn K C=true
 init:Ő K (.ref C) "__init__"=some (some (.ref f))
 fn:PySem.W.isFn K (.ref f)=true
 kp:ź K (.ref C)=true
def Ti {π:List (ä×Obj)} {σ:St} {H:Hp} {s:Å} {Q:VK} {us:List Ç} {vs:List V} (M:Mk X.K C f) (F:dH X.prog X.w X.K X.mg X.base CX k f fd ps sp) (hr:bC (k+1) X.A) (hb:Binds X.K fd ps ds) (hd:Vals ao ds)
  (hx:Passes CX X E) (I:Inv X π σ H s) (r:Vals vs us)
  (h:∀x dx,H x=none->H dx=none->dx≠x->sp (.ref x::(vs++ao)) (upd (upd H dx (.own x)) x (.ins C dx [])) (λv H2=>v=.ax/\Q (.ref x) H2) E) :
  á (í X.prog X.w) X.A (call (.ref C) us) (EP X π σ Q) X.xe s:=by
 have W:=h (s.heap.objs.size+1) s.heap.objs.size (I.aE.fresh (ł _)) (I.aE.fresh (adv _)) (à (ĉ _));have Y:=Inv.made (C:=C) I;have U:Vals (V.ref (s.heap.objs.size+1)::(vs++ao)) (Ł (s.heap.objs.size+1)::(us++ds)):=.cons rfl (r.append hd);have T:(Ł (s.heap.objs.size+1)::us++ds).length=ps.length:=by
  have e:=U.length;rw[F.len _ _ _ _ W] at e;exact e.symm
 refine wpAny_call (Tf (f:=f) I.iX M.makes M.init (beq_iff_eq.mp M.fn) (ŝ (F.run _ X.stack _ _ ⟨Ł (s.heap.objs.size+1)::us,[]⟩ (Ł (s.heap.objs.size+1)::(us++ds)) _ _ E (hr.make C us [])
  (Y.lQ.make C us []) (hb _ (Ł (s.heap.objs.size+1)::us) Y.iX T) U W) λr S Z=>?_))
 cases r with
 |error e=>exact hx π σ _ _ e S Y Z
 |ok R =>
  cases R with
  |ret u =>
   obtain⟨v,P,O,rv,ev,N⟩:=Y.after Z;subst ev;exact⟨rv,⟨V.ref (s.heap.objs.size+1),P,O,rfl,N⟩⟩
  |next=>exact ű Z
  |brk=>exact ű Z
  |cont=>exact ű Z
def Tj (M:Mk X.K C f) (F:dH X.prog X.w X.K X.mg X.base CX k f fd ps sp) (hr:bC (k+1) X.A) (hg:Gl X x) (hm:X.mg x=some (.ref C)) (hb:Binds X.K fd ps ds) (hd:Vals ao ds) (hx:Passes CX X E)
  (gB:(x==("__debug__":Str))=false:=by decide):PE X (.Call (.Name x p) [] [] pos) (YZ C sp ao E Ew):=by
 intro Z s σ H Q I h;refine abf (BV I hg hm ?_ gB);exact PySem.W.callWith_K0 I.iX M.kp (Ti (us:=[]) M F hr hb hd hx I .nil h)
end
section
variable {X:Cx} {CX:jA} {k:Nat} {f C:ä} {fd:ő} {ps ks:List Str} {sp:Sp} {E:XK} {x m:Str} {p pos apos Ey:Pos} {e o:ľ} {es:List ľ} {kws:List Keyword} {te ta:TE} {t tk:TA} {nm:Option Str}
structure adV (K:ĥ) (fd:ő) (ps ks:List Str) (g:List Ç->List Ç->List Ç) (gV:List V->List V->List V):Prop where
 to:∀(s:Å) (us ws:List Ç),K.In s.heap->(g us ws).length=ps.length->BindsTo s fd ⟨us,ks.zip ws⟩ (ps.zip (g us ws))
 rel:∀{vs:List V} {us:List Ç} {zs:List V} {ws:List Ç},Vals vs us->Vals zs ws->Vals (gV vs zs) (g us ws)
variable {g:List Ç->List Ç->List Ç} {gV:List V->List V->List V}
end
structure rQ (N P:List Str) (sc:acf):Prop where
 kind:sc.kind=.function
 co:sc.isCoroutine=false
 gen:sc.isGenerator=false
 nd:N.Nodup
 pre:N.take P.length=P
 par:∀x∈P,sc.names.lookup x=some .local\/sc.names.lookup x=some .cell
 Xk:∀y∈sc.names,y.2≠.free
theorem Iv {kindOf:Str->Option abg} {x:Str}:∀{binds:List (Str×Ç)} {m:Str->Option Ç},(∀v,(x,v)∉binds)->bindL kindOf binds m x=m x
 | [],_,_=>rfl
 |(n,v)::r,m,h=>by
  unfold bindL;rw[Iv λw hw=>h w (Ò _ hw)];split
  ·have:x≠n:=by rintro rfl;exact h v Ñ
   simp[this]
  ·rfl
theorem Iw {kindOf:Str->Option abg} {x:Str}:∀{binds:List (Str×Ç)} {m:Str->Option Ç},(∀v,(x,v)∉binds)->bindC kindOf binds m x=m x
 | [],_,_=>rfl
 |(n,v)::r,m,h=>by
  unfold bindC;rw[Iw λw hw=>h w (Ò _ hw)];split
  ·rfl
  ·have:x≠n:=by rintro rfl;exact h v Ñ
   simp[this]
theorem Iy {kindOf:Str->Option abg} {x:Str} {v:Ç}:∀{P:List Str} {vs:List Ç} {i:Nat} {m:Str->Option Ç},P.Nodup->P[i]?=some x->vs[i]?=some v->kindOf x=some .local ->
  bindL kindOf (P.zip vs) m x=some v
 | [],_,_,_,_,h,_,_=>by simp at h
 |_::_,[],_,_,_,_,h,_=>by simp at h
 |p::P,w::vs,0,m,X,Z,Y,W=>by
  simp at Z Y;subst Z;subst Y;show bindL kindOf ((p,w)::P.zip vs) m p=_;unfold bindL;rw[Iv λv V=>(Ħ.mp X).1 (List.of_mem_zip V).1,Þ W];simp
 |p::P,w::vs,i+1,m,X,Z,Y,W=>by
  show bindL kindOf ((p,w)::P.zip vs) m x=_;unfold bindL;exact Iy (i:=i) (Ħ.mp X).2 (by simpa using Z) (by simpa using Y) W
theorem Iz {kindOf:Str->Option abg} {x:Str} {v:Ç}:∀{P:List Str} {vs:List Ç} {i:Nat} {m:Str->Option Ç},P.Nodup->P[i]?=some x->vs[i]?=some v->kindOf x≠some .local ->
  bindC kindOf (P.zip vs) m x=some v
 | [],_,_,_,_,h,_,_=>by simp at h
 |_::_,[],_,_,_,_,h,_=>by simp at h
 |p::P,w::vs,0,m,X,Z,Y,W=>by
  simp at Z Y;subst Z;subst Y;show bindC kindOf ((p,w)::P.zip vs) m p=_;unfold bindC;rw[Iw λv V=>(Ħ.mp X).1 (List.of_mem_zip V).1,å W];simp
 |p::P,w::vs,i+1,m,X,Z,Y,W=>by
  show bindC kindOf ((p,w)::P.zip vs) m x=_;unfold bindC;exact Iz (i:=i) (Ħ.mp X).2 (by simpa using Z) (by simpa using Y) W
noncomputable def start (N:List Str) (vs:List V):St:=vs.map some++Ï (N.length-vs.length) none
noncomputable def mV (CX:jA) (P:ó) (w:Ĕ) (K:ĥ) (mg:Str->Option Ç) (base:œ) (N:List Str) (qual:Str) (scope:acf) (f:ä) (cd:Ç) (A:Ĉ) (outer:List Env) (s:Å) (H:Hp) (E:XK):Cx where
 prog:=P
 w:=w
 K:=K
 mg:=mg
 base:=base
 A:=A.deeper (envOfC qual scope s.heap.objs.size f cd)
 N:=N
 cY:=s
 pW:=H
 env:=envOfC qual scope s.heap.objs.size f cd
 outer:=outer
 stack:=envOfC qual scope s.heap.objs.size f cd::outer
 ex:=[]
 calm:=true
 fn:=λ_=>true
 pn:=[]
 xe:=λe Y=>á (í P w) (A.deeper (envOfC qual scope s.heap.objs.size f cd)) (leaving (envOfC qual scope s.heap.objs.size f cd) e) (λ_ Z=>CX outer H s E e Z) (λX Z=>CX outer H s E X Z) Y
def Jm {sc:acf} {n:Nat} {x:Str} (h:sc.names.lookup x=some .cell):∃c,(abF n sc.names []).lookup x=some c:=by
 have q:=aci sc.names n [] (.inl h);exact Option.isSome_iff_exists.mp q
def RJ {CX:jA} {P:ó} {w:Ĕ} {K:ĥ} {mg:Str->Option Ç} {base:œ} {N ps:List Str} {qual:Str} {scope:acf} {f:ä} {cd:Ç} {A:Ĉ} {outer:List Env} {s s1:Å} {H:Hp} {E:XK} {us:List Ç} {vs:List V}
  (S:rQ N ps scope) (hd:A.handled=none) (e0:oi P w K mg base A outer s H) (hl:vs.length=ps.length) (r:Vals vs us)
  (x:InCallC s s.heap.objs.size (bindL (envOfC qual scope s.heap.objs.size f cd).kindOf (ps.zip us) λ_=>none) (abF (s.heap.objs.size+1) scope.names []) (bindC (envOfC qual scope s.heap.objs.size f cd).kindOf (ps.zip us) λ_=>none) s1) :
  Inv (mV CX P w K mg base N qual scope f cd A outer s H E) [] (start N vs) H s1:=by
 have O:ps.length<=N.length:=by have:=Ķ List.length S.pre;rw[abL] at this;omega
 obtain⟨X,M,rfl,U⟩:=x.done;have W:∀b:ä,b∉(mV CX P w K mg base N qual scope f cd A outer s H E).ex:=λb z=>absurd (show b∈([]:List ä) from z) (by simp);refine⟨⟨e0.mod,S.kind,rfl,rfl,adv _,λy z c X Z=>?_,λy hy=>?_,λy c _ h=>?_,λ_=>hd,Around.frames_deeper e0.frames,.inr ⟨rfl,rfl⟩,λb z=>absurd z (W b),e0.bs,e0.iA,λb _ _=>W b,λb z=>absurd z (W b),e0.iR,e0.ni⟩,
  rfl,e0.bare,Un.kept U,⟨_,x.toInCall.ns,λi y v X Z L=>?_⟩,λy c h=>⟨_,x.cell y c h⟩,e0.aE.fresh (adv _),λy c h=>?_,λp Y=>absurd (show p∈([]:List (ä×Obj)) from Y) (by simp),e0.aE.kept U,?_⟩
 ·exact name_of_addr x.apart (ν X) (ν Z)
 ·have hy:scope.names.lookup y=some .cell\/scope.names.lookup y=some .free:=hy
  rcases hy with hy|hy
  ·exact Jm hy
  ·exact absurd rfl (S.Xk _ (ν hy))
 ·exact Nat.le_of_lt (x.above y c (ν h))
 ·have hi:i<vs.length:=by
   unfold start at Z;by_cases hi:i<vs.length
   ·exact hi
   ·rw[ă (by simpa using hi)] at Z
    rw[ĭ] at Z
    split at Z<;>cases Z
  have Q:vs[i]?=some v:=by
   unfold start at Z;rw[ã (by simpa using hi),è] at Z
   cases e:vs[i]? with
   |none=>rw[e] at Z;cases Z
   |some a=>rw[e] at Z;cases Z;rfl
  obtain⟨u,T,rv⟩:=r.get Q;have Y:ps[i]?=some y:=by
   rw[<- S.pre,List.getElem?_take_of_lt (by omega)];exact X
  have R:ps.Nodup:=by rw[<- S.pre];exact S.nd.sublist (List.take_sublist _ _)
  refine⟨u,rv,?_⟩
  rcases S.par y (Ĥ Y) with k|k
  ·exact .inl ⟨k,Iy R Y T k⟩
  ·obtain⟨c,e⟩:=Jm (n:=s.heap.objs.size+1) k
   refine .inr ⟨.inl k,c,e,?_⟩;have q:=x.cell y c e;rw[Iz R Y T (by show scope.names.lookup y≠_;rw[k];decide)] at q;exact q
 ·exact e0.aE.fresh (Nat.le_of_lt (x.above y c (ν h)))
 ·unfold start
  show _=N.length;rw[Ð,Â,abm];omega
def Y0 {CX:jA} {P:ó} {w:Ĕ} {K:ĥ} {mg:Str->Option Ç} {base:œ} {k:Nat} {f:ä} {name qual:Str} {params:Arguments} {body:List ado} {scope:acf} {dV kV doc pm bO ct oc:Ç} {an od:Option ä}
  {oC:Array (Option Ç)} {N ps:List Str} {sp:Sp} (lk:K.lookup f=some ⟨oc,od,.func (ι name qual params body scope dV kV doc pm an bO ct),oC⟩) (gy:acz K bO qual=true) (S:rQ N ps scope)
  (len:∀vs H Q E,sp vs H Q E->vs.length=ps.length)
  (Dx:∀(A:Ĉ) (outer:List Env) (s:Å) (H:Hp) (vs:List V) (Q:VK) (E:XK),bC k (A.deeper (envOfC qual scope s.heap.objs.size f bO))->sp vs H Q E ->
   ∃t,dj (mV CX P w K mg base N qual scope f bO A outer s H E) body t/\t { nx:=λ_ H'=>Q .ax H',rt:=Q } (start N vs) H) :
  dH P w K mg base CX (k+1) f (ι name qual params body scope dV kV doc pm an bO ct) ps sp:=by
 refine⟨len,λA outer s H args M vs Q E X Z L r T=>?_⟩;have G:=len _ _ _ _ T;have R:K.In s.heap:=Z.mod.tD.keeps λb o e=>(Z.bs b o e).1;have lim:s.heap.NoLimit:=Z.mod.nolimit.keeps λb o e=>(Z.bs b o e).1;have F:∀y∈ps.zip M,scope.names.lookup y.1=some .local\/(scope.names.lookup y.1=some .cell/\((abF (s.heap.objs.size+1) scope.names []).lookup y.1).isSome=true):=λ⟨n,v⟩ D=>by
  rcases S.par n (List.of_mem_zip D).1 with q|q
  ·exact .inl q
  ·exact .inr ⟨q,aci _ _ _ (.inl q)⟩
 refine codeAny_call_function X.depth (R _ _ lk) rfl S.co S.gen rfl (PySem.W.codeRec_of R gy) (L _ _ _ _ ?_);refine wpAny_newFunctionEnv_cells S.kind F λenv C O x=>?_;subst C;refine⟨lim.keeps x.toInCall.keep,codeAny_func ?_⟩;obtain⟨t,B,z⟩:=Dx A outer s H vs Q E (X.deeper _) T;have I:Inv (mV CX P w K mg base N qual scope f bO A outer s H E) [] (start N vs) H O:=RJ S X.hd Z G r x;refine ķ (B [] O (start N vs) H _ I z) (λp U hs=>?_) λe U hs=>hs;have fin:∀{Y:St} {H':Hp} {v:V} {u:Ç},Inv (mV CX P w K mg base N qual scope f bO A outer s H E) [] Y H' U->RelV v u->Q v H'->CE outer P w H s Q u U :=
  λ{Y H' v u} J rv q=>⟨v,H',J.os,J.bare,J.base,J.aE,rv,q⟩
 cases p with
 |ret u =>
  obtain⟨v,Y,H',J,rv,q⟩:=hs;exact fin J rv q
 |next =>
  obtain⟨Y,H',J,q⟩:=hs;exact fin (v:=V.ax) (u:=Value.none) J rfl q
 |brk =>
  obtain⟨_,_,_,q⟩:=hs;exact ű q
 |cont =>
  obtain⟨_,_,_,q⟩:=hs;exact ű q
section
variable {X:Cx} {x:Str} {p pos:Pos} {e:ľ} {es:List ľ} {t:TA} {id T:String} {r:List V->Hp->VK->Prop}
def Fm (r:List V->Hp->VK->Prop) (t:TA):TE:=fun σ H Q=>t σ H λZ Y=>r Z Y Q
def Bp (hc:cT X (.builtin id) r) (hg:Gl X x) (hm:X.mg x=none) (hv:ć x=some (.builtin id)) (ha:PA X (e::es) t) (hn:x≠"__name__":=by decide) (gB:(x==("__debug__":Str))=false:=by decide)
  (he:ß (e::es) X.env=(false,ţ e X.env)::ß es X.env:=by rfl) (bU:(ũ pos (ß es X.env)).any (·.1)=false:=by rfl):PE X (.Call (.Name x p) (e::es) [] pos) (Fm r t):=by
 intro Z s σ H Q I h;refine abf (lj I hg hm hv ?_ hn gB);exact PyProof.Rows.callWith_builtin1 (aJ (ha pos Z s σ H _ I h) λY W ⟨V,U,T,S,R⟩=>hc Z W σ U V Y Q T S R) he bU
def yf (hc:cT X (.type T) r) (hg:Gl X x) (hm:X.mg x=none) (hv:ć x=some (.type T)) (ha:PA X (e::es) t) (hn:x≠"__name__":=by decide) (gB:(x==("__debug__":Str))=false:=by decide)
  (he:ß (e::es) X.env=(false,ţ e X.env)::ß es X.env:=by rfl) (bU:(ũ pos (ß es X.env)).any (·.1)=false:=by rfl):PE X (.Call (.Name x p) (e::es) [] pos) (Fm r t):=by
 intro Z s σ H Q I h;refine abf (lj I hg hm hv ?_ hn gB);exact Ĺ (aJ (ha pos Z s σ H _ I h) λY W ⟨V,U,S,R,P⟩=>hc Z W σ U V Y Q S R P) he bU
end
end L2
namespace HT
open PySem PyProof.Rows
noncomputable def lexLt:List Int->List Int->Bool
 | [],[]=>false
 | [],_::_=>true
 |_::_,[]=>false
 |x::Z,y::Y=>if x=y then lexLt Z Y else decide (x<y)
def jM (x y:Int) (xs ys:List Int):lexLt (x::xs) (y::ys)=if x=y then lexLt xs ys else decide (x<y):=rfl
def Jn (A:Ĉ) (s:Å) (a:Int) (t:Tok) (c:Int) (u:Tok) (prog:ó) (w:Ĕ) (E:Ç->Å->Prop) (Q:Ç->Å->Prop) (h:Q (.bool (decide (a<c))) s) :
  á (í prog w) A (richCompare .Lt (.int a t) (.int c u)) Q E s :=
 (PyProof.Rows.lt_int h:á (í prog w) A (ě .Lt (.int a t) (.int c u)) Q E s)
section
variable {prog:ó} {w:Ĕ} {A:Ĉ} {E:Ç->Å->Prop} {s:Å}
def Vc (ht:IsTup s.heap t vs.toArray) (hb:IsTup s.heap b ws.toArray) (hv:vs≠[])
 (h1:ws=[]->Q (.ref t) s) (h2:ws≠[]->Q (.ref s.heap.objs.size) { s with heap:=s.heap.push { cls:=.type "tuple",data:=.seq (vs++ws).toArray } })
 (hsz:vs.length+ws.length<=Ø):á (í prog w) A (ś .Add (.ref t) (.ref b)) Q E s:=by
 obtain⟨⟨cls,X,data,W⟩,Z,V,n,U⟩:=id ht;obtain⟨⟨O,T,data2,S⟩,Y,R,P,hd2⟩:=id hb;simp only at V U R hd2;subst V U R hd2;have e:vs.toArray++ws.toArray=(vs++ws).toArray:=by simp
 by_cases hw:ws=[]
 ·exact concat_meets ⟨_,Z,rfl⟩ ⟨_,Y,rfl⟩ noFill_tuple_add seq_tuple_add acj ab1 (abU _ _)
   (tuple_addW1 t b vs.toArray ws.toArray n P X T W S (by simpa using hv) (by simp[hw])) ⟨Z,Y,h1 hw⟩
 ·refine concat_meets ⟨_,Z,rfl⟩ ⟨_,Y,rfl⟩ noFill_tuple_add seq_tuple_add acj ab1 (abU _ _)
   (tuple_addW2 t b vs.toArray ws.toArray n P X T W S (by simpa using hv) (by simpa using hw) (by rw[Û,Û];exact hsz)) ⟨Z,Y,?_⟩
  rw[e];exact h2 hw
noncomputable def aU (n d:Nat):Option Int->Nat
 |none=>d
 |some v=>if v<0 then (v+(n:Int)).toNat else min v.toNat n
def J8 (n d k:Nat):aU n d (some (k:Int))=min k n:=by
 show (if (k:Int)<0 then ((k:Int)+(n:Int)).toNat else min (k:Int).toNat n)=min k n
 rw[å (by omega),Ĳ]
def Xl (n d:Nat) (hd:d<=n) (o:Option Int):aU n d o<=n:=by
 cases o with
 |none=>exact hd
 |some v =>
  show (if v<0 then (v+(n:Int)).toNat else min v.toNat n)<=n
  by_cases Z:v<0
  ·rw[Þ Z];omega
  ·rw[å Z];exact Nat.min_le_right _ _
def J9 (v:Int) (n d:Nat):(if v<0 then max (v+(n:Int)) 0 else min v (n:Int))=((aU n d (some v):Nat):Int):=by
 show (if v<0 then max (v+(n:Int)) 0 else min v (n:Int))=(((if v<0 then (v+(n:Int)).toNat else min v.toNat n):Nat):Int)
 by_cases Z:v<0
 ·simp only[Þ Z];omega
 ·simp only[å Z];omega
def QD (lo hi:Option Int) (n:Nat):abG lo hi 1 (n:Int)=(((aU n 0 lo:Nat):Int),((aU n n hi:Nat):Int)):=by
 have Z:¬ ((1:Int)<0):=by omega
 unfold abG;simp only[Z,î];refine Prod.ext ?_ ?_
 ·cases lo with
  |none=>rfl
  |some v=>exact J9 v n 0
 ·cases hi with
  |none=>rfl
  |some v=>exact J9 v n n
def QE (i j:Nat):Ż (i:Int) (j:Int) 1=j-i:=by
 unfold Ż;have Z:(1:Int) > 0:=by omega
 simp only[Z,ï,Int.ediv_one]
 split<;>omega
def H0 (p:IsPart v o) (h:Q o s):á (í prog w) A (Builtin.Slice.slicePartIndex v) Q E s:=by
 cases p with
 |none=>exact slicePart_none h
 |int i t=>exact slicePart_int h
def Ht {lo hi:Option Int} {n:Nat} {Q:Int×Int×Nat->Å->Prop} (hs:s.heap.IsSliceOf sl vl vu .none) (pl:IsPart vl lo) (pu:IsPart vu hi)
 (h:Q (((aU n 0 lo:Nat):Int),1,aU n n hi-aU n 0 lo) s):á (í prog w) A (ac6 (.ref sl) (pure (n:Int))) Q E s:=by
 obtain⟨os,Z,X,Y⟩:=id hs;unfold ac6 Builtin.Slice.sliceFields;refine À (À (Ĝ Z Y (x:=vl) rfl (À (Ĝ Z Y (x:=vu) rfl (À (Ĝ Z Y (x:=.none) rfl (Ä ?_)))))));refine À (slicePart_none ?_)
 show á _ _ (if ((1:Int)==0)=true then _ else _) _ _ s
 rw[å (by decide)];refine À (H0 pl (À (H0 pu (À (Ä ?_)))))
 show á _ _ (match abG lo hi 1 (n:Int) with | (lo,hi)=>pure (lo,(1:Int),Ż lo hi 1)) _ _ s
 rw[QD lo hi n];show á _ _ (pure (((aU n 0 lo:Nat):Int),(1:Int),Ż ((aU n 0 lo:Nat):Int) ((aU n n hi:Nat):Int) 1)) _ _ s;rw[QE];exact Ä h
def Tn (xs:Array Ç) (i k:Nat):((Ù k).filterMap λ(m:Nat)=>xs[((i:Int)+(m:Int)*1).toNat]?).toArray=((xs.toList.drop i).take k).toArray:=by
 have e:(λ(m:Nat)=>xs[((i:Int)+(m:Int)*1).toNat]?)=λm=>xs[i+m]?:=by
  funext m;have:((i:Int)+(m:Int)*1).toNat=i+m:=by omega
  rw[this]
 rw[e];have:=pick_run xs i k;rw[List.filterMap_map] at this;have e2:((λx=>xs[x]?) ∘ λx=>i+x)=λm=>xs[i+m]?:=rfl;rw[e2] at this;rw[this]
def OB {lo hi:Option Int} {Q:Ç->Å->Prop} (ht:IsTup s.heap t items) (hs:s.heap.IsSliceOf sl vl vu .none) (pl:IsPart vl lo) (pu:IsPart vu hi)
 (hw:¬ (aU items.size 0 lo=0/\aU items.size items.size hi=items.size))
 (h:Q (.ref s.heap.objs.size) { s with heap:=s.heap.push { cls:=.type "tuple",data:=.seq ((items.toList.drop (aU items.size 0 lo)).take (aU items.size items.size hi-aU items.size 0 lo)).toArray } })
 (hsz:items.size<=Ø):á (í prog w) A (adm (.ref t) (.ref sl)) Q E s:=by
 have Z:sizeOk (.seq ((items.toList.drop (aU items.size 0 lo)).take (aU items.size items.size hi-aU items.size 0 lo)).toArray):=by
  show ((items.toList.drop (aU items.size 0 lo)).take (aU items.size items.size hi-aU items.size 0 lo)).toArray.size<=Ø;rw[Û,abL,List.length_drop,Ą];omega
 have U:aU items.size items.size hi<=items.size:=Xl _ _ (adv _) hi;obtain⟨os,Y,X,T⟩:=id hs;have W:s.TypeIs (.ref sl) "slice":=⟨os,Y,X⟩;unfold adm
 try with_reducible refine Ġ ?_
 first|refine À (Ä ?_)|skip
 refine À (wpAny_sequenceKey ht.typeIs (by decide) ?_);refine À (č (name:=Ā "__getitem__") ht.typeIs ħ
  (Ď ħ ht.typeIs entry_tuple_getitem ?_ (args_tuple_getitem _ _)))
 show á _ _ (abB (.ref t) >>= _) _ _ s;refine À (tupleItemsOf_ ht ?_);refine À (abV W ?_);rw[Þ (by decide)];refine À (Ht hs pl pu ?_);have V:¬ ((((aU items.size 0 lo:Nat):Int)==0&&(1:Int)==1&&(aU items.size items.size hi-aU items.size 0 lo)==items.size)=true):=by
  intro q;rw[È,È] at q;have S:((aU items.size 0 lo:Nat):Int)=0:=eq_of_beq q.1.1;have R:aU items.size items.size hi-aU items.size 0 lo=items.size:=eq_of_beq q.2;exact hw ⟨by omega,by omega⟩
 show á _ _ (if (((aU items.size 0 lo:Nat):Int)==0&&(1:Int)==1&&(aU items.size items.size hi-aU items.size 0 lo)==items.size)=true then _ else _) _ _ s
 rw[å V,Tn]
 first
  |exact À (m:=Š _) (ą (Ä ⟨_,rfl,Ä h⟩) Z)
  |exact À (m:=Š _) (ą (À (Ä (Ä ⟨_,rfl,Ä h⟩))) Z)
  |exact À (À (m:=Š _) (ą (Ä (Ä ⟨_,rfl,Ä h⟩)) Z))
  |exact À (À (m:=Š _) (ą (Ä ⟨_,rfl,Ä h⟩) Z))
end
end HT
namespace L2
open PySem PySem.Spec PyProof.Rows
noncomputable abbrev TO:=St->Hp->(Option Int->Hp->Prop)->Prop
def PO (X:Cx) (e:Option ľ) (t:TO):Prop :=
 ∀(Z:List (ä×Obj)) (s:Å) (σ:St) (H:Hp) (Q:Option Int->Hp->Prop),Inv X Z σ H s->t σ H Q ->
  á (í X.prog X.w) X.A (evalPart e X.env) (λu W=>∃o Y,Inv X Z σ Y W/\IsPart u o/\Q o Y) X.xe s
def Vd:TO:=λ_ H Q=>Q none H
def Y2 (t:TE):TO:=fun σ H Q=>t σ H λx Z=>∃i,x=.int i/\Q (some i) Z
def intsAre_of:∀{us:List Ç},Vals (ns.map V.int) us->aco us ns:=by
 induction ns with
 |nil=>intro us r;rw[Ğ] at r;cases r;exact .nil
 |cons n ns ih =>
  intro us r;rw[Î] at r
  cases r with
  |cons Z Y =>
   obtain⟨t,e⟩:=Z;subst e;exact .cons n t (ih Y)
section
variable {X:Cx} {e:ľ} {te:TE} {lo hi:Option ľ} {tl th:TO} {pos p2:Pos}
def Ve:PO X none Vd:=by
 intro Z s σ H Q I h;rw[evalPart_none];exact Ä ⟨none,H,I,.none,h⟩
def Vf (h:PE X e te):PO X (some e) (Y2 te):=by
 intro Z s σ H Q I hw;rw[evalPart_some];refine aJ (h Z s σ H _ I hw) λu T ⟨x,Y,W,V,U⟩=>?_;obtain⟨i,rfl,q⟩:=U;obtain⟨t,rfl⟩:=V;exact⟨some i,Y,W,.int i t,q⟩
def wG (X:Cx) (r:V->Option Int->Option Int->Hp->VK->Prop):Prop :=
 ∀(Z:List (ä×Obj)) (s:Å) (σ:St) (H:Hp) (x:V) (v Y W:Ç) (lo hi:Option Int) (U:ä) (Q:VK),Inv X Z σ H s->RelV x v->s.heap.IsSliceOf U Y W .none->IsPart Y lo->IsPart W hi->r x lo hi H Q ->
  ∃T id,typeLookup (.type T) "__getitem__"=pure (some (.builtin id))/\s.TypeIs v T/\á (í X.prog X.w) X.A (adm v (.ref U)) (EP X Z σ Q) X.xe s
def tSl (r:V->Option Int->Option Int->Hp->VK->Prop) (te:TE) (tl th:TO):TE:=fun σ H Q=>te σ H λx Z=>tl σ Z λl Y=>th σ Y λu X=>r x l u X Q
def To (hr:wG X r) (he:PE X e te) (hl:PO X lo tl) (hu:PO X hi th):PE X (.Subscript e (.Slice lo hi none p2) pos) (tSl r te tl th):=by
 intro Y s σ H Q I h;refine Subscript_ (aJ (he Y s σ H _ I h) λv S ⟨x,R,P,O,N⟩=>?_);refine wpAny_Slice (aJ (hl Y S σ R _ P N) λW M ⟨l,L,K,J,G⟩=>aJ (hu Y M σ L _ K G) λV Z ⟨u,U,F,pu,E⟩=>?_);rw[evalPart_none];refine Ä ?_
 have D:Inv X Y σ U { Z with heap:=Z.heap.push { cls:=.type "slice",data:=.fields #[W,V,.none] } }:=F.kept (t':=Z.toks) λb y q=>Á _ q
 obtain⟨T,id,C,B,z⟩:=hr Y { Z with heap:=Z.heap.push { cls:=.type "slice",data:=.fields #[W,V,.none] } } σ U x v W V l u Z.heap.objs.size Q D O (Heap.IsSliceOf.new ..) J pu E
 show á (í X.prog X.w) X.A (subscriptTail e (.Slice lo hi none p2) v (.ref Z.heap.objs.size)) (EP X Y σ Q) X.xe { Z with heap:=Z.heap.push { cls:=.type "slice",data:=.fields #[W,V,.none] } }
 exact tail_any (ops:=[.ref Z.heap.objs.size,v]) B C z (by with_unfolding_all rfl)
noncomputable def kA (xs:List V) (lo hi:Option Int):List V:=(xs.drop (HT.aU xs.length 0 lo)).take (HT.aU xs.length xs.length hi-HT.aU xs.length 0 lo)
def HM (xs:List V) (lo hi:Option Int):(kA xs lo hi).length<=xs.length:=by
 unfold kA;rw[abL,List.length_drop];omega
def aaq (K:ĥ):V->Option Int->Option Int->Hp->VK->Prop:=λx lo hi H Q=>∃a Z,x=.ref a/\bz K H a Z /\
 ¬ (HT.aU Z.length 0 lo=0/\HT.aU Z.length Z.length hi=Z.length)/\∀p,H p=none->Q (.ref p) (upd H p (.tup (kA Z lo hi)))
def yM:wG X (aaq X.K):=by
 intro R s σ H x v P O lo hi N Q I U hs T pu h;obtain⟨a,Y,rfl,S,hw,q⟩:=h;cases U;obtain⟨its,r,W,V⟩:=I.tuple S;have Z:its.toArray.size=Y.length:=by rw[Û];exact r.length.symm
 refine⟨"tuple",_,ħ.lookup,W.typeIs,?_⟩;refine HT.OB W hs T pu (by rw[Z];exact hw) ?_ (by rw[Z];exact V);rw[Z];refine⟨.ref s.heap.objs.size,_,I.laid (t':=s.toks) (o:=.tup (kA Y lo hi)) (λb M q=>Á _ q) (adv _) ?_,rfl,q _ (I.aE.fresh (adv _))⟩;exact⟨Ú (HM Y lo hi) V,_,(r.drop (HT.aU Y.length 0 lo)).take (HT.aU Y.length Y.length hi-HT.aU Y.length 0 lo),IsTup.new _ _⟩
def Y3 (K:ĥ):R2:=λx y H Q=>∃a b Y Z,x=.ref a/\y=.ref b/\bz K H a Y/\bz K H b Z/\Y≠[]/\Y.length+Z.length<=Ø /\
 (Z=[]->Q (.ref a) H)/\(Z≠[]->∀p,H p=none->Q (.ref p) (upd H p (.tup (Y++Z))))
def Vals.BY (r:Vals xs us):us=[]↔xs=[]:=by
 cases r with
 |nil=>simp
 |cons _ _=>simp
def Vg:bp X (ś .Add) (Y3 X.K):=by
 intro J s σ H x y v u Q I V U h;obtain⟨a,b,T,S,rfl,rfl,R,P,O,W,N,M⟩:=h;cases V;cases U;obtain⟨its,Y,L,_⟩:=I.tuple R;obtain⟨G,Z,p2,_⟩:=I.tuple P;refine HT.Vc L p2 (λz=>O (Y.BY.mp z)) (λz=>⟨.ref a,H,I,rfl,N (Z.BY.mp z)⟩) (λz=>?_) (by rw[<- Y.length,<- Z.length];exact W);refine⟨.ref s.heap.objs.size,_,I.laid (t':=s.toks) (o:=.tup (T++S)) (λb F q=>Á _ q) (adv _) ?_,rfl,M (λw=>z (Z.BY.mpr w)) _ (I.aE.fresh (adv _))⟩;exact⟨by rw[Ð];exact W,_,Y.append Z,IsTup.new _ _⟩
end
noncomputable def e9 (n:Nat) (i:Int):Option Nat:=if 0<=i then (if i<n then some i.toNat else none) else if -(n:Int)<=i then some (i+n).toNat else none
def c9 {α:Type} (xs:List α) (i:Int):Option α:=(e9 xs.length i).bind λj=>xs[j]?
def Ka (h:e9 n i=some j):seqIndex? i n=some j/\j<n/\-(n:Int)<=i/\i<n:=by
 unfold e9 at h;by_cases Y:0<=i
 ·rw[Þ Y] at h
  by_cases Z:i<n
  ·rw[Þ Z] at h
   have e:i.toNat=j:=adw h;exact⟨by rw[seqIndex_of Y Z,e],by omega,by omega,Z⟩
  ·rw[å Z] at h;cases h
 ·rw[å Y] at h
  by_cases Z:-(n:Int)<=i
  ·rw[Þ Z] at h
   have e:(i+n).toNat=j:=adw h;exact⟨by rw[seqIndex_neg (by omega) Z,e],by omega,Z,by omega⟩
  ·rw[å Z] at h;cases h
def BZ {α:Type} {xs:List α} {i:Int} {v:α} (h:c9 xs i=some v):∃j,seqIndex? i xs.length=some j/\xs[j]?=some v/\j<xs.length/\-(xs.length:Int)<=i/\i<xs.length:=by
 unfold c9 at h
 cases e:e9 xs.length i with
 |none=>rw[e] at h;cases h
 |some j =>
  rw[e] at h;obtain⟨Z,Y,X,W⟩:=Ka e;exact⟨j,Z,h,Y,X,W⟩
def B0 {α:Type} {xs:List α} {j:Nat} {v:α} (h:xs[j]?=some v):c9 xs (j:Int)=some v:=by
 have Z:j<xs.length:=(Æ.mp h).1;have e:e9 xs.length (j:Int)=some j:=by
  unfold e9;rw[Þ (by omega),Þ (by omega)];simp
 unfold c9;rw[e];exact h
def Jo {α:Type} (xs:List α) (v:α):c9 (xs++[v]) (-1)=some v:=by
 have Z:(xs++[v]).length=xs.length+1:=by simp
 have e:e9 (xs++[v]).length (-1)=some xs.length:=by
  unfold e9;rw[Z,å (by decide),Þ (by omega)];congr 1;omega
 unfold c9;rw[e];show (xs++[v])[xs.length]?=some v;simp
def Kb (b:ľ):Prop:=∀o i,subscripted b false o i=operate [o,i] (adm o i)
def wH (X:Cx) (r:R2):Prop :=
 ∀(value slice:ľ) (Z:List (ä×Obj)) (s:Å) (σ:St) (H:Hp) (x y:V) (v u:Ç) (Q:VK),Inv X Z σ H s->RelV x v->RelV y u->r x y H Q ->
  subscripted slice false v u=operate [v,u] (adm v u)->á (í X.prog X.w) X.A (subscriptTail value slice v u) (EP X Z σ Q) X.xe s
def MtR (X:Cx) (id:String) (r:V->List V->Hp->VK->Prop):Prop :=
 ∀(Z:List (ä×Obj)) (s:Å) (σ:St) (H:Hp) (x:V) (Y:List V) (v:Ç) (W:List Ç) (Q:VK),Inv X Z σ H s->RelV x v->Vals Y W->r x Y H Q ->
  á (í X.prog X.w) X.A (call (.builtin id) (v::W)) (EP X Z σ Q) X.xe s
section
variable {X:Cx} {a b:ľ} {ta tb:TE} {pos:Pos}
def Y4 (hr:wH X r) (ha:PE X a ta) (hb:PE X b tb) (hs:Kb b):PE X (.Subscript a b pos) (wA r ta tb):=by
 intro Z s σ H Q I h;exact Subscript_ (Es ha hb I h λv u Y x y W V U T q=>hr a b Z Y σ W x y v u Q V U T q (hs _ _))
def aar (K:ĥ):R2:=λx y H Q=>∃p Z i v,x=.ref p/\y=.int i/\bh K H p Z/\c9 Z i=some v/\Q v H
def aas (K:ĥ):R2:=λx y H Q=>∃p Z i v,x=.ref p/\y=.int i/\bz K H p Z/\c9 Z i=some v/\Q v H
def aat:R2:=λx y H Q=>∃z i c,x=.str z/\y=.int i/\z.length<=Ø/\c9 z.cps.toList i=some c/\Q (.str ⟨#[c]⟩) H
def Kc:wH X (aar X.K):=by
 intro value slice V s σ H x y v u Q I S R h hs;obtain⟨p,E,i,z,rfl,rfl,P,O,q⟩:=h;cases S;obtain⟨t,rfl⟩:=R;obtain⟨its,r,Y,D⟩:=I.list P;obtain⟨j,Z,N,C,M,L⟩:=BZ O;obtain⟨w,U,J⟩:=r.get N;have G:=r.length;have B:=pB;have fin:EP X V σ Q w s:=⟨z,H,I,J,q⟩;by_cases T:0<=i
 ·have W:i.toNat=j:=by
   rw[seqIndex_of T L] at Z;exact adw Z
  exact item_listR Y.isList T (by omega) (by rw[W];simpa using U) fin hs
 ·have W:(i+(its.toArray.size:Int)).toNat=j:=by
   rw[seqIndex_neg (by omega) M] at Z;rw[Û,<- G];exact adw Z
  exact subscriptTail_builtinR (x:=w) Y.isList.typeIs slot_list_getitem.lookup
   (wpAny_getItem_list_neg (Q:=λr F=>r=w/\EP X V σ Q r F) Y.isList (by omega) (by rw[Û]<;>omega) (by omega) (by rw[W];simpa using U) ⟨rfl,fin⟩) hs
def Xm:wH X (aas X.K):=by
 intro value slice Z s σ H x y v u Q I W V h hs;obtain⟨p,L,i,z,rfl,rfl,U,T,q⟩:=h;cases W;obtain⟨t,rfl⟩:=V;obtain⟨its,r,Y,J⟩:=I.tuple U;obtain⟨j,S,R,G,F,E⟩:=BZ T;obtain⟨w,P,O⟩:=r.get R;have N:=r.length;have D:=pB;have fin:EP X Z σ Q w s:=⟨z,H,I,O,q⟩;exact subscriptTail_builtinR (x:=w) Y.typeIs slot_tuple_getitem.lookup
  (getItem_tuple (j:=j) (Q:=λr M=>r=w/\EP X Z σ Q r M) Y (by omega) (by omega) (by rw[Û,<- N];exact S) (by simpa using P) ⟨rfl,fin⟩) hs
def Xn:wH X aat:=by
 intro value slice P s σ H x y v u Q I Y W h hs;obtain⟨z,i,c,rfl,rfl,O,V,q⟩:=h;obtain⟨t,rfl⟩:=Y;obtain⟨N,rfl⟩:=W;obtain⟨j,Z,U,M,T,S⟩:=BZ V;have R:z.cps.toList.length=z.length:=by simp[Str.length]
 rw[R] at Z T S;have L:=pB;exact tail_any (typeIs_str s z t) slot_str_getitem.lookup (getItem_str (c:=c) (by
  have e1:decide (i < -(2 ^ 63:Int))=false:=æ (by omega);have e2:decide (i ≥ 2 ^ 63)=false:=æ (by omega);rw[e1,e2,Bool.or_false]) (by rw[Z];simpa using U) ⟨.str ⟨#[c]⟩,H,I.tok _,⟨_,rfl⟩,q⟩) hs
def QG (its:List Ç) (n j:Nat) (u:Ç):Ŀ (·.setIfInBounds j u) { cls:=.type "list",data:=.seq its.toArray n }={ cls:=.type "list",data:=.seq (its.set j u).toArray n }:=by
 simp[Ŀ]
theorem Inv.lst {π:List (ä×Obj)} {σ:St} {H:Hp} {s:Å} {p:ä} {xs:List V} (I:Inv X π σ H s) (h:H p=some (.lst xs)) :
  ∃(its:List Ç) (n:Nat),Vals xs its/\s.heap.get? p=some { cls:=.type "list",data:=.seq its.toArray n }/\xs.length<=Ø:=by
 obtain⟨z,its,n,r,e⟩:=I.aE p _ h;exact⟨its,n,r,e,z⟩
def Inv.Xo {π:List (ä×Obj)} {σ:St} {H:Hp} {s:Å} {p:ä} {xs ys:List V} {its its':List Ç} {n n':Nat} {f:Obj->Obj} (I:Inv X π σ H s) (h:H p=some (.lst xs))
  (ho:s.heap.get? p=some { cls:=.type "list",data:=.seq its.toArray n }) (hf:f { cls:=.type "list",data:=.seq its.toArray n }={ cls:=.type "list",data:=.seq its'.toArray n' }) (r:Vals ys its') (hz:ys.length<=Ø) (t:Nat) :
  Inv X π σ (upd H p (.lst ys)) { s with heap:=s.heap.update p f,toks:=t }:=by
 have e:(s.heap.update p f).get? p=some { cls:=.type "list",data:=.seq its'.toArray n' }:=by
  rw[Ė f ho (by rw[hf]<;>rfl),hf]
 refine I.write (x:=p) (e:=p) (by rw[h];trivial) (.inl rfl) (λb u Z q=>(ģ _ _ (ŕ Z)).trans q) ⟨_,e⟩ ?_;exact⟨hz,its',n',r,e⟩
def Y5:V->V->V->Hp->(Hp->Prop)->Prop:=λo i v H Q=>∃p Z k j,o=.ref p/\i=.int k/\H p=some (.lst Z)/\e9 Z.length k=some j/\Q (upd H p (.lst (Z.set j v)))
def set_list:M5 X Y5:=by
 intro N s σ H o i v F E u Q I M L rv h;obtain⟨p,K,k,j,rfl,rfl,T,J,q⟩:=h;cases M;obtain⟨t,rfl⟩:=L;obtain⟨its,n,r,Y,G⟩:=I.lst T;obtain⟨Z,D,S,R⟩:=Ka J;have V:=r.length;have C:=pB
 have P:Inv X N σ (upd H p (.lst (K.set j v))) { s with heap:=s.heap.update p (Ŀ (·.setIfInBounds j u)) } :=
  I.Xo T Y (QG its n j u) (r.set rv j) (by rw[ġ];exact G) s.toks
 by_cases O:0<=k
 ·have U:k.toNat=j:=by
   rw[seqIndex_of O R] at Z;exact adw Z
  exact PySem.W.ki_setAt Y O (by omega) (by rw[Û,<- V];exact R) (by rw[U];exact⟨_,P,q⟩)
 ·have U:(k+(its.toArray.size:Int)).toNat=j:=by
   rw[seqIndex_neg (by omega) S] at Z;rw[Û,<- V];exact adw Z
  exact PySem.W.ki_setBack Y (by omega) (by rw[Û,<- V];exact S) (by omega) (by rw[U];exact⟨_,P,q⟩)
def Pq (lo hi:Option Int) (n:Nat):(acp lo hi none n).1=((HT.aU n 0 lo:Nat):Int)/\(acp lo hi none n).2.1=((HT.aU n n hi:Nat):Int)/\(acp lo hi none n).2.2=1:=by
 refine⟨?_,?_,rfl⟩
 ·cases lo with
  |none=>simp[acp,HT.aU]
  |some i =>
   simp only[acp,HT.aU,Option.getD_none,show (1:Int) > 0 by decide,ï];by_cases h:i<0
   ·simp only[h,ï]<;>omega
   ·simp only[h,î]<;>omega
 ·cases hi with
  |none=>simp[acp,HT.aU]
  |some i =>
   simp only[acp,HT.aU,Option.getD_none,show (1:Int) > 0 by decide,ï];by_cases h:i<0
   ·simp only[h,ï]<;>omega
   ·simp only[h,î]<;>omega
def O0 (its:List Ç) (lo hi:Option Int):slicePick its.toArray lo hi none=((its.drop (HT.aU its.length 0 lo)).take (HT.aU its.length its.length hi-HT.aU its.length 0 lo)).toArray:=by
 obtain⟨Z,Y,X⟩:=Pq lo hi its.toArray.size;unfold slicePick;rw[Z,Y,X]
 simp only[sliceRange_one,pick_run,Û]<;>rfl
def aau (K:ĥ):V->Option Int->Option Int->Hp->VK->Prop:=λx lo hi H Q=>∃a Z,x=.ref a/\bh K H a Z/\∀p,H p=none->Q (.ref p) (upd H p (.lst (kA Z lo hi)))
def Vh:wG X (aau X.K):=by
 intro R s σ H x v P O lo hi N Q I V hs U pu h;obtain⟨a,Z,rfl,T,q⟩:=h;cases V;obtain⟨its,r,W,S⟩:=I.list T;have Y:=r.length;refine⟨"list",_,slot_list_getitem.lookup,W.isList.typeIs,?_⟩
 refine wpAny_getItem_list_slice W.isList hs U pu .none (by simp) ?_ (by rw[Û]<;>omega)
 rw[O0,<- Y];refine⟨.ref s.heap.objs.size,_,I.laid (t':=s.toks) (o:=.lst (kA Z lo hi)) (λb M q=>Á _ q) (adv _) ?_,rfl,q _ (I.aE.fresh (adv _))⟩;exact⟨Ú (HM Z lo hi) S,_,0,(r.drop (HT.aU Z.length 0 lo)).take (HT.aU Z.length Z.length hi-HT.aU Z.length 0 lo),Ë _ rfl⟩
def AU:cT X (.builtin "len") (λxs H Q=>∃p ys,xs=[.ref p]/\(bh X.K H p ys\/bz X.K H p ys)/\Q (.int ys.length) H):=by
 intro T s σ H xs S Q I r h;obtain⟨p,ys,rfl,hq,q⟩:=h;obtain⟨u,rfl,V⟩:=vals1 r;cases V;have R:=pB
 rcases hq with hq|hq
 ·obtain⟨its,Y,W,U⟩:=I.list hq
  have Z:=Y.length
  exact Calls.call_len_list W.isList (by simp only[Û]<;>omega) ⟨.int ys.length,H,I.tok _,⟨s.toks+1,by rw[Û,Z]⟩,q⟩
 ·obtain⟨its,Y,W,U⟩:=I.tuple hq
  have Z:=Y.length
  exact len_tuple W (by simp only[Û]<;>omega) ⟨.int ys.length,H,I.tok _,⟨s.toks+1,by rw[Û,Z]⟩,q⟩
def Pr:cT X (.builtin "len") (λxs H Q=>∃z,xs=[.str z]/\z.length<=Ø/\Q (.int z.length) H):=by
 intro Z s σ H xs Y Q I r h;obtain⟨z,rfl,W,q⟩:=h;obtain⟨u,rfl,t,rfl⟩:=vals1 r;have V:=pB;exact len_str (by omega) ⟨.int z.length,H,I.tok _,⟨_,rfl⟩,q⟩
def Hw:cT X (.type "tuple") (λxs H Q=>∃p ys,xs=[.ref p]/\((bh X.K H p ys/\∀l,H l=none->Q (.ref l) (upd H l (.tup ys)))\/(bz X.K H p ys/\Q (.ref p) H))):=by
 intro U s σ H xs N Q I r h;obtain⟨p,ys,rfl,h⟩:=h;obtain⟨u,rfl,P⟩:=vals1 r;cases P
 rcases h with ⟨Y,q⟩ | ⟨Y,q⟩
 ·obtain⟨its,W,V,T⟩:=I.list Y
  have S:=W.length
  refine call_tuple_list V.isList (λZ kp=>?_) (by simp only[Û]<;>omega)
  have R:Inv X U σ H { s with heap:=Z }:=I.kept (t':=s.toks) kp
  have O:Inv X U σ (upd H Z.objs.size (.tup ys)) { s with heap:=Z.push { cls:=.type "tuple",data:=.seq its.toArray } } :=
   R.laid (t':=s.toks) (λb o e=>Á _ e) (adv _) (show cR X.prog X.w _ _ _ (.tup ys) from ⟨T,its,W,IsTup.new _ _⟩)
  exact⟨.ref Z.objs.size,_,O,rfl,q _ (R.aE.fresh (adv _))⟩
 ·obtain⟨its,W,V,T⟩:=I.tuple Y
  exact call_tuple_same V ⟨.ref p,H,I,rfl,q⟩
def NI (K:ĥ) (T:String) (x:V) (H:Hp):Prop:=match x with
 | .str _=>T="str"
 | .int _=>T="int"
 | .ref p=>(T="list"/\∃Y,bh K H p Y)\/(T="tuple"/\∃o,K.lookup p=some o/\o.cls=.type "tuple"/\o.dict=none) \/
   (T="dict"/\((∃Z,H p=some (.dK Z))\/∃Z,H p=some (.dT Z)))\/(T="set"/\∃S n,H p=some (.set S n))
 |_=>False
def Xp {π:List (ä×Obj)} {σ:St} {H:Hp} {s:Å} {T:String} {x:V} {v:Ç} (I:Inv X π σ H s) (r:RelV x v) (ty:NI X.K T x H) :
  s.TypeIs v T/\∀a,v=.ref a->∃ob,s.heap.get? a=some ob/\ob.dict=none:=by
 cases x with
 |str z =>
  obtain⟨t,rfl⟩:=r;cases (show T="str" from ty)
  exact⟨typeIs_str s z t,λ_ e=>nomatch e⟩
 |int i =>
  obtain⟨t,rfl⟩:=r;cases (show T="int" from ty)
  exact⟨typeIs_int s i t,λ_ e=>nomatch e⟩
 |ref p =>
  cases r
  rcases ty with ⟨rfl,P,U⟩ | ⟨rfl,o,Z,R,Y⟩ | ⟨rfl,Z⟩ | ⟨rfl,S,n,Z⟩
  ·obtain⟨its,_,W,_⟩:=I.list U
   refine⟨W.isList.typeIs,λa e=>?_⟩;cases e;obtain⟨o,n,e,c,Y,_⟩:=W;exact⟨o,e,Y⟩
  ·refine⟨⟨o,I.iX p o Z,R⟩,λa e=>?_⟩
   cases e;exact⟨o,I.iX _ o Z,Y⟩
  ·have z:∃o,s.heap.get? p=some o/\o.ExactDict:=by
    rcases Z with ⟨Q,Z⟩ | ⟨Q,Z⟩
    ·obtain⟨_,_,_,_,o,_,_,e,ex,_⟩:=I.aE p _ Z
     exact⟨o,e,ex⟩
    ·obtain⟨_,_,_,_,o,_,_,e,ex,_⟩:=I.aE p _ Z
     exact⟨o,e,ex⟩
   obtain⟨o,e,ex⟩:=z;refine⟨⟨o,e,ex.1⟩,λa e2=>?_⟩;cases e2;exact⟨o,e,ex.2.1⟩
  ·obtain⟨o,_,_,_,e,ex,_⟩:=I.aE p _ Z
   refine⟨⟨o,e,ex.1⟩,λa e2=>?_⟩;cases e2;exact⟨o,e,ex.2.1⟩
 |_=>exact ű ty
def tBM (K:ĥ) (T:String) (r:V->List V->Hp->VK->Prop) (to:TE) (t:TA):TE:=fun σ H Q=>to σ H λx Z=>NI K T x Z/\t σ Z λY X=>r x Y X Q
variable {o e:ľ} {es:List ľ} {to:TE} {t:TA} {name:Str} {apos dI:Pos} {T id:String} {r:V->List V->Hp->VK->Prop}
def Y6 (pa:PlainAttrs T) (slot:Slot T name id) (hty:typeOf (.builtin id)=pure (.type "method_descriptor")) (hm:MtR X id r) (ho:PE X o to) (ha:PA X (e::es) t)
  (Dy:aby o name X.env (ţ o X.env)=ţ o X.env:=by rfl)
  (Ez:((ũ dI (ß (e::es) X.env)).all (λx=>!x.1)&&(ac7 dI (abl [] X.env)).all (λx=>x.1.isSome)
   && decide ((e::es).length+([]:List Keyword).length+(if ([]:List Keyword).isEmpty then 0 else 1)<30))=true:=by rfl)
  (Dz:(apos.endLine==dI.line)=true:=by rfl) (hs:ß (e::es) X.env=(false,ţ e X.env)::ß es X.env:=by rfl) (CJ:(ũ dI (ß es X.env)).any (·.1)=false:=by rfl) :
  PE X (.Call (.Attribute o name apos) (e::es) [] dI) (tBM X.K T r to t):=by
 intro Z s σ H Q I h;refine wpAny_Call_method_late Dy Ez Dz rfl (aJ (ho Z s σ H _ I h) λv U ⟨x,S,Y,W,ty,R⟩=>?_);obtain⟨P,O⟩:=Xp Y W ty;refine⟨T,id,pa,slot,hty,P,O,?_⟩;have V:=ha dI Z U σ S _ Y R;rw[hs] at V |-
 refine Calls.callWith_builtin (by show (false||(ũ dI (ß es X.env)).any (·.1))=false;rw[CJ]<;>rfl) (Calls.evalArgs_plain ?_)
 exact aJ V λN M ⟨L,J,G,F,E⟩=>hm Z M σ J x L v N Q G W F E
end
def MtM (X:Cx) (id:String) (r:V->List V->Hp->VK->Prop):Prop :=
 ∀(Z:List (ä×Obj)) (s:Å) (σ:St) (H:Hp) (x:V) (Y:List V) (v:Ç) (W:List Ç) (Q:VK),Inv X Z σ H s->RelV x v->Vals Y W->r x Y H Q ->
  á (í X.prog X.w) X.A (call (.builtin id) (v::W)) (EP X Z σ Q) X.xe s
def Vals.one:∀{x:V} {us:List Ç},Vals [x] us->∃u,us=[u]/\RelV x u
 |_,_,.cons r .nil=>⟨_,rfl,r⟩
theorem Vals.rep (h:Vals xs us):∀k:Nat,Vals (Ï k xs).flatten (Ï k us).flatten
 |0=>.nil
 |k+1=>by
  rw[Ř,Ř,δ,δ];exact Vals.append h (Vals.rep h k)
theorem foldl_rep (its:List Ç):∀(k:Nat) (acc:List Ç),
  List.foldl (λx1 x2=>x1++x2) acc.toArray (Ï k its.toArray)=(acc++(Ï k its).flatten).toArray
 |0,acc=>by simp
 |k+1,acc=>by
  have e:acc.toArray++its.toArray=(acc++its).toArray:=by simp
  have e2:(acc++its)++(Ï k its).flatten=acc++(Ï (k+1) its).flatten:=by
   rw[Ř,δ,Ĩ]
  rw[<- e2,<- foldl_rep its k (acc++its),<- e,Ř,ū]
section
variable {X:Cx} {π:List (ä×Obj)} {σ:St} {H:Hp} {s:Å} {l b:ä} {xs ys zs:List V}
def Inv.aav {its its':List Ç} {n:Nat} {f:Array Ç->Array Ç} {t':Nat} (I:Inv X π σ H s) (hH:H l=some (.lst xs))
  (e:s.heap.get? l=some { cls:=.type "list",data:=.seq its.toArray n }) (hf:f its.toArray=its'.toArray) (hv:Vals ys its') (hz:ys.length<=Ø) :
  Inv X π σ (upd H l (.lst ys)) { s with heap:=s.heap.update l (Ŀ f),toks:=t' }:=by
 have q:=PySem.IsL.update e f;rw[hf] at q;refine I.write (x:=l) (e:=l) (by rw[hH];exact trivial) (.inl rfl) (λW u Z Y=>(ģ s.heap (Ŀ f) (ŕ Z)).trans Y) ⟨_,q⟩ ?_;exact⟨hz,its',_,hv,q⟩
def Inv.Na (I:Inv X π σ H s) (hv:Vals ys its) (hz:ys.length<=Ø) :
  Inv X π σ (upd H s.heap.objs.size (.lst ys)) { s with heap:=s.heap.push { cls:=.type "list",data:=.seq its.toArray },toks:=t' } :=
 I.laid (λ_ _ q=>Á _ q) (adv _) ⟨hz,its,0,hv,Ë _ rfl⟩
theorem Inv.fresh (I:Inv X π σ H s):H s.heap.objs.size=none:=I.aE.fresh (adv _)
def Inv.zC (I:Inv X π σ H s) (hH:H l=some (.lst xs)):xs.length<=Ø/\∃(its:List Ç) (n:Nat),Vals xs its/\xs.length=its.length/\s.heap.get? l=some { cls:=.type "list",data:=.seq its.toArray n }:=by
 obtain⟨z,its,n,r,e⟩:=I.aE l _ hH;exact⟨z,its,n,r,r.length,e⟩
def Tp (h:n<=Ø):abW n=false:=by
 unfold abW;exact æ (by omega)
end
section
variable {X:Cx}
def Vi:V->List V->Hp->VK->Prop:=λx Y H Q=>∃l Z y,x=.ref l/\Y=[y]/\H l=some (.lst Z)/\Z.length<Ø/\Q .ax (upd H l (.lst (Z++[y])))
def RK:MtM X "list.append" Vi:=by
 intro V s σ H x U v T Q I Y rv h;obtain⟨l,S,y,rfl,rfl,Z,R,q⟩:=h;cases Y;obtain⟨u,rfl,W⟩:=rv.one;obtain⟨z,its,n,r,P,e⟩:=I.zC Z;refine call_meets F.slot_list_append ⟨_,e,rfl⟩ F.entry_list_append (F.args_list_append_2 _ _) (PySem.list_append l its.toArray n u (by rw[Û];omega)) ⟨e,?_⟩;refine⟨.ax,_,I.aav (its':=its++[u]) Z e (by simp) (r.append (.cons W .nil)) ?_,rfl,q⟩;rw[Ð,ā];omega
def aaw:R2:=λx y H Q=>∃l b Z zs,x=.ref l/\y=.ref b/\H l=some (.lst Z)/\H b=some (.lst zs)/\Z.length+zs.length<=Ø/\∀p,H p=none->Q (.ref p) (upd H p (.lst (Z++zs)))
def Xq:bp X (ś .Add) aaw:=by
 intro R s σ H x y v u Q I Y W h;obtain⟨l,b,O,zs,rfl,rfl,V,U,N,q⟩:=h;cases Y;cases W;obtain⟨z,its,n,r,M,e⟩:=I.zC V;obtain⟨L,Z,K,T,J,e2⟩:=I.zC U;refine PySem.P.add_list e e2 ?_ (by rw[Û,Û];omega);have S:its.toArray++Z.toArray=(its++Z).toArray:=by simp
 rw[S];exact⟨.ref _,_,I.Na (t':=s.toks) (r.append T) (by rw[Ð];omega),rfl,q _ I.fresh⟩
def aax:R2:=λx y H Q=>∃l k Z,x=.ref l/\y=.int k/\H l=some (.lst Z)/\-(2 ^ 63)<=k/\k<2 ^ 63/\Z.length*k.toNat<=Ø /\
 ∀p,H p=none->Q (.ref p) (upd H p (.lst (Ï k.toNat Z).flatten))
def len_rep {α:Type} (xs:List α) (k:Nat):(Ï k xs).flatten.length=k*xs.length:=by
 induction k with
 |zero=>simp
 |succ k ih=>rw[Ř,δ,Ð,ih,Nat.succ_mul,Nat.add_comm]
def Xr:bp X (ś .Mult) aax:=by
 intro D s σ H x y v u Q I O N h;obtain⟨l,k,C,rfl,rfl,M,L,K,P,q⟩:=h;cases O;obtain⟨t,rfl⟩:=N;obtain⟨z,its,n,r,J,e⟩:=I.zC M;have Z:its.toArray.size*k.toNat<=Ø:=by rw[Û,<- J];exact P
 have Y:¬ its.toArray.size*k.toNat > (2 ^ 63-1) / 8:=by
  have:(Ø:Nat)<=(2 ^ 63-1) / 8:=by decide
  omega
 have W:¬ (!Builtin.List.listFitsIndex k)=true:=by
  rw[fitsIndex_both L K];exact Ö
 have G:¬ abW (its.toArray.size*k.toNat)=true:=by
  rw[Tp Z];exact Ö
 have V:List.foldl (λS R=>S++R) #[] (Ï (if its.toArray.isEmpty=true then 0 else k.toNat) its.toArray)=(Ï k.toNat its).flatten.toArray:=by
  have f0:∀m:Nat,List.foldl (λS R=>S++R) #[] (Ï m its.toArray)=(Ï m its).flatten.toArray:=λm=>by
   have:=foldl_rep its m [];rw[ē] at this;exact this
  rw[f0]
  cases its with
  |nil=>simp
  |cons a B=>rw[å (by simp)]
 refine wpAny_binaryOp_repeat_ref (T:="list") (U:="int") (by decide) ⟨_,e,rfl⟩ (λE=>typeIs_int E k t) noFill_list_mul F.fills_int_mul acY repeat_list F.slot_int_index.lookup
  (call_meets acY (typeIs_int s k t) F.entry_int_rmul (F.args_int_rmul_2 _ _) (int___rmul___int_list k t l its.toArray n)
   ⟨e,rfl,⟨_,e,rfl⟩,call_meets F.slot_list_mul ⟨_,e,rfl⟩ F.entry_list_mul (F.args_list_mul_2 _ _) (AutoListH.list___mul___list_int_3 l its.toArray n k t W Y G) ⟨e,?_⟩⟩)
 rw[V];exact⟨.ref _,_,I.Na (t':=s.toks) (r.rep k.toNat) (by rw[len_rep,Nat.mul_comm];exact P),rfl,q _ I.fresh⟩
end
section
variable {prog:ó} {w:Ĕ} {A:Ĉ} {E:Ç->Å->Prop} {s:Å}
set_option maxRecDepth 100000 in
end
end L2
namespace NJ
open PySem PySem.W PySem.Calls PyProof.Rows
def OH:∀(ns:List Int) (vs:List Ç),WellAll P h vs (ns.map WData.int)->aco vs ns:=by
 intro ns
 induction ns with
 |nil =>
  intro vs w;rw[Ğ] at w;cases w;exact .nil
 |cons n ns ih =>
  intro vs w;rw[Î] at w
  cases w with
  |cons a b =>
   cases a;exact .cons _ _ (ih _ b)
def RL {l:OpenLaw} {n:Nat} (hn:l.most=some n) {P:Params} {h:œ} {args:List WData} {vals:List Ç}
  (zD:l.row.toRowW.claim.pre args=true) (Fp:WellAll P h vals args) :
  ∃a vs ns,vals=[Ł a]/\args=[WData.list (ns.map WData.int)]/\h.get? a=some { cls:=.type "list",data:=.seq vs.toArray }/\aco vs ns/\ns.length<=n:=by
 have W:WShape.hasAll [] args [.list .int]=true:=(pre_splitW zD).1;have V:l.pre.holds [] { args:=args }=true:=(pre_splitW zD).2;obtain⟨d,r,rfl,U,T⟩:=hasAllW_cons W;obtain rfl:=hasAllW_nil T;obtain⟨L,rfl,S⟩:=hasW_list U;obtain⟨ns,rfl⟩:=items_int S;have Z:ns.length<=n:=by
  unfold OpenLaw.pre at V;have Y:(WTm.not (.lt (.lit (.int (n:Int))) (.len (.arg 0)))).holds [] { args:=[.list (ns.map .int)] }=true:=by
   have Y:=(holds_andW V).1;rw[hn] at Y;exact Y
  have X:=condW_of Y (w_not (w_lt w_lit (w_len_list (w_arg rfl))));rw[Â] at X;refine ψ λq=>?_;have R:(n:Int)<((ns.length:Nat):Int):=by omega
  first
   |(rw[Õ R] at X;exact absurd X (by decide))
   |(simp at X;omega)
 cases Fp with
 |cons Q O =>
  cases O
  cases Q with
  |list N M=>exact⟨_,_,ns,rfl,rfl,N,OH ns _ M,Z⟩
def RM (l:OpenLaw) (args:List WData):l.row.toRowW.claim.post args (.bool true) args=true :=
 postW_of (r:=l.row.toRowW) (X:=(true==true))
  (show WShape.has [] (.bool true) .bool=true by first|rfl|decide|simp[WShape.has,WShape.arms,WShape.armsAll])
  (show (WTm.eq .res (.lit (.bool true))).value [] { args:=args,res:=some (.bool true),after:=args }=some (.bool (true==true)) from w_eq_bool (w_res rfl) w_lit) rfl
def P1 {l:OpenLaw} {n:Nat} {q:ó} {loose:List Str} {XP:(Str->Option Ç)->œ->Prop} {YP:Ĕ->œ->Prop} {d:DefRec}
  (hn:l.most=some n) (wI:d.params.defaults=[])
  (call:∀(w:Ĕ) (cY bo:Å) (mg mb:Str->Option Ç) (fa:ä) (o:Obj) (pm cd doc:Ç) (a:ä) (vs:List Ç) (ns:List Int),
   Ground q loose [] XP w cY mg mb bo.heap->YP w bo.heap ->
   bo.heap.get? fa=some o->o.data=.func (docDef d.name d.params d.body d.scope pm cd doc)->bo.heap.CodeRec cd d.name->mg d.name=some (.ref fa) ->
   bo.heap.get? a=some { cls:=.type "list",data:=.seq vs.toArray }->aco vs ns->ns.length<=n->bo.gens=#[] ->
   Ź (í l.prog w) callerA (.call (.ref fa) ⟨[.ref a],[]⟩) (λr s'=>r=.ok (.ret (.bool true))/\OldK bo.heap s'.heap/\s'.os=bo.os/\adl s'.gens) bo) :
  WalkO q loose XP YP l.row.toRowW d [] (λf vs=>PySem.call f vs):=by
 intro w cY bo mg mb G Y fa o pm cd doc W kV V U T X S R args vals as Q P O N F;obtain rfl:W=.none:=Dflts.none X wI;obtain rfl:kV=.none:=Dflts.noKw X;obtain⟨a,vs,ns,rfl,rfl,M,hints,Z⟩:=RL hn Q N;refine enter_call (ŝ (call w cY bo mg mb fa o pm cd doc a vs ns G Y V (fd_plain U) T S M hints Z R) λr s' L=>?_);obtain⟨rfl,K,J,I⟩:=L
 exact⟨.inl ⟨.bool true,.bool true,[],rfl,λ_=>rfl,.bool true,RM l _,λ_=>⟨List.Pairwise.nil,λ_ H=>(nomatch H)⟩⟩,K,J,I⟩
section
variable {prog:ó} {w:Ĕ} {A:Ĉ} {E:Ç->Å->Prop} {s:Å} {K:ĥ}
noncomputable def ledger (h:œ) (L d:ä):List (ä×Obj):=(Ù h.objs.size).filterMap λa=>if a=L\/a=d then none else (h.get? a).map λo=>(a,o)
end
end NJ
namespace L2
open PySem PySem.Spec PyProof.Rows
theorem IA:∀{vs:List Ç} {ns:List Int},aco vs ns->Vals (ns.map V.int) vs
 |_,_,.nil=>.nil
 |_,_,.cons n t h=>.cons ⟨t,rfl⟩ (IA h)
def EB (H:Hp):Prop:=∀b,H b=none\/∃o Z,H b=some (.bS o (.lst Z))
def Tq {P:ó} {w:Ĕ} {K:ĥ} {mg mb:Str->Option Ç} {CX:jA} {k:Nat} {fa a:ä} {fd:ő} {x:Str} {sp:Sp} {bo:Å} {vs:List Ç} {ns:List Int}
  (KX:K.In bo.heap) (tH:bo.heap.Ns â mg) (hb:bo.heap.Ns builtinsNs mb) (hbb:∀x:Str,x≠"__name__"->mb x=ć x) (aaB:bo.heap.NoLimit) (hg:bo.gens=#[])
  (ha:bo.heap.get? a=some { cls:=.type "list",data:=.seq vs.toArray }) (hi:aco vs ns) (hl:ns.length<=Ø) (hr:bC k callerA)
  (F:∀base:œ,K.In base->base.Ns â mg->dH P w K mg base CX k fa fd [x] sp) (Y8:∀(s:Å) (u:Ç),BindsTo s fd ⟨[u],[]⟩ [(x,u)])
  (oE:∀H:Hp,EB H->bh K H a (ns.map V.int)->sp [.ref a] H (λv _=>v=.bl true) λ_ _ _=>False)
  (Fq:∀H e s',CX [] H bo (λ_ _ _=>False) e s'->False) :
  Ź (í P w) callerA (.call (.ref fa) ⟨[.ref a],[]⟩) (λr s'=>r=.ok (.ret (.bool true))/\OldK bo.heap s'.heap/\s'.os=bo.os/\adl s'.gens) bo:=by
 have rv:=IA hi;have U:=hi.length;have core:∀H:Hp,EB H->bh K H a (ns.map V.int)->bT P w H bo.heap->(∀b,H b≠none->b=a)->(H a≠none->K.lookup a=none) ->
   Ź (í P w) callerA (.call (.ref fa) ⟨[.ref a],[]⟩) (λr s'=>r=.ok (.ret (.bool true))/\OldK bo.heap s'.heap/\s'.os=bo.os/\adl s'.gens) bo:=by
  intro H Q J O N I;have M:∀{b:ä} {o:Obj},bo.heap.get? b=some o->H b=none->(mU bo.heap H).get? b=some o:=λe n=>S8 e n;have G:∀{b:ä} {o:Obj} {Z:Array DictEntry} {Y:Nat},bo.heap.get? b=some o->o.data=.dict Z Y->H b=none:=λ{b o Z Y} e d=>by
   cases q:H b with
   |none=>rfl
   |some u =>
    have T:b=a:=N b (by rw[q];simp);subst T;rw[ha] at e;cases e;have E:Data.seq vs.toArray _=Data.dict Z Y:=d;cases E
  have W:∀{b:ä} {m:Str->Option Ç},bo.heap.Ns b m->(mU bo.heap H).Ns b m:=λ{b m} ⟨o,Z,Y,e,d,r⟩=>⟨o,Z,Y,M e (G e d),d,r⟩;have L:K.In (mU bo.heap H):=λb o e=>M (KX b o e) (by
   cases q:H b with
   |none=>rfl
   |some u =>
    have T:b=a:=N b (by rw[q];simp);subst T;rw[I (by rw[q];simp)] at e;cases e)
  have D:Mod K mg (mU bo.heap H):=⟨L,W tH,⟨mb,W hb,hbb⟩,let ⟨C,B,A⟩:=aaB;⟨C,W B,A⟩⟩
  have y:oi P w K mg (mU bo.heap H) callerA [] bo H:=⟨rfl,D,λb o e=>UX e,abk (RB _ _),trivial,λb hb=>absurd (show b∈([]:List ä) from hb) (by simp),O,.of_eq hg⟩;refine ŝ ((F _ L (W tH)).run callerA [] bo H ⟨[.ref a],[]⟩ [.ref a] [.ref a] _ _ hr y (Y8 bo (.ref a)) (.cons rfl .nil) (oE H Q J)) λr s' h=>?_
  cases r with
  |error e=>exact(Fq H e s' h).elim
  |ok t =>
   cases t with
   |next=>exact ű h
   |brk=>exact ű h
   |cont=>exact ű h
   |ret u =>
    obtain⟨v,g,os,bare,un,S,p,q⟩:=h;have l:v=.bl true:=q;subst l;obtain rfl:u=Value.bool true:=p;refine⟨rfl,OldK.of_keep λb o e=>?_,os,bare⟩
    cases q:H b with
    |none=>exact un.keep b o e q (by intro z;exact absurd (show b∈([]:List ä) from z) (by simp)) (by simp)
    |some u =>
     rcases Q b with z | ⟨j,f,z⟩
     ·rw[q] at z;cases z
     ·have i:=un.iQ b j _ z
      obtain⟨e1,_⟩:=O b _ z;obtain⟨e2,_⟩:=S b _ i;rw[e] at e1;cases e1;exact e2
 cases R:K.lookup a with
 |some o =>
  have e:=KX a o R;rw[ha] at e;cases e;refine core (λ_=>none) (λ_=>.inl rfl) (.inr ⟨_,vs.toArray,_,R,rfl,rfl,rfl,by rw[Û,U];exact hl,by simpa using rv⟩) (λb u z=>by have X:(none:Option HO)=some u:=z;cases X) (λb z=>absurd rfl z) λz=>absurd rfl z
 |none =>
  refine core (λb=>if b=a then some (.bS { cls:=.type "list",data:=.seq vs.toArray } (.lst (ns.map V.int))) else none) (λb=>?_) (.inl (.inr ⟨{ cls:=.type "list",data:=.seq vs.toArray },Þ rfl⟩)) (λb u z=>?_) (λb z=>?_) λ_=>R
  ·by_cases hb:b=a
   ·exact .inr ⟨_,_,Þ hb⟩
   ·exact .inl (å hb)
  ·by_cases hb:b=a
   ·have X:=(Þ hb).symm.trans z
    cases X;subst hb;exact⟨ha,by rw[Â];exact hl,vs,_,rv,ha⟩
   ·have X:=(å hb).symm.trans z
    cases X
  ·by_cases hb:b=a
   ·exact hb
   ·exact absurd (å hb) z
noncomputable abbrev KOf {K:ĥ} {h:œ} (_:K.In h):ĥ:=K
def Vj {l:PySem.W.OpenLaw} {n k:Nat} {q:ó} {loose:List Str} {XP:(Str->Option Ç)->œ->Prop} {YP:Ĕ->œ->Prop} {d:DefRec} {K:Params->ĥ} {CX:Ĕ->jA} {sp:Ĕ->Sp} {x:Str}
  (hn:l.most=some n) (qu:n<=Ø) (wI:d.params.defaults=[]) (hr:bC k callerA)
  (hY:∀(w:Ĕ) (h:œ),YP w h->(K w.params).In h)
  (F:∀(w:Ĕ) (mg:Str->Option Ç) (fa:ä) (h:œ),(K w.params).In h->h.Ns â mg->mg d.name=some (.ref fa) ->
   ∃fd:ő,(∀(s:Å) (u:Ç),BindsTo s fd ⟨[u],[]⟩ [(x,u)]) /\
    ∀base:œ,(K w.params).In base->base.Ns â mg->dH l.prog w (K w.params) mg base (CX w) k fa fd [x] (sp w))
  (oE:∀(w:Ĕ) (H:Hp) (a:ä) (ns:List Int),ns.length<=n->EB H->bh (K w.params) H a (ns.map V.int)->sp w [.ref a] H (λv _=>v=.bl true) λ_ _ _=>False)
  (Fq:∀(w:Ĕ) (H:Hp) (s:Å) (e:Ç) (s':Å),CX w [] H s (λ_ _ _=>False) e s'->False) :
  PySem.W.WalkO q loose XP YP l.row.toRowW d [] (λf vs=>PySem.call f vs):=by
 refine NJ.P1 hn wI λw L U mg J fa o pm cd doc a vs ns G Y I E D S R hints Z Q=>?_;have X:=hY w _ Y;obtain⟨fd,P,O⟩:=F w mg fa _ X G.T.g S;exact Tq X G.T.g G.T.b G.T.builtins G.T.nolimit Q R hints (Ú Z qu) hr O P (λH N M=>oE w H a ns Z N M) λH e s'=>Fq w H U e s'
noncomputable def kg (s:ado):Arguments:=match s with
 | .FunctionDef _ a _ _ _ _ _ _ _ _=>a
 |_=>{ posonlyargs:=[],args:=[],vararg:=none,kwonlyargs:=[],kw_defaults:=[],kwarg:=none,defaults:=[] }
noncomputable def ik (s:ado):List ado:=match s with
 | .FunctionDef _ _ b _ _ _ _ _ _ _=>b
 |_=>[]
noncomputable def dJ (s:ado):acf:=match s with
 | .FunctionDef _ _ _ _ _ _ sc _ _ _=>sc
 |_=>{ kind:=.function,names:=[],isGenerator:=false,isCoroutine:=false }
abbrev fK:jA:=λ_ _ _ _ _ _=>False
abbrev E0:XK:=λ_ _ _=>False
def zj:Passes fK X E0:=λ_ _ _ _ _ _ _ h=>h.elim
structure oG (K:ĥ) (x qual:Str) (st:ado) (f:ä) (fd:ő):Prop where
 ex:∃(oc:Ç) (od:Option ä) (kV doc pm:Ç) (an:Option ä) (bO ct:Ç) (oC:Array (Option Ç)),
  fd=ι x qual (kg st) (ik st) (dJ st) .none kV doc pm an bO ct/\K.lookup f=some ⟨oc,od,.func fd,oC⟩/\acz K bO qual=true
 kp:ź K (.ref f)=true
section
variable {P:ó} {w:Ĕ} {K:ĥ} {mg:Str->Option Ç} {base:œ}
def oG.ok {x qual:Str} {st:ado} {f:ä} {fd:ő} {N ps:List Str} {k:Nat} {sp:Sp} (F:oG K x qual st f fd) (S:rQ N ps (dJ st)) (len:∀vs H Q E,sp vs H Q E->vs.length=ps.length)
  (Dx:∀(bO:Ç) (A:Ĉ) (outer:List Env) (s:Å) (H:Hp) (vs:List V) (Q:VK) (E:XK),bC k (A.deeper (envOfC qual (dJ st) s.heap.objs.size f bO))->sp vs H Q E ->
   ∃t,dj (mV fK P w K mg base N qual (dJ st) f bO A outer s H E).qq (ik st) t/\t { nx:=λ_ H'=>Q .ax H',rt:=Q } (start N vs) H):dH P w K mg base fK (k+1) f fd ps sp:=by
 obtain⟨W,U,kV,doc,pm,an,bO,T,R,rfl,lk,Z⟩:=F.ex;refine Y0 lk Z S len λA outer s H vs Q E Y X=>?_;obtain⟨t,h,q⟩:=Dx bO A outer s H vs Q E Y X;exact⟨t,h.qq,q⟩
def oG.binds {x qual:Str} {st:ado} {f:ä} {fd:ő} {ps:List Str} (F:oG K x qual st f fd)
  (h:∀(kV doc pm:Ç) (an:Option ä) (bO ct:Ç) (us:List Ç),us.length=ps.length->bindArgs (ι x qual (kg st) (ik st) (dJ st) .none kV doc pm an bO ct) ⟨us,[]⟩=pure (ps.zip us)):Binds K fd ps []:=by
 obtain⟨Z,Y,kV,doc,pm,an,bO,ct,X,rfl,lk,W⟩:=F.ex;exact .all (h kV doc pm an bO ct)
def yN {x qual:Str} {st:ado} {f:ä} {oc:Ç} {od an:Option ä} {oC:Array (Option Ç)} {kV doc pm bO ct:Ç} (l:K.lookup f=some ⟨oc,od,.func (ι x qual (kg st) (ik st) (dJ st) .none kV doc pm an bO ct),oC⟩)
  (c:acz K bO qual=true) (k:ź K (.ref f)=true):oG K x qual st f (ι x qual (kg st) (ik st) (dJ st) .none kV doc pm an bO ct):=⟨⟨oc,od,kV,doc,pm,an,bO,ct,oC,rfl,l,c⟩,k⟩
end
def kB (H H':Hp):Prop:=∀b o,H b=some o->H' b=some o
def kB.refl (H:Hp):kB H H:=λ_ _ h=>h
def QH (J:Nat->Å->Prop)
 (turn:∀n s,J n s->á (í P w) A (ſ gA) (λr s1=>match r with
   |none=>R (.ok .next) s1
   |some v=>á (í P w) A (Ū tg gA v) (λ_ s2=>á (í P w) A (adp tg ce v) (λ_ s3 =>
     á (í P w) A (forIn tests true λc r=>if r=true then do let ok <- isTrue c ce (ţ c ce);pure (Ŭ ok) else pure (Ŭ r)) (λok s4 =>
      if ok=true then á (í P w) A (ţ el ce) (λy s5=>á (í P w) A (call (.builtin "list.append") [av,y]) (λ_ s6=>∃m,m<n/\J m s6) (λ_ _=>False) s5) (λ_ _=>False) s4
      else ∃m,m<n/\J m s4) (λ_ _=>False) s3) (λ_ _=>False) s2) (λ_ _=>False) s1) (λ_ _=>False) s)
 (n:Nat) (h:J n s):Ź (í P w) A (.compLoop (.ListComp el [⟨tg,src,tests,0⟩] sc ps) 0 gA av ce) R s:=by
 refine codeAny_loop rfl J (λn s X=>?_) n h
 show á _ A ((compTurn (.ListComp el [⟨tg,src,tests,0⟩] sc ps) 0 gA av ce).onRaise (λx=>do noteFrame x ce;theTreesLotGoes x)) _ _ s
 refine wpAny_noted ?_;rw[compTurn_list];refine À (μ (À (ķ (turn n s X) (λr s1 Z=>?_) λ_ _ z=>z.elim)))
 cases r with
 |none=>exact Ä Z
 |some v =>
  refine À (ķ Z (λ_ s2 W=>?_) λ_ _ z=>z.elim);refine À (ķ W (λ_ s3 V=>À (ķ V (λok s4 Y=>?_) λ_ _ z=>z.elim)) λ_ _ z=>z.elim)
  cases ok with
  |false=>exact Ä ⟨rfl,Y⟩
  |true =>
   exact À (À (ķ Y (λy s5 U=>À (ķ U (λ_ s6 T=>Ä (Ä ⟨rfl,T⟩)) λ_ _ z=>z.elim)) λ_ _ z=>z.elim))
theorem Bq (env:Env):∀(l:List (Str×abg)) (acc:List (Str×ä)),(∀n,(n,NameKind.free)∈l->∃c,env.cells.lookup n=some c) ->
  ∃cl,(forIn l acc (λ(p:Str×abg) (cs:List (Str×ä))=>(do
   if (p.2==NameKind.free)=true then do let c <- cellOf env p.1;pure (Ŭ ((p.1,c)::cs)) else pure (Ŭ cs):Sem (ForInStep (List (Str×ä))))))=pure cl /\
   ∀n c,cl.lookup n=some c↔(((n,NameKind.free)∈l/\env.cells.lookup n=some c)\/((n,NameKind.free)∉l/\acc.lookup n=some c))
 | [],acc,_=>⟨acc,rfl,λn c=>by simp⟩
 |(x,k)::r,acc,h=>by
  rw[List.forIn_cons]
  cases Y:(k==NameKind.free) with
  |false =>
   have U:k≠.free:=by intro e;rw[e] at Y;cases Y
   obtain⟨cl,e,q⟩:=Bq env r acc λn X=>h n (Ò _ X);refine⟨cl,?_,λn c=>?_⟩
   ·simp only[Ã,î]
    exact e
   ·rw[q n c]
    have:(n,NameKind.free)∈(x,k)::r↔(n,NameKind.free)∈r:=by
     constructor
     ·intro Z
      rcases É.mp Z with z|z
      ·injection z with _ T
       exact absurd T.symm U
      ·exact z
     ·exact Ò _
    rw[this]
  |true =>
   have S:k=.free:=by cases k<;>first|rfl|cases Y
   subst S;obtain⟨R,W⟩:=h x Ñ;obtain⟨cl,e,q⟩:=Bq env r ((x,R)::acc) λn X=>h n (Ò _ X);refine⟨cl,?_,λn c=>?_⟩
   ·simp only[ï,cellOf,W]
    exact e
   ·rw[q n c]
    by_cases V:n=x
    ·subst V
     constructor
     ·rintro (⟨_,z⟩ | ⟨_,z⟩)
      ·exact .inl ⟨Ñ,z⟩
      ·rw[ļ,Ľ] at z
       exact .inl ⟨Ñ,W.trans z⟩
     ·rintro (⟨_,z⟩ | ⟨z,_⟩)
      ·by_cases Z:(n,NameKind.free)∈r
       ·exact .inl ⟨Z,z⟩
       ·refine .inr ⟨Z,?_⟩
        rw[ļ,Ľ];exact W.symm.trans z
      ·exact absurd Ñ z
    ·have:(n,NameKind.free)∈(x,NameKind.free)::r↔(n,NameKind.free)∈r:=by
      constructor
      ·intro Z
       rcases É.mp Z with z|z
       ·injection z with Q _
        exact absurd Q V
       ·exact z
      ·exact Ò _
     rw[this,ļ,beq_false_of_ne V]
def CK (h:∀n,(n,NameKind.free)∈sc.names->∃c,env.cells.lookup n=some c) :
  ∃cl,closureFor sc env=pure cl/\∀n c,cl.lookup n=some c↔((n,NameKind.free)∈sc.names/\env.cells.lookup n=some c):=by
 obtain⟨cl,e,q⟩:=Bq env sc.names [] h;refine⟨cl,?_,λn c=>?_⟩
 ·unfold closureFor
  exact(Ķ (λz:Sem (List (Str×ä))=>z >>= λr=>pure r) e)
 ·rw[q n c]
  simp
theorem Jp (f:Str->abg->abg) (x:Str):∀l:List (Str×abg),(l.map λp=>(p.1,f p.1 p.2)).lookup x=(l.lookup x).map (f x)
 | []=>rfl
 |(n,k)::r=>by
  rw[Î,ļ,ļ]
  cases h:x==n with
  |true =>
   have e:x=n:=by simpa using h
   subst e;rfl
  |false=>exact Jp f x r
def xB (sc:acf) (env:Env) (x:Str):(relabel sc env).names.lookup x=(sc.names.lookup x).map λk=>if (k==NameKind.free&&env.scope.kind==.function&&env.kindOf x==some .cell)=true then NameKind.cell else k:=by
 rw[<- Jp (λx k=>if (k==NameKind.free&&env.scope.kind==.function&&env.kindOf x==some .cell)=true then NameKind.cell else k)]
 show abP x (sc.names.map _)=_;congr 1;apply abQ;rintro ⟨n,k⟩ _;dsimp only
 split<;>rfl
noncomputable abbrev cL (X:Cx) (N:List Str) (sc:acf) (cl:List (Str×ä)) (C:ä) (s:Å) (H:Hp) (ex:List ä) (pn:List (ä×Obj)):Cx where
 prog:=X.prog
 w:=X.w
 K:=X.K
 mg:=X.mg
 base:=X.base
 A:=X.A
 N:=N
 cY:=s
 pW:=H
 env:=š sc cl C X.env
 outer:=X.stack
 stack:=X.stack
 ex:=ex
 fn:=λ_=>false
 calm:=X.calm
 pn:=pn
 xe:=λ_ _=>False
structure nX (X:Cx) (sc:acf) (N:List Str) (nt:Nat) (cap:List Nat):Prop where
 kind:sc.kind=.function
 yO:∀x∈sc.names,x.2≠.cell
 names:∀x∈sc.names,x.2=.local->sc.names.lookup x.1=some .local
 frees:∀x∈sc.names,x.2=.free->sc.names.lookup x.1=some .free/\(X.env.scope.names.lookup x.1=some .cell\/X.env.scope.names.lookup x.1=some .free)
 len:N.length=nt+cap.length
 EC:∀(k:Nat) j,cap[k]?=some j->∃x,X.N[j]?=some x/\N[nt+k]?=some x/\(x,NameKind.free)∈sc.names
noncomputable def lq (nt:Nat) (cap:List Nat) (σ:St):St:=Ï nt none++cap.map λj=>(σ[j]?).getD none
def PF (X:Cx) (tests:List ľ) (t:TT):Prop :=
 ∀(Z:List (ä×Obj)) (s:Å) (σ:St) (H:Hp) (Q:Bool->Hp->Prop),Inv X Z σ H s->t σ H Q ->
  á (í X.prog X.w) X.A (forIn tests true λc r=>if r=true then do let ok <- isTrue c X.env (ţ c X.env);pure (Ŭ ok) else pure (Ŭ r)) (TP X Z σ Q) X.xe s
def aaE:TT:=λ_ H Q=>Q true H
def Xs:PF X [] aaE:=λ_ _ _ H _ I h=>wpAny_tests_nil ⟨H,I,h⟩
def Xt (h:PT X c t):PF X [c] t:=λZ s σ H Q I hw=>wpAny_tests_one (h Z s σ H Q I hw)
def oH (g:TG) (nt:Nat):Prop:=∀(x:V) (o Z:St) (H:Hp) (R:St->Hp->Prop),o.length=nt->g x (o++Z) H R->g x (o++Z) H fun Y W=>(∃X:St,X.length=nt/\Y=X++Z)/\R Y W
noncomputable def mM (cap:List Nat) (σ:St):St:=cap.map λj=>(σ[j]?).getD none
def NM (mk:ä->List V->HO) (kK:List V->Prop) (J:It) (nt:Nat) (caps:St) (g:TG) (tf:TT) (te:TE) (H:Hp) (Q:VK):Prop:=∃W:Nat->Nat->List V->Hp->Prop,(∃m,W 0 m [] H) /\
 ∀i m Z Y,W i m Z Y->(J.stop i Y/\kK Z/\∀D,Y D=none->Q (.ref D) (upd Y D (mk D Z))) \/
  (J.go i Y/\kK Z/\∃N:List V->Hp->Prop,(∀X U,N X U->∃T,T < m/\W (i+1) T X U) /\
   ∀o x S,o.length=nt->J.tF i Y x S->g x (o++caps) S fun R O=>tf R O λb P=>if b=true then te R P λv M=>N (Z++[v]) M else N Z P)
def CW (J:It) (nt:Nat) (caps:St) (g:TG) (tf:TT) (te:TE) (H:Hp) (Q:VK):Prop:=NM (λ_ Z=>.lst Z) (λZ=>Z.length<=Ø) J nt caps g tf te H Q
def pP (wi:TI) (nt:Nat) (cap:List Nat) (g:TG) (tf:TT) (te:TE):TE:=fun σ H Q=>wi σ H λJ Z=>CW J nt (mM cap σ) g tf te Z Q
section
variable {fs ex:List ä} {H H':Hp} {h h1 h2:œ} {P:ó} {w:Ĕ}
def Un.adopt {D:ä} {o:HO} (u:Un fs ex H H' h h1) (hp:h.objs.size<=D) (hn:H' D=none):Un fs ex H (upd H' D o) h h1 where
 keep:=u.keep
 slot:=u.slot
 free:=λb Y q n X=>by rw[bu (à (Ì (Ó q) hp))];exact u.free b Y q n X
 there:=u.there
 jr:=λb Z q=>by rw[bu (eQ (u.jr b Z q) hn)];exact u.jr b Z q
 iQ:=λb Y Z q=>by rw[bu (eQ (u.iQ b Y Z q) hn)];exact u.iQ b Y Z q
 jV:=λb W q=>by
  obtain⟨more,e⟩:=u.jV b W q;exact⟨more,by rw[bu (eQ e hn)];exact e⟩
def Un.but {C:ä} (u:Un fs ex H H' h h1) (hp:h.objs.size<=C) (sb:ń C h1 h2):Un fs ex H H' h h2:=by
 have ne:∀b Z,h.get? b=some Z->b≠C:=λb Z q=>à (Ì (Ó q) hp);refine⟨λb Z q n X Y=>(sb.2 b (ne b Z q)).trans (u.keep b Z q n X Y),λb Z q n X Y=>?_,u.free,λb Z q Y=>?_,u.jr,u.iQ,u.jV⟩
 ·obtain⟨W,e⟩:=u.slot b Z q n X Y
  exact⟨W,(sb.2 b (ne b Z q)).trans e⟩
 ·obtain⟨V,e⟩:=u.there b Z q Y
  exact⟨V,(sb.2 b (ne b Z q)).trans e⟩
def bT.but (x:bT P w H h1) (hn:H C=none) (sb:ń C h1 h2):bT P w H h2:=λa o e =>
 (x a o e).jU (λb u Z q=>(sb.2 b (by
  rintro rfl
  rcases Z with z|z
  ·subst z;rw[hn] at e;cases e
  ·rw[hn] at z;cases z)).trans q) (λ_ q=>q) λ_ _ q=>q
def bT.adopt (x:bT P w H h) (hn:H D=none) (new:cR P w (upd H D o) h D o):bT P w (upd H D o) h:=λb u e=>by
 by_cases Z:b=D
 ·subst Z;rw[cW] at e;cases e;exact new
 ·rw[bu Z] at e
  exact(x b u e).jU (λc v _ q=>q) (λc q=>by rw[bu (eQ q hn)];exact q) λc Y q=>by rw[bu (eQ q hn)];exact q
end
section
variable {X:Cx} {sc:acf} {N:List Str} {nt:Nat} {cap:List Nat} {cl:List (Str×ä)} {s:Å} {h1:œ} {H:Hp} {σ:St} {π:List (ä×Obj)} {fp:List ä} {C:ä} {t':Nat}
def Inv.block (I:Inv X π σ H s) (S:nX X sc N nt cap) (dq:∀n c,cl.lookup n=some c↔((n,NameKind.free)∈sc.names/\X.env.cells.lookup n=some c)) (hf:∀b∈fp,dh X π H b) (jC:∀b∈fp,b<s.heap.objs.size)
  (hk:∀b o,s.heap.get? b=some o->h1.get? b=some o) (hC:s.heap.objs.size<=C) (tH:∃m,h1.Ns C m):Inv (cL X N sc cl C s H fp (X.pn++π)) [] (lq nt cap σ) H { s with heap:=h1,toks:=t' }:=by
 have Q:∀b∈fH X.stack,b∈X.env.locals::X.fs:=I.mF;have M:C∉fH X.stack:=λz=>by
  rcases É.mp (I.mF C z) with e|e
  ·exact absurd (Ì I.lt hC) (by rw[e];exact ú _)
  ·exact I.vK hC e
 have L:∀x,(relabel sc X.env).names.lookup x=some .cell\/(relabel sc X.env).names.lookup x=some .free->(x,NameKind.free)∈sc.names:=λx Z=>by
  rw[xB] at Z
  cases e:sc.names.lookup x with
  |none=>rw[e] at Z;rcases Z with z|z<;>cases z
  |some k =>
   have Y:(x,k)∈sc.names:=by
    obtain⟨a,l2,e1,_⟩:=List.lookup_eq_some_iff.mp e;rw[e1];simp
   rw[e] at Z
   cases k with
   |free=>exact Y
   |cell=>exact absurd rfl (S.yO _ Y)
   |_=>exfalso;revert Z;simp
 have K:∀x,(x,NameKind.free)∈sc.names->∃c,X.env.cells.lookup x=some c:=λx Z=>I.ok.has x (S.frees _ Z rfl).2;have ok:Cx.Ok (cL X N sc cl C s H fp (X.pn++π)):=by
  refine⟨I.ok.mod,?_,I.ok.glob,I.ok.blt,hC,?_,?_,?_,I.ok.hd,I.ok.frames,.inl rfl,?_,I.bs,Ú I.ok.iA I.sz,?_,?_,I.stack,I.BU⟩
  ·exact S.kind
  ·intro x y c Z J
   exact I.ok.inj x y c ((dq x c).mp Z).2 ((dq y c).mp J).2
  ·intro x Z
   have Y:=L x Z;obtain⟨c,e⟩:=K x Y;exact⟨c,(dq x c).mpr ⟨Y,e⟩⟩
  ·intro x c Z
   cases Z
  ·intro b W
   refine⟨à (Ì (jC b W) hC),λx c e=>?_⟩;exact(hf b W).2.2.2.2.1 x c ((dq x c).mp e).2
  ·intro b o e W
   rcases(hf b W).2.2.2.1 with z|z
   ·exact I.ok.lO b o e z
   ·exact absurd (Ì (Ó e) (Ú I.ok.iA z)) (ú _)
  ·intro b W z
   rcases É.mp (Q b z) with e|e
   ·exact(hf b W).2.1 e
   ·exact(hf b W).2.2.1 e
 obtain⟨m,Y⟩:=tH;obtain⟨mX,G,F⟩:=I.loc;refine⟨ok,rfl,I.bare,Un.kept hk,⟨m,Y,λi x v e1 e2 e3=>?_⟩,λx c e=>?_,I.aE.fresh hC,λx c e=>I.iL x c ((dq x c).mp e).2,λp E=>?_,I.aE.kept hk,?_⟩
 ·
  have hi:nt<=i:=by
   apply ψ;intro P;have:(lq nt cap σ)[i]?=some none:=by
    unfold lq;rw[ã (by simpa using P),ĭ,Þ P]
   rw[this] at e2;cases e2
  have V:(cap.map λj=>(σ[j]?).getD none)[i-nt]?=some (some v):=by
   have e:=e2;unfold lq at e;rw[ă (by simpa using hi)] at e;simpa using e
  rw[è] at V
  cases U:cap[i-nt]? with
  |none=>rw[U] at V;cases V
  |some j =>
   rw[U] at V;have ev:(σ[j]?).getD none=some v:=adw V;have D:σ[j]?=some (some v):=by
    cases q:σ[j]? with
    |none=>rw[q] at ev;cases ev
    |some z=>rw[q] at ev;exact Ķ some ev
   obtain⟨y,f1,f2,O⟩:=S.EC _ _ U;rw[Nat.add_sub_cancel' hi] at f2;have B:y=x:=adw (f2.symm.trans e1);subst B;obtain⟨g1,g2⟩:=S.frees _ O rfl;have A:qk X.env.scope y:=.inr g2;obtain⟨u,r,l⟩:=F j y v f1 D A;refine⟨u,r,.inr ⟨?_,?_⟩⟩
   ·show (relabel sc X.env).names.lookup y=some .cell\/(relabel sc X.env).names.lookup y=some .free
    rw[xB,g1];simp only[abn];split
    ·exact .inl rfl
    ·exact .inr rfl
   ·rcases l with ⟨k,_⟩ | ⟨_,c,w,t⟩
    ·exfalso
     have h:X.env.scope.names.lookup y=some .local:=k;dsimp only at g2;rw[h] at g2
     rcases g2 with z|z<;>cases z
    ·obtain⟨T,R,hd⟩:=t
     exact⟨c,(dq y c).mpr ⟨O,w⟩,T,hk _ _ R,hd⟩
 ·obtain⟨v,T,R,hd⟩:=I.cell x c ((dq x c).mp e).2
  exact⟨v,T,hk _ _ R,hd⟩
 ·have g:p∈X.pn++π:=by simpa using E
  obtain⟨e,n,ne,f,d⟩:=I.pin p g;refine⟨hk _ _ e,n,à (Ì (Ó e) hC),λz=>?_,d⟩
  rcases É.mp (Q p.1 z) with q|q
  ·exact ne q
  ·exact f q
 ·unfold lq
  rw[Ð,abm,Â];exact S.len.symm
end
inductive Kn where
 |ax|bl|int|str|tup|lst|bA
 deriving DecidableEq
def tI (K:ĥ) (H:Hp):V->Kn->Prop
 | .ax,.ax=>True
 | .bl _,.bl=>True
 | .int _,.int=>True
 | .str _,.str=>True
 | .ref a,.tup=>∃Z,bz K H a Z
 | .ref a,.lst=>∃Z,bh K H a Z
 | .ref a,.bA=>∃Y,H a=some (.dK Y)
 |_,_=>False
noncomputable def oj:Kn->String->Bool
 | .int,"int"=>true
 | .bl,"int"=>true
 | .bl,"bool"=>true
 | .str,"str"=>true
 | .tup,"tuple"=>true
 | .lst,"list"=>true
 |_,_=>false
section
variable {X:Cx}
def Inv.uY {π:List (ä×Obj)} {σ:St} {H:Hp} {s:Å} {a:ä} {xs:List V} (I:Inv X π σ H s) (h:bz X.K H a xs):∃o,s.heap.get? a=some o/\o.cls=.type "tuple":=by
 obtain⟨its,r,⟨o,e,c,_⟩,_⟩:=I.tuple h;exact⟨o,e,c⟩
def Inv.uZ {π:List (ä×Obj)} {σ:St} {H:Hp} {s:Å} {a:ä} {xs:List V} (I:Inv X π σ H s) (h:bh X.K H a xs):∃o,s.heap.get? a=some o/\o.cls=.type "list":=by
 obtain⟨its,r,⟨o,n,e,c,_⟩,_⟩:=I.list h;exact⟨o,e,c⟩
def Inv.u0 {π:List (ä×Obj)} {σ:St} {H:Hp} {s:Å} {a:ä} {aj:List (Key×V)} (I:Inv X π σ H s) (h:H a=some (.dK aj)):∃o,s.heap.get? a=some o/\o.cls=.type "dict":=by
 obtain⟨_,_,W,_,p⟩:=(show cR X.prog X.w H s.heap a (.dK aj) from I.aE a _ h);obtain⟨o,U,T,Z,Y,_⟩:=p;exact⟨o,Z,Y.1⟩
def Pt:cT X (.builtin "isinstance") (λxs H Q=>∃x k,xs=[x,.ty "int"]/\tI X.K H x k/\Q (.bl (oj k "int")) H):=by
 intro T s σ H xs S Q I r h;obtain⟨x,k,rfl,Z,q⟩:=h;obtain⟨u,c,rfl,Y,rc⟩:=vals2 r;cases rc
 cases k with
 |ax =>
  cases x with
  |ax =>
   cases Y;exact IsiPair.NoneType_int ⟨.bl false,H,I.tok _,rfl,q⟩
  |_=>exact Z.elim
 |bl =>
  cases x with
  |bl b =>
   cases Y;exact IsiPair.bool_int ⟨.bl true,H,I,rfl,q⟩
  |_=>exact Z.elim
 |int =>
  cases x with
  |int i =>
   obtain⟨t,rfl⟩:=Y;exact IsiPair.int_int ⟨.bl true,H,I,rfl,q⟩
  |_=>exact Z.elim
 |str =>
  cases x with
  |str y =>
   obtain⟨t,rfl⟩:=Y;exact IsiPair.str_int ⟨.bl false,H,I.tok _,rfl,q⟩
  |_=>exact Z.elim
 |tup =>
  cases x with
  |ref a =>
   cases Y;obtain⟨z,W⟩:=Z;obtain⟨o,V,U⟩:=I.uY W;exact IsiPair.tuple_int V U ⟨.bl false,H,I.tok _,rfl,q⟩
  |_=>exact Z.elim
 |lst =>
  cases x with
  |ref a =>
   cases Y;obtain⟨z,W⟩:=Z;obtain⟨o,V,U⟩:=I.uZ W;exact IsiPair.list_int V U ⟨.bl false,H,I.tok _,rfl,q⟩
  |_=>exact Z.elim
 |bA =>
  cases x with
  |ref a =>
   cases Y;obtain⟨z,W⟩:=Z;obtain⟨o,V,U⟩:=I.u0 W;exact IsiPair.dict_int V U ⟨.bl false,H,I.tok _,rfl,q⟩
  |_=>exact Z.elim
def O1:cT X (.builtin "isinstance") (λxs H Q=>∃x k,xs=[x,.ty "bool"]/\tI X.K H x k/\Q (.bl (oj k "bool")) H):=by
 intro T s σ H xs S Q I r h;obtain⟨x,k,rfl,Z,q⟩:=h;obtain⟨u,c,rfl,Y,rc⟩:=vals2 r;cases rc
 cases k with
 |ax =>
  cases x with
  |ax =>
   cases Y;exact IsiPair.NoneType_bool ⟨.bl false,H,I.tok _,rfl,q⟩
  |_=>exact Z.elim
 |bl =>
  cases x with
  |bl b =>
   cases Y;exact IsiPair.bool_bool ⟨.bl true,H,I,rfl,q⟩
  |_=>exact Z.elim
 |int =>
  cases x with
  |int i =>
   obtain⟨t,rfl⟩:=Y;exact IsiPair.int_bool ⟨.bl false,H,I.tok _,rfl,q⟩
  |_=>exact Z.elim
 |str =>
  cases x with
  |str y =>
   obtain⟨t,rfl⟩:=Y;exact IsiPair.str_bool ⟨.bl false,H,I.tok _,rfl,q⟩
  |_=>exact Z.elim
 |tup =>
  cases x with
  |ref a =>
   cases Y;obtain⟨z,W⟩:=Z;obtain⟨o,V,U⟩:=I.uY W;exact IsiPair.tuple_bool V U ⟨.bl false,H,I.tok _,rfl,q⟩
  |_=>exact Z.elim
 |lst =>
  cases x with
  |ref a =>
   cases Y;obtain⟨z,W⟩:=Z;obtain⟨o,V,U⟩:=I.uZ W;exact IsiPair.list_bool V U ⟨.bl false,H,I.tok _,rfl,q⟩
  |_=>exact Z.elim
 |bA =>
  cases x with
  |ref a =>
   cases Y;obtain⟨z,W⟩:=Z;obtain⟨o,V,U⟩:=I.u0 W;exact IsiPair.dict_bool V U ⟨.bl false,H,I.tok _,rfl,q⟩
  |_=>exact Z.elim
def Pu:cT X (.builtin "isinstance") (λxs H Q=>∃x k,xs=[x,.ty "str"]/\tI X.K H x k/\Q (.bl (oj k "str")) H):=by
 intro T s σ H xs S Q I r h;obtain⟨x,k,rfl,Z,q⟩:=h;obtain⟨u,c,rfl,Y,rc⟩:=vals2 r;cases rc
 cases k with
 |ax =>
  cases x with
  |ax =>
   cases Y;exact IsiPair.NoneType_str ⟨.bl false,H,I.tok _,rfl,q⟩
  |_=>exact Z.elim
 |bl =>
  cases x with
  |bl b =>
   cases Y;exact IsiPair.bool_str ⟨.bl false,H,I.tok _,rfl,q⟩
  |_=>exact Z.elim
 |int =>
  cases x with
  |int i =>
   obtain⟨t,rfl⟩:=Y;exact IsiPair.int_str ⟨.bl false,H,I.tok _,rfl,q⟩
  |_=>exact Z.elim
 |str =>
  cases x with
  |str y =>
   obtain⟨t,rfl⟩:=Y;exact IsiPair.str_str ⟨.bl true,H,I,rfl,q⟩
  |_=>exact Z.elim
 |tup =>
  cases x with
  |ref a =>
   cases Y;obtain⟨z,W⟩:=Z;obtain⟨o,V,U⟩:=I.uY W;exact IsiPair.tuple_str V U ⟨.bl false,H,I.tok _,rfl,q⟩
  |_=>exact Z.elim
 |lst =>
  cases x with
  |ref a =>
   cases Y;obtain⟨z,W⟩:=Z;obtain⟨o,V,U⟩:=I.uZ W;exact IsiPair.list_str V U ⟨.bl false,H,I.tok _,rfl,q⟩
  |_=>exact Z.elim
 |bA =>
  cases x with
  |ref a =>
   cases Y;obtain⟨z,W⟩:=Z;obtain⟨o,V,U⟩:=I.u0 W;exact IsiPair.dict_str V U ⟨.bl false,H,I.tok _,rfl,q⟩
  |_=>exact Z.elim
def OQ:cT X (.builtin "isinstance") (λxs H Q=>∃x k,xs=[x,.ty "tuple"]/\tI X.K H x k/\Q (.bl (oj k "tuple")) H):=by
 intro T s σ H xs S Q I r h;obtain⟨x,k,rfl,Z,q⟩:=h;obtain⟨u,c,rfl,Y,rc⟩:=vals2 r;cases rc
 cases k with
 |ax =>
  cases x with
  |ax =>
   cases Y;exact IsiPair.NoneType_tuple ⟨.bl false,H,I.tok _,rfl,q⟩
  |_=>exact Z.elim
 |bl =>
  cases x with
  |bl b =>
   cases Y;exact IsiPair.bool_tuple ⟨.bl false,H,I.tok _,rfl,q⟩
  |_=>exact Z.elim
 |int =>
  cases x with
  |int i =>
   obtain⟨t,rfl⟩:=Y;exact IsiPair.int_tuple ⟨.bl false,H,I.tok _,rfl,q⟩
  |_=>exact Z.elim
 |str =>
  cases x with
  |str y =>
   obtain⟨t,rfl⟩:=Y;exact IsiPair.str_tuple ⟨.bl false,H,I.tok _,rfl,q⟩
  |_=>exact Z.elim
 |tup =>
  cases x with
  |ref a =>
   cases Y;obtain⟨z,W⟩:=Z;obtain⟨o,V,U⟩:=I.uY W;exact IsiPair.tuple_tuple V U ⟨.bl true,H,I,rfl,q⟩
  |_=>exact Z.elim
 |lst =>
  cases x with
  |ref a =>
   cases Y;obtain⟨z,W⟩:=Z;obtain⟨o,V,U⟩:=I.uZ W;exact IsiPair.list_tuple V U ⟨.bl false,H,I.tok _,rfl,q⟩
  |_=>exact Z.elim
 |bA =>
  cases x with
  |ref a =>
   cases Y;obtain⟨z,W⟩:=Z;obtain⟨o,V,U⟩:=I.u0 W;exact IsiPair.dict_tuple V U ⟨.bl false,H,I.tok _,rfl,q⟩
  |_=>exact Z.elim
def O2:cT X (.builtin "isinstance") (λxs H Q=>∃x k,xs=[x,.ty "list"]/\tI X.K H x k/\Q (.bl (oj k "list")) H):=by
 intro T s σ H xs S Q I r h;obtain⟨x,k,rfl,Z,q⟩:=h;obtain⟨u,c,rfl,Y,rc⟩:=vals2 r;cases rc
 cases k with
 |ax =>
  cases x with
  |ax =>
   cases Y;exact IsiPair.NoneType_list ⟨.bl false,H,I.tok _,rfl,q⟩
  |_=>exact Z.elim
 |bl =>
  cases x with
  |bl b =>
   cases Y;exact IsiPair.bool_list ⟨.bl false,H,I.tok _,rfl,q⟩
  |_=>exact Z.elim
 |int =>
  cases x with
  |int i =>
   obtain⟨t,rfl⟩:=Y;exact IsiPair.int_list ⟨.bl false,H,I.tok _,rfl,q⟩
  |_=>exact Z.elim
 |str =>
  cases x with
  |str y =>
   obtain⟨t,rfl⟩:=Y;exact IsiPair.str_list ⟨.bl false,H,I.tok _,rfl,q⟩
  |_=>exact Z.elim
 |tup =>
  cases x with
  |ref a =>
   cases Y;obtain⟨z,W⟩:=Z;obtain⟨o,V,U⟩:=I.uY W;exact IsiPair.tuple_list V U ⟨.bl false,H,I.tok _,rfl,q⟩
  |_=>exact Z.elim
 |lst =>
  cases x with
  |ref a =>
   cases Y;obtain⟨z,W⟩:=Z;obtain⟨o,V,U⟩:=I.uZ W;exact IsiPair.list_list V U ⟨.bl true,H,I,rfl,q⟩
  |_=>exact Z.elim
 |bA =>
  cases x with
  |ref a =>
   cases Y;obtain⟨z,W⟩:=Z;obtain⟨o,V,U⟩:=I.u0 W;exact IsiPair.dict_list V U ⟨.bl false,H,I.tok _,rfl,q⟩
  |_=>exact Z.elim
end
section
variable {X:Cx} {es:List ľ} {t:TA} {pos:Pos}
def Jq {bs:List Bool} (r:Vals (bs.map V.bl) its):TruthOf X.prog X.w A (λi v=>its.toArray[i]?=some v) (λi=>bs.getD i false):=by
 intro i v s Q E T S;have Z:its[i]?=some v:=by simpa using T
 have hi:i<its.length:=(Æ.mp Z).1;have Y:i<bs.length:=by
  have e:=r.length;rw[Â] at e;omega
 have R:(bs.map V.bl)[i]?=some (.bl (bs[i])):=by rw[è,Ô Y];rfl
 obtain⟨u,W,P⟩:=Vals.get r R;rw[Z] at W;cases W;cases P;have e:bs.getD i false=bs[i]:=by simp[ε,Ô Y]
 have U:Q (bs.getD i false) s:=S;rw[e] at U;exact ŗ U
def range_all (bs:List Bool):(Ù bs.length).all (λi=>bs.getD i false)=bs.all id:=by
 rw[ň,õ,õ];constructor
 ·intro h b Z
  obtain⟨i,hi,e⟩:=abR Z;have:=h i (ë.mpr hi);simpa [ε,Ô hi,e] using this
 ·intro h i hi
  have hi:=ë.mp hi;have:=h _ (acL hi);simpa [ε,Ô hi] using this
def range_any (bs:List Bool):(Ù bs.length).any (λi=>bs.getD i false)=bs.any id:=by
 rw[ň,ų,ų];constructor
 ·rintro ⟨i,hi,h⟩
  have hi:=ë.mp hi;exact⟨bs[i],acL hi,by simpa [ε,Ô hi] using h⟩
 ·rintro ⟨b,Z,h⟩
  obtain⟨i,hi,e⟩:=abR Z;exact⟨i,ë.mpr hi,by simpa [ε,Ô hi,e] using h⟩
def Tr (hc:X.calm=true):cT X (.builtin "all") (λxs H Q=>∃(p:ä) (bs:List Bool),xs=[.ref p]/\bh X.K H p (bs.map V.bl)/\Q (.bl (bs.all id)) H):=by
 intro P s σ H xs O Q I r h;obtain⟨p,bs,rfl,Y,q⟩:=h;obtain⟨u,rfl,W⟩:=vals1 r;cases W;obtain⟨its,rv,Z,N⟩:=I.list Y;have U:its.toArray.size=bs.length:=by
  have e:=rv.length;rw[Â] at e;simpa using e.symm
 have T:X.A.in1.handled=none:=I.ok.hd hc;refine call_all_walk (Ō Z.isList ?_);have old:p≠s.heap.objs.size:=à (by obtain⟨o,n,e,_⟩:=Z;exact Ó e);refine⟨s.heap.objs.size,[s.heap.objs.size,p],[s.heap.objs.size],its.toArray.size,_,_,λi=>bs.getD i false,rfl,Walks.list T s.heap.objs.size p old its.toArray,⟨⟨_,Ë _ rfl,rfl,rfl⟩,Z.isList.at λo e=>Á _ e⟩,Jq rv,λM S R=>?_⟩;rw[U,range_all];exact⟨.bl _,H,I.kept (t':=S) λb o e=>R b o (by simpa using à (Ó e)) (Á _ e),rfl,q⟩
def Ts (hc:X.calm=true):cT X (.builtin "any") (λxs H Q=>∃(p:ä) (bs:List Bool),xs=[.ref p]/\bh X.K H p (bs.map V.bl)/\Q (.bl (bs.any id)) H):=by
 intro P s σ H xs O Q I r h;obtain⟨p,bs,rfl,Y,q⟩:=h;obtain⟨u,rfl,W⟩:=vals1 r;cases W;obtain⟨its,rv,Z,N⟩:=I.list Y;have U:its.toArray.size=bs.length:=by
  have e:=rv.length;rw[Â] at e;simpa using e.symm
 have T:X.A.in1.handled=none:=I.ok.hd hc;refine call_any_walk (Ō Z.isList ?_);have old:p≠s.heap.objs.size:=à (by obtain⟨o,n,e,_⟩:=Z;exact Ó e);refine⟨s.heap.objs.size,[s.heap.objs.size,p],[s.heap.objs.size],its.toArray.size,_,_,λi=>bs.getD i false,rfl,Walks.list T s.heap.objs.size p old its.toArray,⟨⟨_,Ë _ rfl,rfl,rfl⟩,Z.isList.at λo e=>Á _ e⟩,Jq rv,λM S R=>?_⟩;rw[U,range_any];exact⟨.bl _,H,I.kept (t':=S) λb o e=>R b o (by simpa using à (Ó e)) (Á _ e),rfl,q⟩
end
noncomputable def vM:Key->acZ
 | .inl i=>.int i
 | .inr x=>.str x
mutual
def DV (K:ĥ) (Z:ä->Prop) (H:Hp):acZ->V->Prop
 | .none,v=>v=.ax
 | .bool b,v=>v=.bl b
 | .int i,v=>v=.int i
 | .str x,v=>v=.str x
 | .tuple X,v=>∃a Y,v=.ref a/\bz K H a Y/\aq K Z H X Y
 | .list X,v=>∃a Y,v=.ref a/\¬ Z a/\H a=some (.lst Y)/\aq K Z H X Y
 | .dict U,v=>∃a W,v=.ref a/\¬ Z a/\H a=some (.dK W)/\∃l:List (Key×Int),W=l.map (λp=>(p.1,V.int p.2))/\U=l.map λp=>(vM p.1,PyData.int p.2)
def aq (K:ĥ) (Z:ä->Prop) (H:Hp):List acZ->List V->Prop
 | [],Y=>Y=[]
 |d::X,Y=>∃v r,Y=v::r/\DV K Z H d v/\aq K Z H X r
end
structure ad4 (K:ĥ) (Z:ä->Prop) (H H':Hp):Prop where
 tup:∀b xs,bz K H b xs->bz K H' b xs
 lst:∀b xs,¬ Z b->H b=some (.lst xs)->H' b=some (.lst xs)
 bA:∀b es,¬ Z b->H b=some (.dK es)->H' b=some (.dK es)
section
variable {X:Cx} {π:List (ä×Obj)} {σ:St} {H:Hp} {s:Å} {Z:ä->Prop}
theorem AY:∀{l:List (Key×Int)} {vs:List (Key×Ç)} {es:List DictEntry},KV (l.map λp=>(p.1,V.int p.2)) vs->Pairs (dU P w) es vs ->
  ReadsAll h (es.map (·.key)) ((l.map λp=>(vM p.1,PyData.int p.2)).map (·.1)) []/\ReadsAll h (es.map (·.val)) ((l.map λp=>(vM p.1,PyData.int p.2)).map (·.2)) []
 | [],_,_,.nil,.nil=>⟨.nil,.nil⟩
 |(k,i)::l,_,_,.cons (b:=q) r t,.cons (e:=e) U T S=>by
  obtain⟨a1,a2⟩:=AY (h:=h) t S;obtain⟨Z,X,Y⟩:=r;have Z:k=q.1:=Z;have Y:q.2=acD i X:=Y;refine⟨?_,?_⟩
  ·have W:pN q.1 e.key=true:=U
   rw[<- Z] at W;have:Reads h e.key (vM k) []:=by
    rcases kc W with ⟨j,u,e1,e2⟩ | ⟨x,u,e1,e2⟩
    ·rw[e1,e2];exact .int j u
    ·rw[e1,e2];exact .str x u
   exact ReadsAll.cons (as:=[]) (bs:=[]) this a1
  ·have:Reads h e.val (.int i) []:=by rw[T,Y];exact .int i X
   exact ReadsAll.cons (as:=[]) (bs:=[]) this a2
mutual
theorem DV.reads (I:Inv X π σ H s):∀{d:acZ} {v:V} {u:Ç},DV X.K Z H d v->RelV v u->∃as,Reads s.heap u d as
 | .none,v,u,h,r=>by
  have e:v=.ax:=h;subst e;cases r;exact⟨[],.none⟩
 | .bool b,v,u,h,r=>by
  have e:v=.bl b:=h;subst e;cases r;exact⟨[],.bool b⟩
 | .int i,v,u,h,r=>by
  have e:v=.int i:=h;subst e;obtain⟨t,rfl⟩:=r;exact⟨[],.int i t⟩
 | .str x,v,u,h,r=>by
  have e:v=.str x:=h;subst e;obtain⟨t,rfl⟩:=r;exact⟨[],.str x t⟩
 | .tuple S,v,u,h,r=>by
  simp only[DV] at h;obtain⟨a,R,e,Y,W⟩:=h;subst e;cases r;obtain⟨its,rv,⟨o,e,c,n,U⟩,_⟩:=I.tuple Y;obtain⟨as,T⟩:=aq.reads I W rv;exact⟨as,.tuple e c U (by simpa using T)⟩
 | .list S,v,u,h,r=>by
  simp only[DV] at h;obtain⟨a,R,e,_,Y,W⟩:=h;subst e;cases r;obtain⟨its,rv,⟨o,n,e,c,_,U⟩,_⟩:=I.list (bh.of Y);obtain⟨as,T⟩:=aq.reads I W rv;exact⟨a::as,.list e c U (by simpa using T)⟩
 | .dict M,v,u,h,r=>by
  simp only[DV] at h;obtain⟨a,L,e,_,Y,l,e1,e2⟩:=h;subst e e1 e2;cases r;obtain⟨_,_,J,Q,o,G,F,g1,g2,g3,_,P,_⟩:=(show cR X.prog X.w H s.heap a (.dK _) from I.aE a _ Y);obtain⟨O,N⟩:=AY (h:=s.heap) Q P;exact⟨a::[]++[],.dict g1 g2.1 g3 O N⟩
theorem aq.reads (I:Inv X π σ H s):∀{ds:List acZ} {vs:List V} {us:List Ç},aq X.K Z H ds vs->Vals vs us->∃as,ReadsAll s.heap us ds as
 | [],vs,us,h,r=>by
  have e:vs=[]:=h;subst e;cases r;exact⟨[],.nil⟩
 |d::ds,vs,us,h,r=>by
  obtain⟨v,S,e,Y,W⟩:=h;subst e
  cases r with
  |cons U T =>
   obtain⟨as,a1⟩:=DV.reads I Y U;obtain⟨bs,a2⟩:=aq.reads I W T;exact⟨as++bs,.cons a1 a2⟩
end
def Nb (K:ĥ) (neg:Bool):R2:=λx y H Q=>∃(d e:acZ) (Z:ä->Prop),DV K Z H d x/\DV K Z H e y/\d.canLay0=true/\e.canLay0=true/\min d.depth e.depth<=100/\Q (.bl (if neg then !PyData.eqv d e else ĳ d e)) H
def Xu (hr:bC k X.A):bp X (ě .Eq) (Nb X.K false):=by
 intro O s σ H x y v u Q I Y W h;obtain⟨d,e,Z,V,U,T,S,N,q⟩:=h;obtain⟨as,R⟩:=V.reads I Y;obtain⟨bs,P⟩:=U.reads I W;exact SeqAt.eqOverData _ _ _ _ _ _ _ _ _ _ _ _ R P T S (by have:=hr.un;omega) ⟨.bl _,H,I,rfl,q⟩
def Xv (hr:bC k X.A):bp X (ě .NotEq) (Nb X.K true):=by
 intro O s σ H x y v u Q I Y W h;obtain⟨d,e,Z,V,U,T,S,N,q⟩:=h;obtain⟨as,R⟩:=V.reads I Y;obtain⟨bs,P⟩:=U.reads I W;exact SeqAt.neOverData _ _ _ _ _ _ _ _ _ _ _ _ R P T S (by have:=hr.un;omega) ⟨.bl _,H,I,rfl,q⟩
end
end L2
namespace HT
open PySem PySem.Spec PyProof.Rows
section
variable {prog:ó} {w:Ĕ} {A:Ĉ} {E:Ç->Å->Prop} {s:Å}
def IC (ht:IsTup s.heap t items) (h:Q true s):á (í prog w) A (abC (.ref t)) Q E s:=by
 unfold abC;exact À (abV ht.typeIs (Ä h))
def OR {lo hi:Option Int} {Q:Ç->Å->Prop} (ht:IsTup s.heap t items) (hs:s.heap.IsSliceOf sl vl vu .none) (pl:IsPart vl lo) (pu:IsPart vu hi)
 (hw:aU items.size 0 lo=0/\aU items.size items.size hi=items.size) (h:Q (.ref t) s):á (í prog w) A (adm (.ref t) (.ref sl)) Q E s:=by
 obtain⟨os,Z,Y,U⟩:=id hs;have X:s.TypeIs (.ref sl) "slice":=⟨os,Z,Y⟩;unfold adm
 try with_reducible refine Ġ ?_
 first|refine À (Ä ?_)|skip
 refine À (wpAny_sequenceKey ht.typeIs (by decide) ?_);refine À (č (name:=Ā "__getitem__") ht.typeIs ħ
  (Ď ħ ht.typeIs entry_tuple_getitem ?_ (args_tuple_getitem _ _)))
 show á _ _ (abB (.ref t) >>= _) _ _ s;refine À (tupleItemsOf_ ht ?_);refine À (abV X ?_);rw[Þ (by decide)];refine À (Ht hs pl pu ?_);obtain⟨W,V⟩:=hw
 show á _ _ (if (((aU items.size 0 lo:Nat):Int)==0&&(1:Int)==1&&(aU items.size items.size hi-aU items.size 0 lo)==items.size)=true then _ else _) _ _ s
 rw[W,V,Þ (by simp)]
 first
  |exact À (IC ht (by simp only[ï];exact À (Ų (Ä ⟨_,rfl,Ä h⟩))))
  |exact À (IC ht (by simp only[ï];exact À (Ų (À (Ä (Ä ⟨_,rfl,Ä h⟩))))))
end
end HT
namespace L2
open PySem PySem.Spec PyProof.Rows
def kB.sqT {K:ĥ} {H H':Hp} {a:ä} {xs:List V} (e:kB H H') (h:bz K H a xs):bz K H' a xs:=by
 rcases h with (h | ⟨o,h⟩)|h
 ·exact .inl (.inl (e _ _ h))
 ·exact .inl (.inr ⟨o,e _ _ h⟩)
 ·exact .inr h
theorem kB.upd (hn:H p=none):kB H (upd H p o):=λb u e=>by rw[bu (eQ e hn)];exact e
def om (K:ĥ) (H:Hp) (ys:List V) (Q:VK):Prop:=∀a Z,kB H Z->bz K Z a ys->Q (.ref a) Z
def om.here {K:ĥ} {H:Hp} {ys:List V} {Q:VK} {a:ä} (h:om K H ys Q) (hs:bz K H a ys):Q (.ref a) H:=h a H (kB.refl H) hs
def om.new {K:ĥ} {H:Hp} {ys:List V} {Q:VK} {p:ä} (h:om K H ys Q) (hn:H p=none):Q (.ref p) (L2.upd H p (.tup ys)):=h p _ (kB.upd hn) (bz.of cW)
section
variable {X:Cx} {e:ľ} {te:TE} {pos p2 p3 p4:Pos}
def Tt {lo hi:Option Int} (h:HT.aU xs.length 0 lo=0/\HT.aU xs.length xs.length hi=xs.length):kA xs lo hi=xs:=by
 unfold kA;rw[h.1,h.2];simp
def aaF (K:ĥ):V->Option Int->Option Int->Hp->VK->Prop:=λx lo hi H Q=>∃a Z,x=.ref a/\bz K H a Z/\om K H (kA Z lo hi) Q
def Vk:wG X (aaF X.K):=by
 intro S s σ H x v R P lo hi O Q I V hs U pu h;obtain⟨a,Z,rfl,W,q⟩:=h;by_cases hw:HT.aU Z.length 0 lo=0/\HT.aU Z.length Z.length hi=Z.length
 ·cases V
  obtain⟨its,r,T,M⟩:=I.tuple W;have Y:its.toArray.size=Z.length:=by rw[Û];exact r.length.symm
  rw[Tt hw] at q;exact⟨"tuple",_,ħ.lookup,T.typeIs,HT.OR T hs U pu (by rw[Y];exact hw) ⟨.ref a,H,I,rfl,q.here W⟩⟩
 ·exact yM S s σ H _ v R P lo hi O Q I V hs U pu ⟨a,Z,rfl,W,hw,λp N=>q.new N⟩
def Y9 (K:ĥ):R2:=λx y H Q=>∃a b Z Y,x=.ref a/\y=.ref b/\bz K H a Z/\bz K H b Y/\Z.length+Y.length<=Ø/\om K H (Z++Y) Q
def Vl:bp X (ś .Add) (Y9 X.K):=by
 intro M s σ H x y v u Q I W V h;obtain⟨a,b,U,L,rfl,rfl,Z,Y,J,q⟩:=h;by_cases T:U=[]
 ·subst T
  cases W;cases V;obtain⟨its,G,F,_⟩:=I.tuple Z;obtain⟨E,t,p2,_⟩:=I.tuple Y;cases G;obtain⟨⟨cls,D,data,C⟩,S,R,n,P⟩:=id F;obtain⟨⟨r,B,data2,A⟩,O,N,z,hd2⟩:=id p2;simp only at R P N hd2;subst R P N hd2;exact concat_meets ⟨_,S,rfl⟩ ⟨_,O,rfl⟩ noFill_tuple_add seq_tuple_add acj ab1 (abU _ _)
   (tuple_addW0 a b _ E.toArray n z D B C A (by simp)) ⟨S,O,⟨.ref b,H,I,rfl,q.here Y⟩⟩
 ·refine Vg M s σ H _ _ v u Q I W V ⟨a,b,U,L,rfl,rfl,Z,Y,T,J,λe=>?_,λ_ p w=>q.new w⟩
  subst e;rw[Ē] at q;exact q.here Z
end
end L2
namespace HZ
open PySem PySem.Spec PyProof.Rows
structure iZ (P:ó) (w:Ĕ) (A:Ĉ) (i l:ä) (tn:Nat->œ->Prop) (val:Nat->Option Ç):Prop where
 keep:∀k h h',tn k h->(∀o,h.get? i=some o->h'.get? i=some o)->(∀o,h.get? l=some o->h'.get? l=some o)->tn k h'
 item:∀k (s:Å) (Q:Ç->Å->Prop) (E:Ç->Å->Prop) x,tn k s.heap->val k=some x->(∀h',tn (k+1) h'->ń i s.heap h'->Q x { s with heap:=h' })->á (í P w) A (Đ (.ref i)) Q E s
 stop:∀k (s:Å) (Q:Ç->Å->Prop) (E:Ç->Å->Prop),tn k s.heap->val k=none->(∀h' e,acq i s.heap h'->(∃o,h'.get? e=some o/\o.cls=.type "StopIteration")->E (.ref e) { s with heap:=h' })->á (í P w) A (Đ (.ref i)) Q E s
 obj:∀k h,tn k h->∃o,h.get? i=some o/\∀v,o.data≠.cell v
section
variable {P:ó} {w:Ĕ} {A:Ĉ} {E:Ç->Å->Prop} {s:Å}
def QI (g:s.heap.IsTupleIter it t k) (gt:s.heap.IsTuple t its) (gx:its[k]?=some x)
 (q:∀h',h'.IsTupleIter it t (k+1)->ń it s.heap h'->Q x { s with heap:=h' }):á (í P w) A (Đ (.ref it)) Q E s:=by
 obtain⟨o,go,Y,Z⟩:=id g;obtain⟨ol,X,_,nl,W⟩:=gt;unfold Đ;refine À (č (name:=Ā "__next__") g.typeIs Ű
  (Ď Ű g.typeIs F.entry_tuple_iterator_next ?_ (F.args_tuple_iterator_next_1 _)))
 show á _ _ (field (.ref it) 0 >>= _) _ _ _;refine À (Ĝ go Z (x:=.ref t) rfl ?_)
 show á _ _ (if (Ł t==Value.none)=true then _ else _) _ _ _
 rw[å (λz:(Ł t==Value.none)=true=>Ö z)];show á _ _ (field (.ref it) 1 >>= _) _ _ _;refine À (Ĝ go Z (x:=.int k 0) rfl ?_);show á _ _ (seqItems? (.ref t) >>= _) _ _ _;refine À (Ĵ X W ?_);simp only[Ĳ,gx];refine À (abd go Z (by simp) (Ä ⟨x,rfl,Ä (q _ ?_ (Į ..))⟩));exact⟨_,Ė _ go (Ş (ę Z _)),(acr ..).trans Y,by rw[ę Z];simp[Ś]⟩
def OS (gh:A.handled=none) (g:s.heap.IsTupleIter it t k) (gt:s.heap.IsTuple t its) (gx:its[k]?=none)
 (q:∀h' e,acq it s.heap h'->(∃o,h'.get? e=some o/\o.cls=.type "StopIteration")->E (.ref e) { s with heap:=h' }):á (í P w) A (Đ (.ref it)) Q E s:=by
 obtain⟨o,go,W,Z⟩:=id g;obtain⟨ol,Y,_,nl,X⟩:=gt;unfold Đ;refine À (č (name:=Ā "__next__") g.typeIs Ű
  (Ď Ű g.typeIs F.entry_tuple_iterator_next ?_ (F.args_tuple_iterator_next_1 _)))
 show á _ _ (field (.ref it) 0 >>= _) _ _ _;refine À (Ĝ go Z (x:=.ref t) rfl ?_)
 show á _ _ (if (Ł t==Value.none)=true then _ else _) _ _ _
 rw[å (λz:(Ł t==Value.none)=true=>Ö z)];show á _ _ (field (.ref it) 1 >>= _) _ _ _;refine À (Ĝ go Z (x:=.int k 0) rfl ?_);show á _ _ (seqItems? (.ref t) >>= _) _ _ _;refine À (Ĵ Y X ?_);simp only[Ĳ,gx];refine À (Ų (À (abd go Z (by simp) ?_)));show á _ _ (newExc (.type "StopIteration") [] >>= _) _ _ (_:Å);refine À ?_;simp only[newExc,newTuple];refine À (ą ?_ (by size_fits))
 refine À (m:=firstArgMember _ _) (ξ (a:=Value.none) (by first|rfl | (unfold firstArgMember;rfl)) ?_)
 refine ą ?_ (by size_fits);simp only[raiseNew];refine À (wpAny_handled ?_)
 first|rw[gh]|rw[show A.in1.handled=none from gh]
 refine À (Ä (wpAny_throw ?_));exact q _ _ (((Į ..).extBut.push _).push _) ⟨_,Ë _ rfl,rfl⟩
def Vm (gh:A.handled=none) (i l:ä) (its:Array Ç):iZ P w A i l (λk h=>h.IsTupleIter i l k/\h.IsTuple l its) (λk=>its[k]?) where
 keep:=λk h Z st V U=>⟨st.1.at V,by obtain⟨o,e,r⟩:=st.2;exact⟨o,U o e,r⟩⟩
 item:=λk s Q E x st e q=>QI st.1 st.2 e λZ g Y=>by
  by_cases X:l=i
  ·exfalso
   subst X;obtain⟨o,e1,T,_⟩:=st.1;obtain⟨S,e2,W,_⟩:=st.2;rw[e1] at e2;cases e2;rw[T] at W;simp at W
  ·obtain⟨o,e2,r⟩:=st.2
   exact q Z ⟨g,o,(Y.2 l X).trans e2,r⟩ Y
 stop:=λk s Q E st e q=>OS gh st.1 st.2 e q
 obj:=λk h st=>by
  obtain⟨o,e,_,d⟩:=st.1;exact⟨o,e,λv z=>by rw[d] at z;cases z⟩
def B4 (gh:A.handled=none) (i l:ä) (its:Array Ç):iZ P w A i l (λk h=>h.IsListIter i l k/\h.IsList l its) (λk=>its[k]?) where
 keep:=λk h Z st V U=>⟨st.1.at V,st.2.at U⟩
 item:=λk s Q E x st e q=>wpAny_nextOf_list_item st.1 st.2 e λZ g Y=>by
  by_cases X:l=i
  ·exfalso
   subst X;obtain⟨o,e1,T,_⟩:=st.1;obtain⟨S,e2,W,_⟩:=st.2;rw[e1] at e2;cases e2;rw[T] at W;simp at W
  ·exact q Z ⟨g,st.2.at λo e2=>(Y.2 l X).trans e2⟩ Y
 stop:=λk s Q E st e q=>wpAny_nextOf_list_end gh st.1 st.2 e q
 obj:=λk h st=>by
  obtain⟨o,e,_,d⟩:=st.1;exact⟨o,e,λv z=>by rw[d] at z;cases z⟩
structure Apart (z ti to j1 j2 m1 m2:ä):Prop where
 a1:ti≠z
 a2:to≠z
 a3:j1≠z
 a4:j2≠z
 a5:ti≠to
 a6:ti≠j1
 a7:ti≠j2
 a8:to≠j1
 a9:to≠j2
 b0:j1≠j2
 b1:m1≠z
 b2:m1≠to
 b3:m1≠j1
 b4:m1≠j2
 b5:m2≠z
 b6:m2≠to
 b7:m2≠j1
 b8:m2≠j2
def Tu {t1 t2:Nat->œ->Prop} {v1 v2:Nat->Option Ç} {k:Nat} {Q:Ç->Å->Prop} (D:Apart z ti to j1 j2 m1 m2) (S1:iZ P w A j1 m1 t1 v1) (S2:iZ P w A j2 m2 t2 v2)
 (gz:IsZip s.heap z ti to .none) (gi:abH s.heap ti (.ref j1) (.ref j2)) (go:abH s.heap to a b) (h1:t1 k s.heap) (h2:t2 k s.heap) (hx:v1 k=some x) (hy:v2 k=some y)
 (q:∀h',IsZip h' z ti to (Ś s.heap.objs.size)->abH h' to x y->t1 (k+1) h'->t2 (k+1) h'->abH h' s.heap.objs.size x y->h'.objs.size=s.heap.objs.size+1 ->
 (∀c o,c≠z->c≠to->c≠j1->c≠j2->s.heap.get? c=some o->h'.get? c=some o)->Q (.ref s.heap.objs.size) { s with heap:=h' }) :
  á (í P w) A (Ť.«zip.__next__» ⟨[.ref z],[]⟩) (λfin s'=>∃v,fin=.done (.ret v)/\Q v s') E s:=by
 show á _ _ (field (.ref z) 2 >>= _) _ _ (_:Å);refine À (Ĝ gz rfl (x:=.bool false) rfl ?_);show á _ _ (field (.ref z) 3 >>= _) _ _ (_:Å);refine À (Ĝ gz rfl (x:=.ref ti) rfl ?_);refine À (Ĵ gi rfl ?_);show á _ _ (ĝ (.ref z) >>= _) _ _ (_:Å);refine À ?_;unfold ĝ;refine À (Ĝ gz rfl (x:=.none) rfl (Ä ?_));simp only[ï];refine À (Ų ?_);refine À (Ĝ gz rfl (x:=.ref to) rfl ?_);refine À (Ī gz (by simp) λm N Y=>?_)
 replace N:IsZip m z ti to .ellipsis:=N
 refine À ?_;simp only[List.zipIdx_cons,List.zipIdx_nil,List.forIn_cons,List.forIn_nil];refine À (À (wpAny_onRaise ?_));show á _ _ (Đ (.ref j1) >>= _) _ _ (_:Å);refine À (S1.item k _ _ _ x (S1.keep k _ _ h1 (λo e=>Y.extBut _ _ D.a3 e) (λo e=>Y.extBut _ _ D.b1 e)) hx λl j V=>Ä ?_);have C:abH l to a b:=V.extBut _ _ D.a8 (Y.extBut _ _ D.a2 go);refine À (Ĵ C rfl ?_);refine À (wpAny_updateSeq_pair C λi M X=>?_)
 replace M:abH i to x b:=M
 refine À (abS (Ä ?_));refine À (À (wpAny_onRaise ?_));show á _ _ (Đ (.ref j2) >>= _) _ _ (_:Å);refine À (S2.item k _ _ _ y (S2.keep k _ _ h2 (λo e=>X.extBut _ _ D.a9.symm (V.extBut _ _ D.b0.symm (Y.extBut _ _ D.a4 e))) (λo e=>X.extBut _ _ D.b6 (V.extBut _ _ D.b7 (Y.extBut _ _ D.b5 e)))) hy λh g U=>Ä ?_);have B:abH h to x b:=U.extBut _ _ D.a9 M;refine À (Ĵ B rfl ?_);refine À (wpAny_updateSeq_pair B λZ S s5=>?_)
 replace S:abH Z to x y:=S
 refine À (abS (Ä (Ä ?_)));refine À (Ĵ S rfl ?_);refine À (wpAny_newTuple ?_);have u:Z.objs.size=s.heap.objs.size:=by rw[s5.1,U.1,X.1,V.1,Y.1]
 have t:IsZip Z z ti to .ellipsis:=s5.extBut _ _ D.a2.symm (U.extBut _ _ D.a4.symm (X.extBut _ _ D.a2.symm (V.extBut _ _ D.a3.symm N)));have f:∀c o,c≠z->c≠to->c≠j1->c≠j2->s.heap.get? c=some o->Z.get? c=some o:=λc o W R L K e=>s5.extBut _ _ R (U.extBut _ _ K (X.extBut _ _ R (V.extBut _ _ L (Y.extBut _ _ W e))));have J:t1 (k+1) Z:=S1.keep _ _ _ j (λo e=>s5.extBut _ _ D.a8.symm (U.extBut _ _ D.b0 (X.extBut _ _ D.a8.symm e))) (λo e=>s5.extBut _ _ D.b2 (U.extBut _ _ D.b4 (X.extBut _ _ D.b2 e)));have I:t2 (k+1) Z:=S2.keep _ _ _ g (λo e=>s5.extBut _ _ D.a9.symm e) (λo e=>s5.extBut _ _ D.b6 e);have r:z<Z.objs.size:=Ó t;show á _ _ (Ŋ (.ref z) (.ref Z.objs.size) >>= _) _ _ (_:Å);refine À ?_;unfold Ŋ;have d:IsZip (Z.push { cls:=.type "tuple",data:=.seq #[x,y] }) z ti to .ellipsis:=Á _ t;refine À (Ī d (by simp) λp7 H G=>?_)
 replace H:IsZip p7 z ti to (Ś Z.objs.size):=H
 refine Ī H (by simp) λT O F=>?_
 replace O:IsZip T z ti to (Ś Z.objs.size):=O
 have up:∀c o,c≠z->Z.get? c=some o->T.get? c=some o:=λc o W e=>F.extBut _ _ W (G.extBut _ _ W (Á _ e));have p:abH T Z.objs.size x y:=F.extBut _ _ (ĸ r) (G.extBut _ _ (ĸ r) (Ë _ rfl));have n:T.objs.size=Z.objs.size+1:=by rw[F.1,G.1,û]
 rw[u] at O p n;refine Ä ⟨_,rfl,?_⟩;show Q (.ref Z.objs.size) _;rw[u];exact q T O (up _ _ D.a2 S) (S1.keep _ _ _ J (λo e=>up _ o D.a3 e) (λo e=>up _ o D.b1 e)) (S2.keep _ _ _ I (λo e=>up _ o D.a4 e) (λo e=>up _ o D.b5 e)) p n λc o W R L K e=>up c o W (f c o W R L K e)
def Vn (D:Apart z ti to j1 j2 m1 m2) (S1:iZ P w A j1 m1 t1 v1) (S2:iZ P w A j2 m2 t2 v2)
 (gz:IsZip s.heap z ti to .none) (gi:abH s.heap ti (.ref j1) (.ref j2)) (go:abH s.heap to a b) (h1:t1 k s.heap) (h2:t2 k s.heap) (ED:v1 k=none\/v2 k=none)
 (q:∀h' e,(∀c o,c≠z->c≠to->c≠j1->c≠j2->s.heap.get? c=some o->h'.get? c=some o)->(∃o,h'.get? e=some o/\o.cls=.type "StopIteration")->E (.ref e) { s with heap:=h' }) :
  á (í P w) A (Ť.«zip.__next__» ⟨[.ref z],[]⟩) Q E s:=by
 show á _ _ (field (.ref z) 2 >>= _) _ _ (_:Å);refine À (Ĝ gz rfl (x:=.bool false) rfl ?_);show á _ _ (field (.ref z) 3 >>= _) _ _ (_:Å);refine À (Ĝ gz rfl (x:=.ref ti) rfl ?_);refine À (Ĵ gi rfl ?_);show á _ _ (ĝ (.ref z) >>= _) _ _ (_:Å);refine À ?_;unfold ĝ;refine À (Ĝ gz rfl (x:=.none) rfl (Ä ?_));simp only[ï];refine À (Ų ?_);refine À (Ĝ gz rfl (x:=.ref to) rfl ?_);refine À (Ī gz (by simp) λN V Y=>?_)
 replace V:IsZip N z ti to .ellipsis:=V
 refine À ?_;simp only[List.zipIdx_cons,List.zipIdx_nil,List.forIn_cons,List.forIn_nil];refine À (À (wpAny_onRaise ?_));show á _ _ (Đ (.ref j1) >>= _) _ _ (_:Å);have M:t1 k N:=S1.keep k _ _ h1 (λo e=>Y.extBut _ _ D.a3 e) (λo e=>Y.extBut _ _ D.b1 e)
 cases U:v1 k with
 |none =>
  refine À (S1.stop k _ _ _ M U λT e Z S=>?_);obtain⟨R,g1,g2⟩:=S;have L:IsZip T z ti to .ellipsis:=Z _ _ D.a3.symm V;have ne:e≠z:=λu=>by subst u;rw[L] at g1;cases g1;simp at g2
  refine Ī L (by simp) λK _ X=>q K e (λc o W _ O _ u=>X.extBut _ _ W (Z _ _ O (Y.extBut _ _ W u))) ⟨R,X.extBut _ _ ne g1,g2⟩
 |some x =>
  have G:v2 k=none:=by
   rcases ED with h|h
   ·rw[U] at h;cases h
   ·exact h
  refine À (S1.item k _ _ _ x M U λT v Z=>Ä ?_);have J:abH T to a b:=Z.extBut _ _ D.a8 (Y.extBut _ _ D.a2 go);refine À (Ĵ J rfl ?_);refine À (wpAny_updateSeq_pair J λK t X=>?_);refine À (abS (Ä ?_));refine À (À (wpAny_onRaise ?_));show á _ _ (Đ (.ref j2) >>= _) _ _ (_:Å);refine À (S2.stop k _ _ _ (S2.keep k _ _ h2 (λo e=>X.extBut _ _ D.a9.symm (Z.extBut _ _ D.b0.symm (Y.extBut _ _ D.a4 e))) (λo e=>X.extBut _ _ D.b6 (Z.extBut _ _ D.b7 (Y.extBut _ _ D.b5 e)))) G λF e I S=>?_);obtain⟨R,g1,g2⟩:=S;have H:IsZip F z ti to .ellipsis:=I _ _ D.a4.symm (X.extBut _ _ D.a2.symm (Z.extBut _ _ D.a3.symm V));have ne:e≠z:=λu=>by subst u;rw[H] at g1;cases g1;simp at g2
  refine Ī H (by simp) λC _ s5=>q C e (λc o W B O y u=>s5.extBut _ _ W (I _ _ y (X.extBut _ _ B (Z.extBut _ _ O (Y.extBut _ _ W u))))) ⟨R,s5.extBut _ _ ne g1,g2⟩
def next_item (D:Apart z ti to j1 j2 m1 m2) (S1:iZ P w A.in1 j1 m1 t1 v1) (S2:iZ P w A.in1 j2 m2 t2 v2)
 (gz:IsZip s.heap z ti to .none) (gi:abH s.heap ti (.ref j1) (.ref j2)) (go:abH s.heap to a b) (h1:t1 k s.heap) (h2:t2 k s.heap) (hx:v1 k=some x) (hy:v2 k=some y)
 (q:∀h',IsZip h' z ti to (Ś s.heap.objs.size)->abH h' to x y->t1 (k+1) h'->t2 (k+1) h'->abH h' s.heap.objs.size x y->h'.objs.size=s.heap.objs.size+1 ->
 (∀c o,c≠z->c≠to->c≠j1->c≠j2->s.heap.get? c=some o->h'.get? c=some o)->Q (some (.ref s.heap.objs.size)) { s with heap:=h' }):á (í P w) A (ſ (.ref z)) Q E s:=by
 have Z:s.TypeIs (.ref z) "zip":=⟨_,gz,rfl⟩;unfold ſ;exact À (ο (č (name:=Ā "__next__") Z ac0
  (Ď ac0 Z F.entry_zip_next (Tu D S1 S2 gz gi go h1 h2 hx hy λh' a1 a2 Y X W V U=>Ä (q h' a1 a2 Y X W V U)) (F.args_zip_next_1 _))))
def next_end (D:Apart z ti to j1 j2 m1 m2) (S1:iZ P w A.in1 j1 m1 t1 v1) (S2:iZ P w A.in1 j2 m2 t2 v2)
 (gz:IsZip s.heap z ti to .none) (gi:abH s.heap ti (.ref j1) (.ref j2)) (go:abH s.heap to a b) (h1:t1 k s.heap) (h2:t2 k s.heap) (ED:v1 k=none\/v2 k=none)
 (q:∀h',(∀c o,c≠z->c≠to->c≠j1->c≠j2->s.heap.get? c=some o->h'.get? c=some o)->Q none { s with heap:=h' }):á (í P w) A (ſ (.ref z)) Q E s:=by
 have Z:s.TypeIs (.ref z) "zip":=⟨_,gz,rfl⟩;unfold ſ;refine À (ο (č (name:=Ā "__next__") Z ac0
  (Ď ac0 Z F.entry_zip_next (Vn D S1 S2 gz gi go h1 h2 ED λh' e Y X=>?_) (F.args_zip_next_1 _))))
 obtain⟨o,W,V⟩:=X;exact À (acM (T:="StopIteration") (b:=true) ⟨o,W,V⟩ isSubtype_stop (Ä (q _ Y)))
end
end HZ
namespace L2
open PySem PySem.Spec PyProof.Rows
def Xw {X:Cx} {π:List (ä×Obj)} {σ:St} {H:Hp} {s:Å} {a b:ä} {xs:List V} (I:Inv X π σ H s) (h:bz X.K H a xs) (f:dh X π H b):a≠b:=by
 rintro rfl;obtain⟨f0,_,_,Y,_⟩:=f
 rcases h with (h | ⟨o,h⟩) | ⟨o,its,n,W,_⟩
 ·rw[f0] at h;cases h
 ·rw[f0] at h;cases h
 ·have Z:=I.mod.tD a o W
  rcases Y with z|z
  ·exact I.ok.lO a o Z z
  ·exact absurd (Ì (Ó Z) (Ú I.ok.iA z)) (ú _)
def Lw {X:Cx} {π:List (ä×Obj)} {σ:St} {H:Hp} {s:Å} {a b:ä} {xs:List V} (I:Inv X π σ H s) (h:bh X.K H a xs) (f:dh X π H b):a≠b:=by
 rintro rfl;obtain⟨f0,_,_,Y,_⟩:=f
 rcases h with (h | ⟨o,h⟩) | ⟨o,its,n,W,_⟩
 ·rw[f0] at h;cases h
 ·rw[f0] at h;cases h
 ·have Z:=I.mod.tD a o W
  rcases Y with z|z
  ·exact I.ok.lO a o Z z
  ·exact absurd (Ì (Ó Z) (Ú I.ok.iA z)) (ú _)
def Inv.Bc {X:Cx} {π:List (ä×Obj)} {σ:St} {H:Hp} {s:Å} {h':œ} {t':Nat} {ch:List ä} (I:Inv X π σ H s) (k:∀b o,b∉ch->s.heap.get? b=some o->h'.get? b=some o) (hf:∀b∈ch,dh X π H b) :
  Inv X π σ H { s with heap:=h',toks:=t' }:=by
 have Y:∀b u,H b=some u->b∉ch:=λb u e z=>by rw[(hf b z).1] at e;cases e
 refine I.step (g':=s.gens) (d':=s.drawn) (ch:=ch) (λb W=>?_) (λb o _ _ Z e _=>k b o Z e) (λb o _ _ Z e _=>⟨o.slots,k b o Z e⟩) (λ_ _ _ _ n=>n) (λb o Z e=>⟨o,k b o Z e⟩) (λ_ _ e=>e) (λ_ _ _ e=>e)
  (λb P e=>⟨#[],by rw[e];simp⟩) (λm V=>?_) (λb u e=>?_) I.bare
 ·obtain⟨_,f1,_,U,f4,T⟩:=hf b W
  exact⟨U,f1,f4,T⟩
 ·obtain⟨o,S,R,Q,r⟩:=V
  exact⟨o,S,R,k _ o (λz=>(hf _ z).2.1 rfl) Q,r⟩
 ·refine(I.aE b u e).jU (λc v Z q=>k c v ?_ q) (λ_ q=>q) λ_ _ q=>q
  rcases Z with z|z
  ·rw[z];exact Y b u e
  ·exact Y c _ z
def Inv.ID {X:Cx} {π:List (ä×Obj)} {σ:St} {H:Hp} {s:Å} {h':œ} {t':Nat} {ch:List ä} {p:ä} {u:HO} (I:Inv X π σ H s) (k:∀b o,b∉ch->s.heap.get? b=some o->h'.get? b=some o) (hf:∀b∈ch,dh X π H b)
  (hp:s.heap.objs.size<=p) (new:cR X.prog X.w (upd H p u) h' p u):Inv X π σ (upd H p u) { s with heap:=h',toks:=t' }:=by
 have Y:H p=none:=I.aE.fresh hp;have aE:bT X.prog X.w (upd H p u) h':=(I.Bc (t':=t') k hf).aE.adopt Y new;refine I.step (g':=s.gens) (d':=s.drawn) (ch:=ch) (λb W=>?_) (λb o _ _ Z e _=>k b o Z e) (λb o _ _ Z e _=>⟨o.slots,k b o Z e⟩) (λb o _ e n=>?_) (λb o Z e=>⟨o,k b o Z e⟩) (λc P e=>by rw[bu (eQ e Y)];exact e) (λc o v e=>by rw[bu (eQ e Y)];exact e)
  (λc O e=>⟨#[],by rw[bu (eQ e Y),e];simp⟩) (λm V=>?_) aE I.bare
 ·obtain⟨_,f1,_,U,f4,T⟩:=hf b W
  exact⟨U,f1,f4,T⟩
 ·rw[bu (à (Ì (Ó e) hp))]
  exact n
 ·obtain⟨o,S,R,Q,r⟩:=V
  exact⟨o,S,R,k _ o (λz=>(hf _ z).2.1 rfl) Q,r⟩
@[reducible] def jD:Bool->ĥ->Hp->ä->List V->Prop
 |true=>bz
 |false=>bh
@[reducible] def kM:Bool->œ->ä->Array Ç->Prop
 |true=>Heap.IsTuple
 |false=>Heap.IsList
@[reducible] def nq:Bool->œ->ä->ä->Nat->Prop
 |true=>Heap.IsTupleIter
 |false=>Heap.IsListIter
def Inv.sM {X:Cx} {π:List (ä×Obj)} {σ:St} {H:Hp} {s:Å} {a:ä} {xs:List V} (I:Inv X π σ H s):∀{k},jD k X.K H a xs->∃its,Vals xs its/\kM k s.heap a its.toArray
 |true,h=>by obtain⟨i,r,p,_⟩:=I.tuple h;exact⟨i,r,p⟩
 |false,h=>by obtain⟨i,r,p,_⟩:=I.list h;exact⟨i,r,p.isList⟩
def Inv.Jr {X:Cx} {π:List (ä×Obj)} {σ:St} {H:Hp} {s:Å} {a:ä} {xs ys:List V} (I:Inv X π σ H s):∀{k},jD k X.K H a xs->jD k X.K H a ys->xs=ys
 |true,h,g=>I.Ir h g
 |false,h,g=>I.Bo h g
def yP {X:Cx} {π:List (ä×Obj)} {σ:St} {H:Hp} {s:Å} {a b:ä} {xs:List V} (I:Inv X π σ H s):∀{k},jD k X.K H a xs->dh X π H b->a≠b
 |true,h,f=>Xw I h f
 |false,h,f=>Lw I h f
def zE (gh:A.handled=none) (i l:ä) (its:Array Ç):∀k,HZ.iZ P w A i l (λn h=>nq k h i l n/\kM k h l its) (λn=>its[n]?)
 |true=>HZ.Vm gh i l its
 |false=>HZ.B4 gh i l its
def yQ (k:∀o,h.get? i=some o->h'.get? i=some o):∀{b},nq b h i l n->nq b h' i l n
 |true,x=>x.at k
 |false,x=>x.at k
def yz:∀{b},nq b h i l n->∃o,h.get? i=some o/\∀v,o.data≠.cell v
 |true,x=>by obtain⟨o,e,_,d⟩:=x;exact⟨o,e,λv q=>by rw[d] at q;cases q⟩
 |false,x=>by obtain⟨o,e,_,d⟩:=x;exact⟨o,e,λv q=>by rw[d] at q;cases q⟩
def zF (k l:Bool) (K:ĥ) (a b:ä):It :=
 ⟨λi H=>∃Z Y x y,jD k K H a Z/\jD l K H b Y/\Z[i]?=some x/\Y[i]?=some y,λi H v X=>∃p x y,H p=none/\v=.ref p/\X=upd H p (.tup [x,y])/\∀Z Y,jD k K H a Z->jD l K H b Y->Z[i]?=some x/\Y[i]?=some y,
  λi H=>∃Z Y,jD k K H a Z/\jD l K H b Y/\(Z.length<=i\/Y.length<=i)⟩
abbrev aaG:=zF true true
structure Za (it:Nat->œ->Prop) (fL:Nat->œ->Prop) (z ti to j1 j2:ä) (i:Nat) (h:œ):Prop where
 z:IsZip h z ti to .none
 ti:abH h ti (.ref j1) (.ref j2)
 to:∃u v,abH h to u v
 h1:it i h
 h2:fL i h
structure Nc (z ti to j1 j2:ä):Prop where
 a1:ti≠z
 a2:to≠z
 a3:j1≠z
 a4:j2≠z
 a5:ti≠to
 a6:ti≠j1
 a7:ti≠j2
 a8:to≠j1
 a9:to≠j2
 b0:j1≠j2
def RN {k1 k2:Bool} {P:ó} {w:Ĕ} {K:ĥ} {elts:List ľ} {kk:Nat} {pos:Pos} (a b z ti to j1 j2:ä) (F:Nc z ti to j1 j2) :
  Turn P w K (.Tuple elts kk pos) (zF k1 k2 K a b) [z,ti,to,j1,j2] z (Za (λi h=>nq k1 h j1 a i) (λi h=>nq k2 h j2 b i) z ti to j1 j2) where
 mem:=by simp
 obj:=λi h st c T=>by
  have N:c=z\/c=ti\/c=to\/c=j1\/c=j2:=by simpa using T
  rcases N with rfl|rfl|rfl|rfl|rfl
  ·exact⟨_,st.z,λv q=>nomatch q⟩
  ·exact⟨_,st.ti,λv q=>nomatch q⟩
  ·obtain⟨u,v,q⟩:=st.to;exact⟨_,q,λv q=>nomatch q⟩
  ·exact yz st.h1
  ·exact yz st.h2
 keep:=λi h m st k=>⟨k z (by simp) _ st.z,k ti (by simp) _ st.ti,by obtain⟨u,v,q⟩:=st.to;exact⟨u,v,k to (by simp) _ q⟩,yQ (λo e=>k j1 (by simp) o e) st.h1,yQ (λo e=>k j2 (by simp) o e) st.h2⟩
 item:=by
  intro X M hw L T i l s σ H E I Z st J;subst M hw L;obtain⟨g,f,x,y,W,V,ex,j⟩:=J;obtain⟨G,C,B⟩:=I.sM W;obtain⟨t,r,p⟩:=I.sM V;obtain⟨u,d,ru⟩:=C.get ex;obtain⟨v,ev,rv⟩:=r.get j;have ne:∀c∈[z,ti,to,j1,j2],a≠c/\b≠c:=λc Y=>⟨yP I W (Z c Y),yP I V (Z c Y)⟩;have D:HZ.Apart z ti to j1 j2 a b:=⟨F.a1,F.a2,F.a3,F.a4,F.a5,F.a6,F.a7,F.a8,F.a9,F.b0,(ne z (by simp)).1,(ne to (by simp)).1,(ne j1 (by simp)).1,(ne j2 (by simp)).1,(ne z (by simp)).2,(ne to (by simp)).2,(ne j1 (by simp)).2,(ne j2 (by simp)).2⟩;obtain⟨w1,w2,R⟩:=st.to;have S:X.A.in1.handled=none:=I.ok.hd T;refine HZ.next_item D (zE S j1 a G.toArray k1) (zE S j2 b t.toArray k2) st.z st.ti R ⟨st.h1,B⟩ ⟨st.h2,p⟩ (by simpa using d) (by simpa using ev) λm c1 c2 c3 c4 c5 c6 O=>⟨_,rfl,?_⟩;refine wpAny_letOwnedTupleGo_zip c1 λh2 d1 U=>?_;have hn:H s.heap.objs.size=none:=I.aE.fresh (adv _);have Ag:z<s.heap.objs.size:=Ó st.z;have qa:IsTup h2 s.heap.objs.size #[u,v]:=⟨_,U.extBut _ _ (ĸ Ag) c5,rfl,_,rfl⟩
  have I2:Inv X l σ (upd H s.heap.objs.size (.tup [x,y])) { s with heap:=h2,toks:=s.toks }:=I.ID (ch:=[z,ti,to,j1,j2]) (λc o n e=>by
   have q:c≠z/\c≠ti/\c≠to/\c≠j1/\c≠j2:=by simpa using n
   exact U.extBut c o q.1 (O c o q.1 q.2.2.1 q.2.2.2.1 q.2.2.2.2 e)) Z (adv _) ⟨by show 2<=Ø;decide,[u,v],.cons ru (.cons rv .nil),qa⟩
  refine⟨.ref s.heap.objs.size,_,I2,rfl,⟨_,x,y,hn,rfl,rfl,λxs' ys' q1 q2=>?_⟩,?_,λc Y=>?_⟩
  ·rw[I.Jr q1 W,I.Jr q2 V];exact⟨ex,j⟩
  ·refine⟨d1,U.extBut _ _ F.a1 (O _ _ F.a1 F.a5 F.a6 F.a7 st.ti),⟨_,_,U.extBut _ _ F.a2 c2⟩,yQ (λo e=>U.extBut _ _ F.a3 e) c3.1,yQ (λo e=>U.extBut _ _ F.a4 e) c4.1⟩
  ·rw[bu]
   ·exact(Z c Y).1
   ·intro e
    obtain⟨o,eo⟩:∃o,s.heap.get? c=some o:=by
     have N:c=z\/c=ti\/c=to\/c=j1\/c=j2:=by simpa using Y
     rcases N with q|q|q|q|q
     ·rw[q];exact⟨_,st.z⟩
     ·rw[q];exact⟨_,st.ti⟩
     ·rw[q];exact⟨_,R⟩
     ·rw[q];obtain⟨o,e,_⟩:=yz st.h1;exact⟨o,e⟩
     ·rw[q];obtain⟨o,e,_⟩:=yz st.h2;exact⟨o,e⟩
    exact absurd (Ó eo) (by rw[e];exact ú _)
 done:=by
  intro X M hw L T i l s σ H E I Z st J;subst M hw L;obtain⟨g,f,W,V,hle⟩:=J;obtain⟨G,C,B⟩:=I.sM W;obtain⟨t,r,p⟩:=I.sM V;have ne:∀c∈[z,ti,to,j1,j2],a≠c/\b≠c:=λc Y=>⟨yP I W (Z c Y),yP I V (Z c Y)⟩;have D:HZ.Apart z ti to j1 j2 a b:=⟨F.a1,F.a2,F.a3,F.a4,F.a5,F.a6,F.a7,F.a8,F.a9,F.b0,(ne z (by simp)).1,(ne to (by simp)).1,(ne j1 (by simp)).1,(ne j2 (by simp)).1,(ne z (by simp)).2,(ne to (by simp)).2,(ne j1 (by simp)).2,(ne j2 (by simp)).2⟩;obtain⟨w1,w2,R⟩:=st.to;have S:X.A.in1.handled=none:=I.ok.hd T;have l1:=C.length;have l2:=r.length;refine HZ.next_end D (zE S j1 a G.toArray k1) (zE S j2 b t.toArray k2) st.z st.ti R ⟨st.h1,B⟩ ⟨st.h2,p⟩ ?_ λm O=>⟨rfl,I.Bc (t':=s.toks) (ch:=[z,ti,to,j1,j2]) (λc o n e=>by
   have q:c≠z/\c≠ti/\c≠to/\c≠j1/\c≠j2:=by simpa using n
   exact O c o q.1 q.2.2.1 q.2.2.2.1 q.2.2.2.2 e) Z⟩
  rcases hle with q|q
  ·left;simp;omega
  ·right;simp;omega
 self:=λA i s Q E st h=>wpAny_pyIter_zip st.z h
end L2
namespace HZ
open PySem PySem.Spec PyProof.Rows L2
@[reducible] noncomputable def wL:Bool->String
 |true=>"tuple_iterator"
 |false=>"list_iterator"
abbrev y1 (k:Bool) (h:œ) (m1:ä):œ:=h.push { cls:=.type (wL k),data:=.fields #[.ref m1,.int 0 0] }
abbrev y2 (k l:Bool) (h:œ) (m1 m2:ä):œ:=(y1 k h m1).push { cls:=.type (wL l),data:=.fields #[.ref m2,.int 0 0] }
abbrev y3 (k l:Bool) (h:œ) (m1 m2:ä):œ:=(y2 k l h m1 m2).push { cls:=.type "tuple",data:=.seq #[.ref h.objs.size,.ref (y1 k h m1).objs.size] }
abbrev y4 (k l:Bool) (h:œ) (m1 m2:ä):œ:=(y3 k l h m1 m2).push { cls:=.type "tuple",data:=.seq #[.none,.none] }
abbrev y5 (k l:Bool) (h:œ) (m1 m2:ä):œ:=(y4 k l h m1 m2).push { cls:=.type "zip",data:=.fields #[.none,.bool false,.bool false,.ref (y2 k l h m1 m2).objs.size,.ref (y3 k l h m1 m2).objs.size] }
def Mi:∀{k},kM k s.heap m xs->Q (.ref s.heap.objs.size) { s with heap:=s.heap.push { cls:=.type (wL k),data:=.fields #[.ref m,.int 0 0] } }->á (í P w) A (pyIter (.ref m)) Q E s
 |true,h,q=>wpAny_pyIter_tuple h q
 |false,h,q=>Ō h q
def Tv (o:Obj):∀{k},kM k h m xs->kM k (h.push o) m xs
 |true,x=>Heap.IsTuple.push x o
 |false,x=>Heap.IsList.push x o
def Vo (k l:Bool) (m1 m2:ä) (xs ys:Array Ç) :
  Meets (Ť.«zip.__new__» ⟨[.type "zip",.ref m1,.ref m2],[]⟩) (λ_ R s=>kM k s.heap m1 xs/\kM l s.heap m2 ys/\R (.ok (.ret (.ref (y4 k l s.heap m1 m2).objs.size))) { s with heap:=y5 k l s.heap m1 m2 }) :=
 .of_wp λprog w A R s h=>by
  obtain⟨Z,g,d,Y,os⟩:=s;obtain⟨X,W,h⟩:=h;have V:=sub_zip;have U:kM k (Shared.heap ⟨Z,g,d,Y,os⟩) m1 xs:=X;have L2:kM l (Shared.heap ⟨Z.push { cls:=.type (wL k),data:=.fields #[.ref m1,.int 0 0] },g,d,Y,os⟩) m2 ys:=Tv _ W
  wp_walk using Mi U,Mi L2
  exact⟨_,rfl,h⟩
section
variable {P:ó} {w:Ĕ} {A:Ĉ} {E:Ç->Å->Prop} {s:Å}
def Ke:∀{k},h.get? i=some { cls:=.type (wL k),data:=.fields #[.ref m,.int 0 0] }->nq k h i m 0
 |true,e=>⟨_,e,rfl,rfl⟩
 |false,e=>⟨_,e,rfl,rfl⟩
def RO (h1:kM k s.heap m1 xs) (h2:kM l s.heap m2 ys)
 (h:∀h',IsZip h' (s.heap.objs.size+4) (s.heap.objs.size+2) (s.heap.objs.size+3) .none->abH h' (s.heap.objs.size+2) (.ref s.heap.objs.size) (.ref (s.heap.objs.size+1)) ->
   abH h' (s.heap.objs.size+3) .none .none->nq k h' s.heap.objs.size m1 0->nq l h' (s.heap.objs.size+1) m2 0->h'.objs.size=s.heap.objs.size+5 ->
 (∀c o,s.heap.get? c=some o->h'.get? c=some o)->Q (.ref (s.heap.objs.size+4)) { s with heap:=h' }):á (í P w) A (call (.type "zip") [.ref m1,.ref m2]) Q E s:=by
 refine callType_new F.called_zip (by decide) (F.typeCall_zip_2 _ _) (F.newCall_zip_2 _ _) (λobj=>F.args_object_init_3 obj _ _) F.entry_zip_new (Vo k l m1 m2 xs ys) ⟨h1,h2,?_⟩;have e1:(y1 k s.heap m1).objs.size=s.heap.objs.size+1:=û ..;have e2:(y2 k l s.heap m1 m2).objs.size=s.heap.objs.size+2:=by rw[û,e1]
 have Z:(y3 k l s.heap m1 m2).objs.size=s.heap.objs.size+3:=by rw[û,e2]
 have Y:(y4 k l s.heap m1 m2).objs.size=s.heap.objs.size+4:=by rw[û,Z]
 have V:(y5 k l s.heap m1 m2).objs.size=s.heap.objs.size+5:=by rw[û,Y]
 have X:(y5 k l s.heap m1 m2).get? (y4 k l s.heap m1 m2).objs.size=some _:=Ë _ rfl;have W:(y5 k l s.heap m1 m2).get? (y3 k l s.heap m1 m2).objs.size=some _:=Á _ (Ë _ rfl);have g3:(y5 k l s.heap m1 m2).get? (y2 k l s.heap m1 m2).objs.size=some _:=Á _ (Á _ (Ë _ rfl));have g2:(y5 k l s.heap m1 m2).get? (y1 k s.heap m1).objs.size=some _:=Á _ (Á _ (Á _ (Ë _ rfl)));have g1:(y5 k l s.heap m1 m2).get? s.heap.objs.size=some _:=Á _ (Á _ (Á _ (Á _ (Ë _ rfl))));show _/\_;rw[e2,Z,Y] at X;rw[e1,e2] at g3;rw[Z] at W;rw[e1] at g2;rw[Y];exact⟨⟨_,X,rfl⟩,h _ X g3 W (Ke g1) (Ke g2) V λc o q=>Á _ (Á _ (Á _ (Á _ (Á _ q))))⟩
end
end HZ
namespace L2
open PySem PySem.Spec PyProof.Rows
def Tw (n:Nat):Nc (n+4) (n+2) (n+3) n (n+1):=by constructor<;>(show (_:Nat)≠_)<;>omega
section
variable {X:Cx} {elts:List ľ} {kk:Nat} {tp:Pos}
def Mj (k l:Bool) (K:ĥ) (ta:TA):TI:=fun σ H R=>ta σ H λY Z=>∃a b X W,Y=[.ref a,.ref b]/\jD k K Z a X/\jD l K Z b W/\R (zF k l K a b) Z
noncomputable abbrev Zb:=Mj true true
def RP:ć "zip"=some (.type "zip"):=by decide +kernel
def Xx {π:List (ä×Obj)} {σ:St} {H:Hp} {s:Å} (I:Inv X π σ H s):∀b∈[s.heap.objs.size+4,s.heap.objs.size+2,s.heap.objs.size+3,s.heap.objs.size,s.heap.objs.size+1],dh X π H b:=λb Y=>by
 have Z:s.heap.objs.size<=b:=by
  have q:b=s.heap.objs.size+4\/b=s.heap.objs.size+2\/b=s.heap.objs.size+3\/b=s.heap.objs.size\/b=s.heap.objs.size+1:=by simpa using Y
  omega
 exact I.oh Z (I.aE.fresh Z)
def Vp {k l:Bool} {a b:ľ} {ta:TA} {p pos:Pos} (hg:Gl X "zip") (hm:X.mg "zip"=none) (ha:PA X [a,b] ta) (hs:ß [a,b] X.env=[(false,ţ a X.env),(false,ţ b X.env)]:=by rfl) (cF:ß [b] X.env=[(false,ţ b X.env)]:=by rfl) :
  PI X (.Tuple elts kk tp) (.Call (.Name "zip" p) [a,b] [] pos) (Mj k l X.K ta):=by
 intro V s σ H R I h;refine Call_ (lj I hg hm RP (Ĺ (aJ (ha pos V s σ H _ I h) λA Z ⟨z,U,Y,T,S⟩=>?_) (by rw[hs,cF]) (by rw[cF];rfl)));obtain⟨a,b,xs,ys,e,Q,P,q⟩:=S;subst e;obtain⟨u,v,rfl,O,rv⟩:=vals2 T;cases O;cases rv;obtain⟨N,_,M⟩:=Y.sM Q;obtain⟨L,_,J⟩:=Y.sM P;refine HZ.RO (xs:=N.toArray) (ys:=L.toArray) M J λG W F E D C y B=>?_
 refine wpAny_pyIter_zip (s:={ Z with heap:=G }) W ?_
 exact⟨_,[Z.heap.objs.size+4,Z.heap.objs.size+2,Z.heap.objs.size+3,Z.heap.objs.size,Z.heap.objs.size+1],_,_,U,rfl,Y.kept (t':=Z.toks) B,RN a b _ _ _ _ _ (Tw _),⟨W,F,⟨_,_,E⟩,D,C⟩,Xx Y,q⟩
def Vq {a b:ľ} {ta:TA} {p pos:Pos} (hg:Gl X "zip") (hm:X.mg "zip"=none) (ha:PA X [a,b] ta) (hs:ß [a,b] X.env=[(false,ţ a X.env),(false,ţ b X.env)]:=by rfl) (cF:ß [b] X.env=[(false,ţ b X.env)]:=by rfl) :
  PI X (.Tuple elts kk tp) (.Call (.Name "zip" p) [a,b] [] pos) (Zb X.K ta):=Vp hg hm ha hs cF
end
end L2
namespace PySem
end PySem
namespace L2
open PySem PySem.Spec PyProof.Rows
def map_getD (ns:List Int):(Ù ns.length).map (λi=>ns.getD i 0)=ns:=by
 apply acs;intro i;rw[è];by_cases h:i<ns.length
 ·rw[ř h,Ô h]
  simp[ε,Ô h]
 ·rw[ė (by simpa using h),ė (by omega)]
  rfl
section
variable {κ:Type} [DecidableEq κ]
noncomputable def jt (aj:List (κ×V)) (k:κ):Option V:=(aj.find? λZ=>decide (Z.1=k)).map (·.2)
noncomputable def putK (aj:List (κ×V)) (k:κ) (v:V):List (κ×V) :=
 if (aj.any λZ=>decide (Z.1=k))=true then aj.map (λZ=>if Z.1=k then (Z.1,v) else Z) else aj++[(k,v)]
def ym {p:κ×V} {r:List (κ×V)} {k:κ} (e:p.1=k):jt (p::r) k=some p.2:=by simp[jt,ζ,e]
def yn {p:κ×V} {r:List (κ×V)} {k:κ} (e:¬ p.1=k):jt (p::r) k=jt r k:=by simp[jt,ζ,e]
theorem Js (k:κ):∀aj:List (κ×V),(aj.any λkv=>decide (kv.1=k))=(jt aj k).isSome
 | []=>rfl
 |p::r=>by
  rw[ab2];by_cases e:p.1=k
  ·simp only[ym e,Õ e,Bool.true_or,ab3]
  ·rw[yn e,æ e,Bool.false_or];exact Js k r
def AZ (aj:List (κ×V)) (k:κ) (v:V):(putK aj k v).length<=aj.length+1:=by
 unfold putK;split
 ·rw[Â];omega
 ·rw[Ð,ê,Ć];omega
def hV.ux (r:hV o u):o.isSome=u.isSome:=by
 cases o with
 |none=>cases u with
  |none=>rfl
  |some _=>exact(show False from r).elim
 |some _=>cases u with
  |none=>exact(show False from r).elim
  |some _=>rfl
def KV.val {aj:List (κ×V)} {vs:List (κ×Ç)} (r:KV aj vs) (k:κ):hV (jt aj k) (valueAt vs k):=by
 unfold KV at r
 induction r with
 |nil=>exact adi
 | @cons p q U Z h t ih =>
  obtain⟨X,W⟩:=h;by_cases e:p.1=k
  ·have Y:q.1=k:=X.symm.trans e
   have b:valueAt (q::Z) k=some q.2:=by simp[valueAt,ζ,Y]
   rw[ym e,b];exact W
  ·have Y:¬ q.1=k:=λz=>e (X.trans z)
   have b:valueAt (q::Z) k=valueAt Z k:=by simp[valueAt,ζ,Y]
   rw[yn e,b];exact ih
theorem KV.any (r:KV aj vs) (k:κ):(aj.any λkv=>decide (kv.1=k))=vs.any λkv=>decide (kv.1=k):=by
 unfold KV at r
 induction r with
 |nil=>rfl
 |cons h t ih=>rw[ab2,ab2,ih,h.1]
def KV.EE (r:KV aj vs) (k:κ) (ry:RelV y u) :
  KV (aj.map λkv=>if kv.1=k then (kv.1,y) else kv) (vs.map λkv=>if kv.1=k then (kv.1,u) else kv):=by
 unfold KV at r |-
 induction r with
 |nil=>exact .nil
 | @cons p q X W h t ih =>
  rw[Î,Î];refine .cons ?_ ih;obtain⟨Z,Y⟩:=h;by_cases e:p.1=k
  ·rw[Þ e,Þ (Z.symm.trans e)];exact⟨Z,ry⟩
  ·rw[å e,å (λz=>e (Z.trans z))];exact⟨Z,Y⟩
def KV.put (r:KV aj vs) (k:κ) (ry:RelV y u):KV (putK aj k y) (stored vs k u):=by
 unfold putK stored;rw[r.any k];by_cases e:(vs.any λZ=>decide (Z.1=k))=true
 ·rw[Þ e,Þ e];exact r.EE k ry
 ·rw[å e,å e];exact Paired.snoc r ⟨rfl,ry⟩
def KV.keys {aj:List (κ×V)} {vs:List (κ×Ç)} (r:KV aj vs):aj.map (·.1)=vs.map (·.1):=by
 unfold KV at r
 induction r with
 |nil=>rfl
 |cons h t ih=>rw[Î,Î,ih,h.1]
theorem KV.length {aj:List (κ×V)} {vs:List (κ×Ç)} (r:KV aj vs):aj.length=vs.length:=Paired.length r
end
def vm (r:RelV (kV k) u):(dU P w).is k u=true:=by
 cases k with
 |inl i=>obtain⟨t,e⟩:=(show ∃t,u=acD i t from r);subst e;exact HJ P w i t
 |inr x=>obtain⟨t,e⟩:=(show ∃t,u=Value.str x t from r);subst e;exact P0 P w x t
theorem IE:∀{ks:List Key} {us:List Ç},Vals (ks.map kV) us->ItemsAre (dU P w) ks us
 | [],_,r=>by rw[Ğ] at r;cases r;exact .nil
 |k::ks,_,r=>by
  rw[Î] at r
  cases r with
  |cons h t=>exact .cons (vm h) (IE t)
abbrev KT (H:Hp):List (List Key×V)->List (List Key×ä×Ç)->Prop:=Paired λp q=>p.1=q.1/\H q.2.1=some (.tup (p.1.map kV))/\RelV p.2 q.2.2
def KT.val {H:Hp} {aj:List (List Key×V)} {xs:List (List Key×ä×Ç)} (r:KT H aj xs) (k:List Key):hV (jt aj k) ((atKey xs k).map (·.2)):=by
 induction r with
 |nil=>exact adi
 | @cons p q U Z h t ih =>
  obtain⟨X,_,W⟩:=h;by_cases e:p.1=k
  ·have Y:q.1=k:=X.symm.trans e
   have b:atKey (q::Z) k=some q.2:=by simp[atKey,ζ,Y]
   rw[ym e,b];exact W
  ·have Y:¬ q.1=k:=λz=>e (X.trans z)
   have b:atKey (q::Z) k=atKey Z k:=by simp[atKey,ζ,Y]
   rw[yn e,b];exact ih
def KT.EE (r:KT H aj xs) (k:List Key) (ry:RelV y u) :
  KT H (aj.map λkv=>if kv.1=k then (kv.1,y) else kv) (xs.map (putAt k u)):=by
 induction r with
 |nil=>exact .nil
 | @cons p q W V h t ih =>
  rw[Î,Î];refine .cons ?_ ih;obtain⟨Z,Y,X⟩:=h;unfold putAt;by_cases e:p.1=k
  ·rw[Þ e,Þ (Z.symm.trans e)];exact⟨Z,Y,ry⟩
  ·rw[å e,å (λz=>e (Z.trans z))];exact⟨Z,Y,X⟩
def KT.put (r:KT H aj xs) (k:List Key) (hb:H b=some (.tup (k.map kV))) (ry:RelV y u) :
  KT H (putK aj k y) (storedH xs k b u):=by
 have e:(aj.any λZ=>decide (Z.1=k))=(atKey xs k).isSome:=by
  rw[Js,(r.val k).ux,abz]
 unfold putK storedH;rw[e];by_cases q:(atKey xs k).isSome=true
 ·rw[Þ q,Þ q];exact r.EE k ry
 ·rw[å q,å q];exact Paired.snoc r ⟨rfl,hb,ry⟩
def KT.keeps (r:KT H aj xs) (ht:∀b ys,H b=some (.tup ys)->H' b=some (.tup ys)):KT H' aj xs :=
 Paired.En r λ_ _ z=>⟨z.1,ht _ _ z.2.1,z.2.2⟩
section
variable {P:ó} {w:Ĕ} {H:Hp} {h:œ} {a:ä}
def Ml (ok:bT P w H h) (e:Rd H a u):cR P w H h a u:=e.ok ok
def vo (ok:bT P w H h) (e:Rd H a (.dK aj)):aj.length<=Ø/\(a==Ŧ)=false/\∃vs,KV aj vs/\h.DictOf (dU P w) a vs :=
 show cR P w H h a (.dK aj) from Ml ok e
def Mm (ok:bT P w H h) (e:H a=some (.dK aj)):aj.length<=Ø/\(a==Ŧ)=false/\∃vs,KV aj vs/\h.DictOf (dU P w) a vs:=vo ok (.inl e)
def lr (ok:bT P w H h) (e:H a=some (.tup (ks.map kV))):(tupleKind (dU P w)).is h ks a:=by
 obtain⟨_,its,r,o,Z,Y,n,X⟩:=(show cR P w H h a (.tup (ks.map kV)) from ok a _ e);exact⟨o,its.toArray,n,Z,Y,X,by simpa using IE r⟩
def vq (ok:bT P w H h) (e:Rd H a (.dT aj)):aj.length<=Ø/\(a==Ŧ)=false /\
  ∃xs,KT H aj xs/\h.DictOfH (tupleKind (dU P w)) a xs:=by
 obtain⟨z,y,xs,r,o,Y,X,W,U,T,S,R⟩:=(show cR P w H h a (.dT aj) from Ml ok e);refine⟨z,y,xs,r,o,Y,X,W,U,T,S,λx hx=>?_,R⟩;have all:∀{l:List (List Key×V)} {m:List (List Key×ä×Ç)},KT H l m->∀x∈m,(tupleKind (dU P w)).is h x.1 x.2.1:=by
  intro l m q
  induction q with
  |nil=>intro x hx;exact nomatch hx
  | @cons p q Q O Z t ih =>
   intro x hx
   rcases É.mp hx with e|hx
   ·subst e
    exact lr ok (by rw[<- Z.1];exact Z.2.1)
   ·exact ih x hx
 exact all r x hx
def Zc (ok:bT P w H h) (e:H a=some (.dT aj)):aj.length<=Ø/\(a==Ŧ)=false /\
  ∃xs,KT H aj xs/\h.DictOfH (tupleKind (dU P w)) a xs:=vq ok (.inl e)
end
def lR (H:Hp) (a:ä) (y:V) (r:Option V):Prop :=
 (∃Z k,Rd H a (.dK Z)/\y=kV k/\r=jt Z k)\/∃Z k b,Rd H a (.dT Z)/\y=.ref b/\H b=some (.tup (k.map kV))/\r=jt Z k
def vN (H:Hp) (a:ä) (y v:V) (H':Hp):Prop :=
 (∃Z k,H a=some (.dK Z)/\y=kV k/\Z.length<Ø/\H'=upd H a (.dK (putK Z k v))) \/
 ∃Z k b,H a=some (.dT Z)/\y=.ref b/\H b=some (.tup (k.map kV))/\Z.length<Ø/\H'=upd H a (.dT (putK Z k v))
theorem lR.k {H:Hp} {a:ä} {aj:List (Key×V)} {k:Key} (e:H a=some (.dK aj)):lR H a (kV k) (jt aj k):=.inl ⟨aj,k,.inl e,rfl,rfl⟩
theorem vN.k {H:Hp} {a:ä} {aj:List (Key×V)} {k:Key} {v:V} (e:H a=some (.dK aj)) (hl:aj.length<Ø):vN H a (kV k) v (upd H a (.dK (putK aj k v))):=.inl ⟨aj,k,e,rfl,hl,rfl⟩
section
variable {X:Cx} {π:List (ä×Obj)} {σ:St} {H:Hp} {s:Å} {a:ä} {y v:V} {u r:Ç} {o:Option V} {A:Ĉ} {E:Ç->Å->Prop}
def Inv.big (I:Inv X π σ H s):Ŧ<s.heap.objs.size:=by
 have h:â<s.heap.objs.size:=(I.mod.glob.keeps I.bk).lt;exact Nat.lt_trans (by decide) h
def RQ (hu:A.units+1<acg) (I:Inv X π σ H s) (g:lR H a y (some v)) (ry:RelV y u) (h:∀w' s',Inv X π σ H s'->RelV v w'->Q w' s') :
  á (í X.prog X.w) A (adm (.ref a) u) Q E s:=by
 rcases g with ⟨U,k,e,Z,l⟩ | ⟨U,k,b,e,Z,T,l⟩
 ·subst Z
  obtain⟨z,S,R,rel,Y⟩:=vo I.aE e;obtain⟨w',hw,W⟩:=hV.some_of (v:=v) (o:=valueAt R k) (by rw[l];exact rel.val k);exact wpAny_getItem_of (vm ry) Y.mapOf hw (h w' _ (I.tok _) W)
 ·subst Z
  cases (show u=Ł b from ry);obtain⟨z,S,P,rel,Y⟩:=vq I.aE e;obtain⟨w',hw,W⟩:=hV.some_of (v:=v) (o:=(atKey P k).map (·.2)) (by rw[l];exact rel.val k);obtain⟨p,O,V⟩:=Ů.mp hw;refine wpAny_getItem_heap (ab4 hu) (lr I.aE T) Y O ?_;rw[V];exact h w' _ (I.tok _) W
def aaH (hu:A.units+1<acg) (I:Inv X π σ H s) (g:lR H a y o) (ry:RelV y u) (h:∀s',Inv X π σ H s'->Q (.bool o.isSome) s') :
  á (í X.prog X.w) A (ě .In u (.ref a)) Q E s:=by
 rcases g with ⟨V,k,e,Z,l⟩ | ⟨V,k,b,e,Z,U,l⟩
 ·subst Z
  obtain⟨z,Y,T,rel,W⟩:=vo I.aE e;refine wpAny_in_of (vm ry) Y W.mapOf ?_;rw[<- (rel.val k).ux,<- l];exact h _ (I.tok _)
 ·subst Z
  cases (show u=Ł b from ry);obtain⟨z,Y,S,rel,W⟩:=vq I.aE e;refine wpAny_in_heap (ab4 hu) (lr I.aE U) Y W ?_;have q:=(rel.val k).ux;rw[abz] at q;rw[<- q,<- l];exact h _ (I.tok _)
def Vr (hu:A.units+1<acg) (I:Inv X π σ H s) (g:lR H a y o) (ry:RelV y u) (h:∀s',Inv X π σ H s'->Q (.bool (!o.isSome)) s') :
  á (í X.prog X.w) A (ě .NotIn u (.ref a)) Q E s:=by
 rcases g with ⟨V,k,e,Z,l⟩ | ⟨V,k,b,e,Z,U,l⟩
 ·subst Z
  obtain⟨z,Y,T,rel,W⟩:=vo I.aE e;refine wpAny_notIn_of (vm ry) Y W.mapOf ?_;rw[<- (rel.val k).ux,<- l];exact h _ (I.tok _)
 ·subst Z
  cases (show u=Ł b from ry);obtain⟨z,Y,S,rel,W⟩:=vq I.aE e;refine wpAny_notIn_heap (ab4 hu) (lr I.aE U) Y W ?_;have q:=(rel.val k).ux;rw[abz] at q;rw[<- q,<- l];exact h _ (I.tok _)
def Kf (I:Inv X π σ H s) (mu:wj (H a)) (hs:ń a s.heap h') (he:∃q,h'.get? a=some q) (new:cR X.prog X.w (upd H a ob) h' a ob) :
  Inv X π σ (upd H a ob) { s with heap:=h',toks:=t' } :=
 I.write (x:=a) (e:=a) mu (.inl rfl) (λb q Z z=>(hs.2 b Z).trans z) he new
def Xy (z:aj.length<=Ø) (hd:(a==Ŧ)=false) (rel:KV aj vs) (dd:h'.DictOf (dU P w) a vs) :
  cR P w H' h' a (.dK aj):=⟨z,hd,vs,rel,dd⟩
def RR (hu:A.units+1<acg) (I:Inv X π σ H s) (g:vN H a y v H') (ry:RelV y u) (rv:RelV v r) (h:∀s',Inv X π σ H' s'->Q () s') :
  á (í X.prog X.w) A (setItem (.ref a) u r) Q E s:=by
 rcases g with ⟨Z,k,e,V,l,U⟩ | ⟨Z,k,b,e,V,O,l,U⟩
 ·subst V U
  obtain⟨z,T,L,rel,S⟩:=Mm I.aE e;have R:L.length<=Ø:=by rw[<- rel.length];exact z
  have P:(putK Z k v).length<=Ø:=by have:=AZ Z k v;omega
  refine wpAny_setItem_pairs (hsz:=R) (vm ry) S λN Y hs=>h _ ?_
  have K:∃q,N.get? a=some q:=let ⟨q,_,_,W,_⟩:=Y;⟨q,W⟩
  exact Kf I (by rw[e];exact adi) hs K (Xy P T (rel.put k rv) Y)
 ·subst V U
  cases (show u=Ł b from ry);obtain⟨z,T,J,rel,S⟩:=Zc I.aE e;have R:J.length<=Ø:=by rw[<- Paired.length rel];exact z
  have P:(putK Z k v).length<=Ø:=by have:=AZ Z k v;omega
  refine wpAny_setItem_heap (hsz:=R) (ab4 hu) (lr I.aE O) S λN Y hs=>h _ ?_;obtain⟨q,G,F,W,D,C,B,_,x⟩:=Y;refine Kf I (by rw[e];exact adi) hs ⟨q,W⟩ ⟨P,T,_,(rel.put k O rv).keeps λc t M=>?_,q,G,F,W,D,C,B,x⟩
  rw[bu (YD M e (λz=>nomatch z))]
  exact M
end
def EF (i:ľ):Prop:=∀Z Y,subscripted i false Z Y=operate [Z,Y] (adm Z Y)
def Kg {prog:ó} {w:Ĕ} {A:Ĉ} {E:Ç->Å->Prop} {s:Å} {env:Env} {value slice:ľ} {pos:Pos} {T id:String} {Q:Ç->Å->Prop}
  (hl:typeLookup (.type T) "__getitem__"=pure (some (.builtin id))) (hs:EF slice)
  (h:á (í prog w) A (ţ value env) (λo bo=>á (í prog w) A (ţ slice env) (λi jW=>jW.TypeIs o T/\á (í prog w) A (adm o i) Q E jW) E bo) E s) :
  á (í prog w) A (ţ (.Subscript value slice pos) env) Q E s:=by
 refine Subscript_ (ķ h (λo bo Z=>ķ Z (λi jW Y=>?_) λ_ _ x=>x) λ_ _ x=>x);obtain⟨W,Y⟩:=Y;unfold subscriptTail;refine À ?_;rw[getitemInPython_of_ne W.not_modules];refine À (wpAny_specialOf W hl ?_);have fin:á (í prog w) A (subscripted slice false o i) (λr V=>á (í prog w) A (letTemporaryGo value o r >>= λ_=>pure r) Q E V) E jW:=by
  rw[hs o i];exact wpAny_operating (ķ Y (λr V X=>À (wpAny_letTemporaryGo (Ä X))) λ_ _ x=>x)
 first
  |exact Ä (À fin)
  |exact À (Ä (À fin))
  |exact À fin
def P2 {X:Cx} {π:List (ä×Obj)} {σ:St} {H:Hp} {s:Å} {a:ä} {y:V} {o:Option V} (I:Inv X π σ H s) (g:lR H a y o):s.TypeIs (.ref a) "dict":=by
 rcases g with ⟨Y,k,e,_,_⟩ | ⟨Y,k,b,e,_,_,_⟩
 ·obtain⟨_,_,W,_,Z⟩:=vo I.aE e
  exact Z.typeIs
 ·obtain⟨_,_,U,_,Z⟩:=vq I.aE e
  exact Z.typeIs
def Zd (td ty:TE):TE:=fun σ H Q=>td σ H λx Y=>ty σ Y λy Z=>∃a v,x=.ref a/\lR Z a y (some v)/\Q v Z
def Ze (td ty tv:TE):TS:=λD σ H=>tv σ H λv Y=>td σ Y λx X=>ty σ X λy W=>∃a Z,x=.ref a/\vN W a y v Z/\D.nx σ Z
section
variable {X:Cx} {o i e value:ľ} {pos pos' zB:Pos} {td ty tv:TE}
def Vs (hu:X.A.units+1<acg) (ho:PE X o td) (hi:PE X i ty) (hs:EF i):PE X (.Subscript o i pos) (Zd td ty):=by
 intro Z s σ H Q I h;refine Kg PySem.F.slot_dict_getitem.lookup hs (aJ (ho Z s σ H _ I h) λu W ⟨x,V,U,T,S⟩=>aJ (hi Z W σ V _ U S) λL K ⟨y,R,Y,P,a,v,ex,g,O⟩=>?_);subst ex;obtain rfl:u=Ł a:=T;exact⟨P2 Y g,RQ hu Y g P λJ G N M=>⟨v,R,N,M,O⟩⟩
def Vt (hu:X.A.units+1<acg) (ho:PE X o td) (hi:PE X i ty) (hv:PE X value tv) (hs:acW value (some (.Subscript o i pos')) pos.line X.env=pure false) :
  PS X (.Assign [.Subscript o i pos'] value pos) (Ze td ty tv):=by
 intro Z s σ H D I h;refine wpAny_Assign_Subscript (aJ (hv Z s σ H _ I h) λr Y ⟨v,W,V,rv,U⟩=>aJ (ho Z Y σ W _ V U) λu T ⟨x,S,R,Q,P⟩=>aJ (hi Z T σ S _ R P) λJ G ⟨y,F,O,N,a,M,ex,g,L⟩=>?_) hs;subst ex;obtain rfl:u=Ł a:=Q;exact RR hu O g N rv λE K=>⟨σ,M,K,L⟩
end
def Tx (h:œ) (hb:Ŧ<h.objs.size):cR P w H (h.push { cls:=.type "dict",data:=.dict #[] }) h.objs.size (.dK []) :=
 ⟨ü _,beq_eq_false_iff_ne.mpr (ŕ (à hb)),[],.nil,Heap.DictOf.new h⟩
def Xz:TE:=λ_ H Q=>∀p,H p=none->Q (.ref p) (upd H p (.dK []))
section
variable {X:Cx} {pos:Pos}
def Tz:PE X (.Dict [] [] pos) Xz:=λZ s σ H Q I h =>
 wpAny_Dict_empty ⟨.ref s.heap.objs.size,_,I.laid (a:=s.heap.objs.size) (o:=.dK []) (t':=s.toks) (λ_ _ q=>Á _ q) (adv _) (Tx s.heap I.big),rfl,h _ (I.aE.fresh (adv _))⟩
end
structure M1 (X:Cx) (o:ľ) (m:Str) (apos:Pos) (e:ľ) (dI:Pos):Prop where
 base:aby o m X.env (ţ o X.env)=ţ o X.env
 l7:((ũ dI (ß [e] X.env)).all (λx=>!x.1)&&(ac7 dI (abl [] X.env)).all (λx=>x.1.isSome)
  && decide (([e]:List ľ).length+([]:List Keyword).length+(if ([]:List Keyword).isEmpty then 0 else 1)<30))=true
 line:(apos.endLine==dI.line)=true
 trees:ũ dI (ß [e] X.env)=[(false,ţ e X.env)]
structure M2 (X:Cx) (o:ľ) (m:Str) (apos:Pos) (e f:ľ) (dI:Pos):Prop where
 base:aby o m X.env (ţ o X.env)=ţ o X.env
 l7:((ũ dI (ß [e,f] X.env)).all (λx=>!x.1)&&(ac7 dI (abl [] X.env)).all (λx=>x.1.isSome)
  && decide (([e,f]:List ľ).length+([]:List Keyword).length+(if ([]:List Keyword).isEmpty then 0 else 1)<30))=true
 line:(apos.endLine==dI.line)=true
 trees:ũ dI (ß [e,f] X.env)=[(false,ţ e X.env),(false,ţ f X.env)]
noncomputable def Lx (sc:acf) (on:List (Str×abg)) (oN N:List Str) (nt:Nat) (cap:List Nat):Bool :=
 decide (sc.kind=.function)&&sc.names.all (λx=>decide (x.2≠.cell))&&sc.names.all (λx=>decide (x.2=.local->sc.names.lookup x.1=some .local)) &&
 sc.names.all (λx=>decide (x.2=.free->sc.names.lookup x.1=some .free/\(on.lookup x.1=some .cell\/on.lookup x.1=some .free)))&&decide (N.length=nt+cap.length) &&
 (Ù cap.length).all (λk=>match cap[k]? with
  |some j=>match oN[j]? with
   |some x=>decide (N[nt+k]?=some x)&&decide ((x,NameKind.free)∈sc.names)
   |none=>false
  |none=>true)
def zk (h:Lx sc X.env.scope.names X.N N nt cap=true):nX X sc N nt cap:=by
 unfold Lx at h;simp only[È,õ,Í] at h;obtain⟨⟨⟨⟨⟨Z,Y⟩,W⟩,V⟩,U⟩,T⟩:=h;refine⟨Z,Y,W,λx S e=>V x S e,U,λk j e=>?_⟩;have R:k<cap.length:=(Æ.mp e).1;have:=T k (ë.mpr R);rw[e] at this;dsimp only at this
 cases ex:X.N[j]? with
 |none=>rw[ex] at this;cases this
 |some x =>
  rw[ex] at this;simp only[È,Í] at this;exact⟨x,rfl,this.1,this.2⟩
end L2
namespace TS
open PySem
abbrev kC (l:List Nat):Prop:=l.Pairwise (· < ·)
def TB (xs:Array Nat) (k d:Nat):xs.getD k d=xs.toList.getD k d:=by
 cases xs with
 |mk l =>
  by_cases h:k<l.length
  ·simp[adj,ε,h]
  ·simp[adj,ε,h]
def yA (h:kC l) (qy:a<b) (hb:b<l.length):l.getD a 0<l.getD b 0:=by
 have:=List.pairwise_iff_getElem.mp h a b (by omega) hb qy;simpa [ε,Ô hb,Ô (show a<l.length by omega)] using this
def TC (l:List Nat) (hk:k<l.length) (d e:Nat):l.getD k d=l.getD k e:=by
 simp[ε,Ô hk]
theorem B5 (xs:Array Nat) (j:Nat) (hr:kC xs.toList):∀(fuel lo hi:Nat),hi-lo<=fuel->lo<=hi->hi<=xs.toList.length->(∀k,k<lo->xs.toList.getD k 0<j)->(∀k,hi<=k->k<xs.toList.length->j<=xs.toList.getD k 0) ->
  acu xs j fuel lo hi<=xs.toList.length/\(∀k,k<acu xs j fuel lo hi->xs.toList.getD k 0<j)/\(∀k,acu xs j fuel lo hi<=k->k<xs.toList.length->j<=xs.toList.getD k 0)
 |0,lo,hi,S,R,Z,Y,X=>by
  have e:lo=hi:=by omega
  subst e;exact⟨Z,Y,X⟩
 |fuel+1,lo,hi,S,R,Z,Y,X=>by
  unfold acu;by_cases U:lo<hi
  ·rw[Þ U]
   dsimp only;have T:(lo+hi) / 2<xs.toList.length:=by omega
   rw[TB,TC _ T j 0];by_cases W:xs.toList.getD ((lo+hi) / 2) 0<j
   ·rw[Þ W]
    refine B5 xs j hr fuel _ _ (by omega) (by omega) Z (λk Q=>?_) X;by_cases V:k=(lo+hi) / 2
    ·rw[V];exact W
    ·exact Nat.lt_trans (yA hr (by omega) T) W
   ·rw[å W]
    refine B5 xs j hr fuel _ _ (by omega) (by omega) (by omega) Y (λk Q V=>?_);by_cases P:k=(lo+hi) / 2
    ·rw[P];omega
    ·have:=yA hr (show (lo+hi) / 2<k by omega) V
     omega
  ·rw[å U]
   have e:lo=hi:=by omega
   subst e;exact⟨Z,Y,X⟩
def H9 (xs:Array Nat) (j:Nat) (hr:kC xs.toList):Ę xs j<=xs.toList.length/\(∀k,k<Ę xs j->xs.toList.getD k 0<j)/\(∀k,Ę xs j<=k->k<xs.toList.length->j<=xs.toList.getD k 0):=by
 unfold Ę;exact B5 xs j hr xs.size 0 xs.size (by omega) (ü _) (by simp) (λk Z=>by omega) (λk Z Y=>by simp at Y;omega)
def P4 {l:List Nat} {p j:Nat} (h:∀k,k<p->l.getD k 0<j):∀x∈l.take p,x<j:=by
 intro x Y;obtain⟨k,X,e⟩:=abR Y;have Z:k<p/\k<l.length:=by rw[abL] at X;omega
 have:=h k Z.1;rw[List.getElem_take] at e;rw[<- e];simpa [ε,Ô Z.2] using this
def P5 {l:List Nat} {p j:Nat} (h:∀k,p<=k->k<l.length->j<=l.getD k 0):∀x∈l.drop p,j<=x:=by
 intro x Y;obtain⟨k,X,e⟩:=abR Y;have Z:p+k<l.length:=by rw[List.length_drop] at X;omega
 have:=h (p+k) (by omega) Z;rw[List.getElem_drop] at e;rw[<- e];simpa [ε,Ô Z] using this
def TF {xs:Array Nat} {j:Nat} (hr:kC xs.toList) (hn:xs[Ę xs j]?≠some j):kC (SetTable.insertAt xs (Ę xs j) j).toList:=by
 obtain⟨T,V,U⟩:=H9 xs j hr;rw[SetTable.toList_insertAt];have a1:=P4 V;have a2:∀x∈xs.toList.drop (Ę xs j),j<x:=by
  intro x hx;have Y:=P5 U;have X:kC (xs.toList.drop (Ę xs j)):=acE (List.drop_sublist _ _) hr
  cases Z:xs.toList.drop (Ę xs j) with
  |nil=>rw[Z] at hx;cases hx
  |cons y r =>
   rw[Z] at X hx Y;have hy:j≠y:=by
    intro e;apply hn;have:(xs.toList.drop (Ę xs j))[0]?=some y:=by rw[Z];rfl
    rw[List.getElem?_drop] at this;have e2:xs.toList[Ę xs j]?=some y:=by simpa using this
    rw[<- Ŏ,e2,e]
   have W:j<y:=Nat.lt_of_le_of_ne (Y y Ñ) hy
   rcases É.mp hx with e|hx
   ·rw[e];exact W
   ·exact Nat.lt_trans W ((Ă.mp X).1 x hx)
 first
  |(refine List.pairwise_append.mpr ⟨acE (List.take_sublist _ _) hr,Ă.mpr ⟨a2,acE (List.drop_sublist _ _) hr⟩,λx hx y hy=>?_⟩
    rcases É.mp hy with e|hy
    ·rw[e];exact a1 x hx
    ·exact Nat.lt_trans (a1 x hx) (a2 y hy))
  |trace_state
theorem B6 (t:SetTable) (h:Int):∀(fuel:Nat) (p:SetTable.Probe) (j:Nat) (dm:Option Nat),(∀d,p.dummy=some d->t.slot d=.dummy)->adk t (λ_=>h+1) h fuel p=some (.empty j dm)->t.slot j=.empty/\∀d,dm=some d->t.slot d=.dummy
 |0,p,j,dm,Y,e=>by simp[adk] at e
 |fuel+1,p,j,dm,Y,e=>by
  unfold adk at e
  cases hs:t.slot p.j with
  |empty =>
   rw[hs] at e;simp at e;rw[<- e.1,<- e.2];exact⟨hs,Y⟩
  |dummy =>
   rw[hs] at e;refine B6 t h fuel _ j dm (λd Z=>?_) e;unfold SetTable.advance at Z;split at Z
   ·simp at Z;rw[<- Z];exact hs
   ·simp at Z;rw[<- Z];exact hs
  |live i =>
   rw[hs] at e;have X:(h+1==h)=false:=by simp;omega
   simp only[X,Ã,î] at e;refine B6 t h fuel _ j dm (λd Z=>?_) e;unfold SetTable.advance at Z;split at Z
   ·exact Y d Z
   ·exact Y d Z
def IF {t:SetTable} {j:Nat} (h:t.slot j=.empty\/t.slot j=.dummy):t.place[Ę t.place j]?≠some j:=by
 intro e;have:t.slot j=.live (Ę t.place j):=by
  unfold SetTable.slot;simp[e]
 rw[this] at h
 rcases h with h|h<;>cases h
def RS {t:SetTable} {h:Int} {j:Nat} {b:Bool} (e:t.freeSlot h=some (j,b)):t.place[Ę t.place j]?≠some j:=by
 unfold SetTable.freeSlot SetTable.probe at e;split at e
 ·rename_i Y Z X
  have k:=B6 t h _ _ Y Z (λd W=>by simp[SetTable.probeStart] at W) X;simp at e;rw[<- e.1]
  cases Z with
  |none=>exact IF (.inl k.1)
  |some d=>exact IF (.inr (k.2 d rfl))
 ·cases e
structure iM (led:Bool) (t:SetTable):Prop where
 led:t.led=led
 rise:t.plain=true->kC t.place.toList
def xO (h:iM led t) (n:Nat):iM led (t.standIn n):=⟨h.led,λz=>by simp[SetTable.standIn] at z⟩
def QJ {led:Bool} {t:SetTable} (h:iM led t) (es:Array (Int×Ç)) (hs:Int) (x:Ç):iM led (layNew t es hs x).2.1:=by
 unfold layNew;split
 ·rename_i slot Y e
  dsimp only;unfold SetTable.orStandIn;have Z:iM led (t.put slot).1:=⟨h.led,λz=>TF (h.rise z) (RS e)⟩;split
  ·exact Z
  ·exact xO Z _
 ·exact xO h _
def TH {mask finger moves:Nat} {led plain:Bool} {hs:Array Int} {o:Array Nat} (e:SetTable.laid mask finger moves led plain hs=some (t,o)):iM led t/\t.plain=plain:=by
 unfold SetTable.laid at e
 cases X:SetTable.layClean mask hs with
 |none=>rw[X] at e;simp at e
 |some owner =>
  rw[X] at e;simp at e;obtain⟨e1,e2⟩:=e;subst e1;refine⟨⟨rfl,λ_=>?_⟩,rfl⟩;show kC (acF _).toList;simp only[List.map_filterMap];refine List.pairwise_filterMap.mpr ?_;refine List.Pairwise.imp (R:=(· < ·)) ?_ (List.pairwise_lt_range);intro a b U x Z y Y
  cases W:(owner[a]?.getD none) with
  |none=>rw[W] at Z;simp at Z
  |some q =>
   cases V:(owner[b]?.getD none) with
   |none=>rw[V] at Y;simp at Y
   |some r =>
    rw[W] at Z;rw[V] at Y;simp at Z Y;omega
def RT (h:iM led t) (es:Array (Int×Ç)) (n:Nat):iM led (relayAll t es n).2.1:=by
 unfold relayAll;split
 ·rename_i Z o e
  dsimp only;split
  ·unfold SetTable.relaid at e
   have k:=TH e;exact⟨k.1.led.trans h.led,k.1.rise⟩
  ·exact xO h _
 ·exact xO h _
def IG (led:Bool):iM led (.fresh 0 0 led):=⟨rfl,λ_=>List.Pairwise.nil⟩
open PySem.Spec PyProof.Rows
section
variable {P:ó} {w:Ĕ} {A:Ĉ} {E:Ç->Å->Prop} {s:Å} {led:Bool}
def fQ (P:ó) (w:Ĕ) (led:Bool) (h:œ) (a:ä) (S:Int->Bool) (n:Nat):Prop :=
 ∃o Z Y t,h.get? a=some o/\o.ExactSet/\o.data=.set Z Y t/\ElemsOf (ů P w) Z.toList/\(∀k,S k=true↔∃e∈Z.toList,(ů P w).is k e.2=true)/\Z.size<ω/\t.fits Z.size=true/\Z.size=n/\iM led t
def fQ.at (x:fQ P w led h a S n) (k:∀o,h.get? a=some o->h'.get? a=some o):fQ P w led h' a S n:=by
 obtain⟨o,Z,Y,t,X,r⟩:=x;exact⟨o,Z,Y,t,k o X,r⟩
def fQ.congr (x:fQ P w led h a S n) (e:∀k,S k=S' k) (en:n=n'):fQ P w led h a S' n':=by
 obtain rfl:S=S':=funext e;subst en;exact x
def B7 {a:ä} {u:Obj} {es iB:Array (Int×Ç)} {ep:Nat} {t t':SetTable} {h:œ} (hu:h.get? a=some u) (hx:u.ExactSet) (hd:u.data=.set es ep t) {S:Int->Bool}
  (c1:ElemsOf (ů P w) iB.toList) (c2:∀k,S k=true↔∃e∈iB.toList,(ů P w).is k e.2=true) (c3:iB.size<ω) (c4:t'.fits iB.size=true) (c5:iM led t') :
  (h.update a (Obj.putSet iB t')).get? a=some { u with data:=.set iB (ep+1) t' }/\fQ P w led (h.update a (Obj.putSet iB t')) a S iB.size:=by
 have g:=(SetOf_store (knd:=ů P w) hu hx hd c1 c2 c3 c4).1;exact⟨g,_,iB,ep+1,t',g,hx,rfl,c1,c2,c3,c4,rfl,c5⟩
def Vu {a:ä} {S:Int->Bool} {n:Nat} {k:Int} {tk:Tok} {Q:Bool->Å->Prop} (hS:fQ P w led s.heap a S n) (Zf:n+1<ω)
  (h:∀h',ń a s.heap h'->fQ P w led h' a (λj=>S j||decide (j=k)) (if S k then n else n+1)->Q (!S k) { s with heap:=h' }) :
  á (í P w) A (setAddHashed a (.int k tk) ((ů P w).hash k)) Q E s:=by
 obtain⟨u,W,d,t,R,H,O,G,F,m,B,y,i⟩:=hS;have ky:(ů P w).is k (.int k tk)=true:=intKind_is _ _ _ _;have sc:(acD k tk).scannable=true:=rfl;have wM:W.size+1<ω:=by rw[y];exact Zf
 unfold setAddHashed setAddHashedIn;refine Ġ ?_;refine À (η R O B ?_);dsimp only;rw[byScan_of sc m G,Þ rfl];unfold setAddByScan;refine À (À (Ų ?_));refine À (wpAny_setScan_of ky R O B G ?_)
 cases g:W.toList.findIdx? (λe=>(ů P w).is k e.2) with
 |some j =>
  dsimp only;obtain⟨c,pj,_⟩:=List.findIdx?_eq_some_iff_getElem.mp g;have K:S k=true:=(F k).mpr ⟨W.toList[j],acL c,pj⟩;have q:=h s.heap (Heap.SameBut.refl a s.heap) ⟨u,W,d,t,R,H,O,G,λj'=>by
   rw[ab5,Í,<- F j'];exact⟨λz=>z.elim id λe=>by rw[e];exact K,Or.inl⟩,m,B,by rw[K];exact y,i⟩
  rw[K] at q;exact Ä (Ä q)
 |none =>
  dsimp only;have K:S k=false:=by
   rw[<- aba,F k];rintro ⟨e,X,pe⟩;have z:=List.findIdx?_eq_none_iff.mp g e X;rw[pe] at z;cases z
  have way:∀(b:Bool) {x:Å} {v:Unit->Å->Prop},v () x->á (í P w) A (match b with|true=>rule "set.scan.the-table-gave-way"|false=>pure ()) v E x :=
   λb x v q=>by cases b<;>first|exact Ä q|exact Ų q
  have pm:=layNew_perm t W ((ů P w).hash k) (.int k tk);have r:=layNew_fits t W ((ů P w).hash k) (.int k tk);have D:=QJ i W ((ů P w).hash k) (.int k tk);generalize layNew t W ((ů P w).hash k) (.int k tk)=L at pm r D |-;obtain⟨Z,t1,adT,ad6⟩:=L;dsimp only at pm r D |-;rw[acv] at pm;have p:ElemsOf (ů P w) Z.toList:=(G.push ky sc).perm pm;have o:∀j,(S j||decide (j=k))=true↔∃e∈Z.toList,(ů P w).is j e.2=true:=mem_push_iff ky F pm;have z1:Z.size=n+1:=by
   have l:=pm.length_eq;rw[Ð,Ą,Ą,y] at l;exact l
  have V:Z.size<ω:=by omega
  refine À (way _ ?_);obtain⟨g1,f⟩:=B7 (S:=λj=>S j||decide (j=k)) R H O p o V r D;have C:=Į s.heap a (Obj.putSet Z t1)
  have fin:∀h',ń a s.heap h'->fQ P w led h' a (λj=>S j||decide (j=k)) Z.size->Q true { s with heap:=h' }:=λh' sb T=>by
   have q:=h h' sb;rw[K] at q;rw[z1] at T;exact q T
  have Y:=relayAll_perm t1 Z (acA Z.size);have N:=relayAll_fits t1 Z (acA Z.size);have M:=RT D Z (acA Z.size);have hv:hashByValue 8 (acD k tk)=pure true:=rfl;split
  ·refine À ?_
   rw[hv];refine Ä ?_;simp only[ï];refine À (acw R O ?_ (abA V));split
   ·generalize relayAll t1 Z (acA Z.size)=L2 at Y N M |-
    obtain⟨J,t2,Zg⟩:=L2;dsimp only at Y N M |-;have U:J.size=Z.size:=by
     have l:=Y.length_eq;rwa [Ą,Ą] at l
    have f2:∀j,(S j||decide (j=k))=true↔∃e∈J.toList,(ů P w).is j e.2=true:=λj=>(o j).trans ⟨λ⟨e,X,q⟩=>⟨e,Y.mem_iff.mpr X,q⟩,λ⟨e,X,q⟩=>⟨e,Y.mem_iff.mp X,q⟩⟩;refine À (way _ ?_);refine À (acw g1 rfl ?_ (abA (by rw[U];exact V)));obtain⟨g2,I⟩:=B7 (S:=λj=>S j||decide (j=k)) (led:=led) g1 H rfl (p.perm Y) f2 (by rw[U];exact V) N M;rw[U] at I;exact Ä (Ä (fin _ (C.trans (Į _ a _)) I))
   ·exact Ä (Ä (fin _ C f))
  ·refine À (Ä ?_)
   simp only[ï];refine À (acw R O ?_ (abA V));split
   ·generalize relayAll t1 Z (acA Z.size)=L2 at Y N M |-
    obtain⟨J,t2,Zg⟩:=L2;dsimp only at Y N M |-;have U:J.size=Z.size:=by
     have l:=Y.length_eq;rwa [Ą,Ą] at l
    have f2:∀j,(S j||decide (j=k))=true↔∃e∈J.toList,(ů P w).is j e.2=true:=λj=>(o j).trans ⟨λ⟨e,X,q⟩=>⟨e,Y.mem_iff.mpr X,q⟩,λ⟨e,X,q⟩=>⟨e,Y.mem_iff.mp X,q⟩⟩;refine À (way _ ?_);refine À (acw g1 rfl ?_ (abA (by rw[U];exact V)));obtain⟨g2,I⟩:=B7 (S:=λj=>S j||decide (j=k)) (led:=led) g1 H rfl (p.perm Y) f2 (by rw[U];exact V) N M;rw[U] at I;exact Ä (Ä (fin _ (C.trans (Į _ a _)) I))
   ·exact Ä (Ä (fin _ C f))
end
def OT:entryFor table "set.__iter__"=some Ť.«frozenset.__iter__»:=entryFor_alias (id':="frozenset.__iter__") (by kernel_rfl) rfl (by decide +kernel) (by kernel_rfl)
def ka:Slot "set_iterator" "__next__" "set_iterator.__next__" :=
 .of (owner:="set_iterator") (n:="__next__") (by rw[typeLookup_type,acG];kernel_rfl) (by decide +kernel) (by decide +kernel) (by decide +kernel)
  (by first|exact .inl (by decide +kernel)|exact .inr (by decide +kernel)) (by rw[isSubtype_type];kernel_rfl)
def xx:entryFor table "set_iterator.__next__"=some Ť.«set_iterator.__next__»:=entryFor_of_tree (by kernel_rfl)
def xC (a:Ç):argsOk "set_iterator.__next__" ⟨[a],[]⟩:=by unfold argsOk;kernel_rfl
def Hx:Slot "set_iterator" "__iter__" "set_iterator.__iter__" :=
 .of (owner:="set_iterator") (n:="__iter__") (by rw[typeLookup_type,acG];kernel_rfl) (by decide +kernel) (by decide +kernel) (by decide +kernel)
  (by first|exact .inl (by decide +kernel)|exact .inr (by decide +kernel)) (by rw[isSubtype_type];kernel_rfl)
def ju (h:œ) (I a:ä) (first:Ç) (i n ep:Nat):Prop:=∃o,h.get? I=some o/\o.cls=.type "set_iterator"/\o.data=.fields #[first,.int i 0,.ref a,.int n 0,.int ep 0]
section
variable {P:ó} {w:Ĕ} {A:Ĉ} {E:Ç->Å->Prop} {s:Å}
def Kh {slot i n ep nx:Nat} {es:Array (Int×Ç)} {Q:Option Ç->Å->Prop} (hit:ju s.heap I a (.int slot 0) i n ep)
 (hu:s.heap.get? a=some u) (hd:u.data=.set es ep t) (hf:t.fits es.size=true) (hn:es.size=n)
 (hs:∀(A':Ĉ) (Q':Option (Ç×Nat)->Å->Prop) (E':Ç->Å->Prop),Q' (some (x,nx)) s->á (í P w) A' (setNext a slot i ep) Q' E' s)
 (hQ:∀h',ju h' I a (.int nx 0) (i+1) n ep->ń I s.heap h'->Q (some x) { s with heap:=h' }):á (í P w) A (ſ (.ref I)) Q E s:=by
 obtain⟨o,Y,X,Z⟩:=id hit;have W:s.TypeIs (.ref I) "set_iterator":=⟨o,Y,X⟩;unfold ſ;refine À (ο (č (name:=Ā "__next__") W ka
  (Ď ka W xx ?_ (xC _))))
 unfold Ť.«set_iterator.__next__» slotArgs;simp only[abM,Č,Ã,↓reduceIte,bind_assoc,Ć,ğ];refine À (Ä ?_);refine À (wpAny_fieldsOf Y Z ?_);dsimp only;refine À (ς hu hd hf ?_);rw[hn];simp only[ğ,Ã,↓reduceIte,Ĳ];refine À (hs _ _ _ ?_);dsimp only;refine À (abd Y Z (by simp) ?_);refine À (abd (Ė _ Y (Ş (ę Z _))) (ę Z _) (by simp) ?_);refine Ä ⟨x,rfl,Ä (hQ _ ⟨_,Ė _ (Ė _ Y (Ş (ę Z _))) (Ş (ę (ę Z _) _)),(acr ..).trans ((acr ..).trans X),?_⟩ ((Į ..).trans (Į ..)))⟩;rw[ę (ę Z _)];simp[Ś]
def QK (hm:m≠0) (h:Q (w.draws src (s.drawn.get src) % m) { s with drawn:=s.drawn.bump src }):á (í P w) A (choose src m) Q E s:=fun Y p Z=>by
 unfold choose;rw[Sem.wp_choose];exact⟨hm,h⟩
def IH (hh:A.handled=none) (ho:s.heap.get? I=some o) (eI:o.data=.fields vs) (h2:2<vs.size)
 (hQ:∀h',acq I s.heap h'->Q none { s with heap:=h' }) :
  á (í P w) A.in1 (setField (.ref I) 2 .none >>= λ_=>newExc (.type "StopIteration") [] >>= λe=>(raiseNew e:Sem Fin)) (λfin s'=>∃v,fin=Fin.done (Flow.ret v)/\á (í P w) A (pure (some v)) Q E s')
   (λe s'=>á (í P w) A (isInstance e (Ŗ "StopIteration") >>= λb=>if b=true then pure none else throw e) Q E s') s:=by
 refine À (abd ho eI h2 ?_);refine À ?_;simp only[newExc,newTuple];refine À (ą ?_ (by size_fits))
 refine À (m:=firstArgMember _ _) (ξ (a:=Value.none) (by first|rfl | (simp only[firstArgMember];rfl)) ?_)
 refine ą ?_ (by size_fits);simp only[raiseNew];refine À (wpAny_handled ?_)
 first|rw[show A.in1.handled=none from hh]|rw[hh]
 refine À (Ä (wpAny_throw ?_));refine À (acM (T:="StopIteration") (b:=true) ⟨_,Ë _ rfl,rfl⟩ isSubtype_stop ?_);exact Ä (hQ _ (((Į ..).extBut.push _).push _))
def Ly {slot i n ep:Nat} {es:Array (Int×Ç)} {Q:Option Ç->Å->Prop} (hh:A.handled=none) (hit:ju s.heap I a (.int slot 0) i n ep)
 (hu:s.heap.get? a=some u) (hd:u.data=.set es ep t) (hf:t.fits es.size=true) (hn:es.size=n)
 (hs:∀(A':Ĉ) (Q':Option (Ç×Nat)->Å->Prop) (E':Ç->Å->Prop),Q' none s->á (í P w) A' (setNext a slot i ep) Q' E' s)
 (hQ:∀h',acq I s.heap h'->Q none { s with heap:=h' }):á (í P w) A (ſ (.ref I)) Q E s:=by
 obtain⟨o,Z,W,Y⟩:=id hit;have X:s.TypeIs (.ref I) "set_iterator":=⟨o,Z,W⟩;unfold ſ;refine À (ο (č (name:=Ā "__next__") X ka
  (Ď ka X xx ?_ (xC _))))
 unfold Ť.«set_iterator.__next__» slotArgs;simp only[abM,Č,Ã,↓reduceIte,bind_assoc,Ć,ğ];refine À (Ä ?_);refine À (wpAny_fieldsOf Z Y ?_);dsimp only;refine À (ς hu hd hf ?_);rw[hn];simp only[ğ,Ã,↓reduceIte,Ĳ];refine À (hs _ _ _ ?_);dsimp only;exact IH hh Z Y (by simp) hQ
def TJ {i n ep pl:Nat} {es:Array (Int×Ç)} {x:Int×Ç} {Q:Option Ç->Å->Prop} (hit:ju s.heap I a (.ref tp) i n ep)
 (hu:s.heap.get? a=some u) (hd:u.data=.set es ep t) (hf:t.fits es.size=true) (hn:es.size=n) (Fz:s.heap.IsTuple tp places) (bU:places[i]?=some (.int pl tk)) (hx:es[pl]?=some x)
 (hQ:∀h',ju h' I a (.ref tp) (i+1) n ep->ń I s.heap h'->Q (some x.2) { s with heap:=h' }):á (í P w) A (ſ (.ref I)) Q E s:=by
 obtain⟨o,Z,X,Y⟩:=id hit;obtain⟨op,V,U,np,T⟩:=Fz;have W:s.TypeIs (.ref I) "set_iterator":=⟨o,Z,X⟩;unfold ſ;refine À (ο (č (name:=Ā "__next__") W ka
  (Ď ka W xx ?_ (xC _))))
 unfold Ť.«set_iterator.__next__» slotArgs;simp only[abM,Č,Ã,↓reduceIte,bind_assoc,Ć,ğ];refine À (Ä ?_);refine À (wpAny_fieldsOf Z Y ?_);dsimp only;refine À (ς hu hd hf ?_);rw[hn];simp only[ğ,Ã,↓reduceIte,Ĳ];refine À (Ĵ V T ?_);dsimp only;rw[bU];dsimp only;unfold setNextDrawn;refine À (À (η hu hd hf ?_));dsimp only;simp only[ğ,Ã,↓reduceIte,Ĳ];rw[hx];dsimp only;refine Ä ?_;refine À (abd Z Y (by simp) ?_);refine Ä ⟨x.2,rfl,Ä (hQ _ ⟨_,Ė _ Z (Ş (ę Y _)),(acr ..).trans X,?_⟩ (Į ..))⟩;rw[ę Y];simp[Ś]
def Vv (hh:A.handled=none) (hit:ju s.heap I a (.ref tp) i n ep)
 (hu:s.heap.get? a=some u) (hd:u.data=.set es ep t) (hf:t.fits es.size=true) (hn:es.size=n) (Fz:s.heap.IsTuple tp places) (bU:places[i]?=none)
 (hQ:∀h',acq I s.heap h'->Q none { s with heap:=h' }):á (í P w) A (ſ (.ref I)) Q E s:=by
 obtain⟨o,Z,W,Y⟩:=id hit;obtain⟨op,V,U,np,T⟩:=Fz;have X:s.TypeIs (.ref I) "set_iterator":=⟨o,Z,W⟩;unfold ſ;refine À (ο (č (name:=Ā "__next__") X ka
  (Ď ka X xx ?_ (xC _))))
 unfold Ť.«set_iterator.__next__» slotArgs;simp only[abM,Č,Ã,↓reduceIte,bind_assoc,Ć,ğ];refine À (Ä ?_);refine À (wpAny_fieldsOf Z Y ?_);dsimp only;refine À (ς hu hd hf ?_);rw[hn];simp only[ğ,Ã,↓reduceIte,Ĳ];refine À (Ĵ V T ?_);dsimp only;rw[bU];dsimp only;refine À (abd Z Y (by simp) ?_)
 exact IH (s:={ s with heap:=_ }) hh (Ė _ Z (Ş (ę Y _))) (ę Y _) (by simp) λh' e=>hQ h' (Heap.ExtBut.trans (Į ..).extBut e)
end
def O3:entryFor table "set_iterator.__iter__"=some Ť.«dict_keyiterator.__iter__»:=entryFor_alias (id':="dict_keyiterator.__iter__") (by kernel_rfl) rfl (by decide +kernel) (by kernel_rfl)
def Pw (a:Ç):argsOk "set_iterator.__iter__" ⟨[a],[]⟩:=by unfold argsOk;kernel_rfl
section
variable {P:ó} {w:Ĕ} {A:Ĉ} {E:Ç->Å->Prop} {s:Å}
def B9 (hit:ju s.heap I a f i n ep) (h:Q (.ref I) s):á (í P w) A (pyIter (.ref I)) Q E s:=by
 obtain⟨o,Y,X,W⟩:=id hit;have Z:s.TypeIs (.ref I) "set_iterator":=⟨o,Y,X⟩;refine wpAny_pyIter_slot Z Hx (Ď Hx Z O3 ?_ (Pw _));show á _ _ (ret (.ref I)) _ _ s;exact Ä ⟨_,rfl,"set_iterator",_,Z,ka.lookup,h⟩
def ju.at (x:ju h I a f i n ep) (k:∀o,h.get? I=some o->h'.get? I=some o):ju h' I a f i n ep:=by
 obtain⟨o,Z,r⟩:=x;exact⟨o,k o Z,r⟩
def II (iE:w.params.followText "set-order"=true) (hu:s.heap.get? a=some u) (hd:u.data=.set es ep t) (hf:t.fits es.size=true)
 (h:Q' (((abb (w.params.setOrder a ep) es)[i]?).map λe=>(e.2,slot)) s):á (í P w) A (setNext a slot i ep) Q' E s:=by
 unfold setNext;refine À (η hu hd hf ?_);dsimp only;unfold setsByText;refine À (À (Ŵ (Ä ?_)))
 show á _ _ (if w.params.followText "set-order"=true then _ else _) _ _ _
 rw[Þ iE];simp only[ğ,Ã,↓reduceIte];unfold setWalk;refine À (À (η hu hd hf ?_));dsimp only;unfold setsByText;refine À (À (Ŵ (Ä ?_)))
 show á _ _ (if w.params.followText "set-order"=true then _ else _) _ _ _
 rw[Þ iE];refine À (Ŵ (Ä ?_));exact Ä h
def pb (hr:kC xs.toList) (hi:i<=xs.toList.length) (h1:∀k,k<i->xs.toList.getD k 0<slot) (h2:∀k,i<=k->k<xs.toList.length->slot<=xs.toList.getD k 0):Ę xs slot=i:=by
 obtain⟨V,a1,a2⟩:=H9 xs slot hr;by_cases Y:Ę xs slot<i
 ·have X:=a2 _ (adv _) (by omega)
  have W:=h1 _ Y;omega
 ·by_cases Z:i<Ę xs slot
  ·have X:=a1 i Z
   have W:=h2 i (adv _) (by omega);omega
  ·omega
def Ia (iE:w.params.followText "set-order"=false) (hu:s.heap.get? a=some u) (hd:u.data=.set es ep t) (hf:t.fits es.size=true)
 (hl:t.led=true) (hp:t.plain=true\/es.size<=1) (hb:Ę t.place slot=i)
 (h:Q' (match es[i]?,t.place[i]? with|some (_,x),some j=>some (x,j+1) | _,_=>none) s):á (í P w) A (setNext a slot i ep) Q' E s:=by
 unfold setNext;refine À (η hu hd hf ?_);dsimp only;unfold setsByText;refine À (À (Ŵ (Ä ?_)))
 show á _ _ (if w.params.followText "set-order"=true then _ else _) _ _ _
 rw[å (by rw[iE];decide)];split
 ·rename_i Z
  have Y:(!t.plain&&decide (es.size > 1))=true:=Z
  rcases hp with hp|hp
  ·rw[hp] at Y;cases Y
  ·simp at Y;omega
 ·refine À ?_
  show á _ _ (if (!t.led&&!es.isEmpty)=true then _ else _) _ _ _
  rw[hl];simp only[Č,adb,Ã,↓reduceIte];refine Ä ?_;rw[hb];exact Ä h
def A4 (sb:ń I s.heap h'):Moved [I] (λa b=>b=a) s { s with heap:=h' }:=⟨λb o Z e=>by rw[sb.2 b (λz=>Z (by simp[z]))];exact e,rfl,rfl,rfl,adv _⟩
def Bd (sb:acq I s.heap h'):Moved [I] (λa b=>b=a) s { s with heap:=h' }:=⟨λb o Z e=>sb b o (λz=>Z (by simp[z])) e,rfl,rfl,rfl,adv _⟩
end
def QM (hh:A.handled=none) (bK:a≠I) (iE:w.params.followText "set-order"=true) (hd:u.data=.set es ep t) (hf:t.fits es.size=true) (hsz:(abb (w.params.setOrder a ep) es).size=es.size) :
  WalksS P w A I [I,a] [I] (λa b=>b=a) es.size (λi v=>((abb (w.params.setOrder a ep) es).map (·.2))[i]?=some v) (λi s=>ju s.heap I a (.int 0 0) i es.size ep/\s.heap.get? a=some u) where
 sub:=λb X=>by simp at X;simp[X]
 grefl:=λ_=>rfl
 gtrans:=λ_ _ _ U T=>T.trans U
 frame:=λi s W M st _ V=>⟨st.1.at λo e=>V I (by simp) o e,V a (by simp) _ st.2⟩
 item:=λi s Q E hi st Z=>by
  have S:i<(abb (w.params.setOrder a ep) es).size:=by rw[hsz];exact hi
  have ex:(abb (w.params.setOrder a ep) es)[i]?=some (abb (w.params.setOrder a ep) es)[i]:=by simp[S]
  refine Kh (nx:=0) (x:=(abb (w.params.setOrder a ep) es)[i].2) (slot:=0) st.1 st.2 hd hf rfl (λR O N q=>II iE st.2 hd hf (by rw[ex];exact q)) λW it Y=>?_;exact Z _ _ (by simp[ex]) ⟨it,by rw[Y.2 a bK];exact st.2⟩ (A4 Y)
 done:=λs Q E st Z=>by
  refine Ly (slot:=0) hh st.1 st.2 hd hf rfl (λR O N q=>II iE st.2 hd hf (by
   rw[show (abb (w.params.setOrder a ep) es)[es.size]?=none by simp[hsz]];exact q)) λW Y=>Z _ (Bd Y)
 self:=λi s Q E st Z=>B9 st.1 Z
def P6 (hh:A.handled=none) (bK:a≠I) (iE:w.params.followText "set-order"=false) (hd:u.data=.set es ep t) (hf:t.fits es.size=true) (hl:t.led=true) (hp:t.plain=true\/es.size<=1) (hr:kC t.place.toList) :
  WalksS P w A I [I,a] [I] (λa b=>b=a) es.size (λi v=>(es.map (·.2))[i]?=some v) (λi s=>∃slot:Nat,ju s.heap I a (.int slot 0) i es.size ep/\s.heap.get? a=some u/\i<=es.size/\(∀k,k<i->t.place.toList.getD k 0<slot)/\∀k,i<=k->k<t.place.toList.length->slot<=t.place.toList.getD k 0) where
 sub:=λb N=>by simp at N;simp[N]
 grefl:=λ_=>rfl
 gtrans:=λ_ _ _ L K=>K.trans L
 frame:=λi s M C st _ W=>by
  obtain⟨slot,Y,Z,U⟩:=st;exact⟨slot,Y.at λo e=>W I (by simp) o e,W a (by simp) _ Z,U⟩
 item:=λi s Q E hi st X=>by
  obtain⟨slot,Y,Z,U,T,S⟩:=st;have J:t.place.toList.length=es.size:=by
   simp only[SetTable.fits,È,beq_iff_eq,Í] at hf;simpa using hf.1
  have R:i<t.place.toList.length:=by omega
  have e1:es[i]?=some es[i]:=by simp[hi]
  have e2:t.place[i]?=some (t.place.toList.getD i 0):=by
   rw[<- Ŏ,Ô R];simp[ε,Ô R]
  refine Kh (nx:=t.place.toList.getD i 0+1) (x:=es[i].2) (slot:=slot) Y Z hd hf rfl (λH G F q=>Ia iE Z hd hf hl hp (pb hr (by omega) T S) (by rw[e1,e2];exact q)) λM it V=>?_;refine X _ _ (by simp[e1]) ⟨_,it,by rw[V.2 a bK];exact Z,hi,λk W=>?_,λk W D=>?_⟩ (A4 V)
  ·by_cases O:k=i
   ·rw[O];omega
   ·have:=yA hr (show k<i by omega) R
    omega
  ·have:=yA hr (show i<k by omega) D
   omega
 done:=λs Q E st X=>by
  obtain⟨slot,Y,Z,U,T,S⟩:=st;have J:t.place.toList.length=es.size:=by
   simp only[SetTable.fits,È,beq_iff_eq,Í] at hf;simpa using hf.1
  refine Ly (slot:=slot) hh Y Z hd hf rfl (λH G F q=>Ia iE Z hd hf hl hp (pb hr (by omega) T S) (by
   rw[show es[es.size]?=none by simp];exact q)) λM V=>X _ (Bd V)
 self:=λi s Q E st X=>by
  obtain⟨slot,Y,_⟩:=st;exact B9 Y X
def P7 (hh:A.handled=none) (bK:a≠I) (hnt:tp≠I) (hd:u.data=.set es ep t) (hf:t.fits es.size=true) (pl:List Nat) (bU:pl.length=es.size) (oO:∀x∈pl,x<es.size) :
  WalksS P w A I [I,a,tp] [I] (λa b=>b=a) es.size (λi v=>(pl.map λk=>(es.getD k (0,Value.none)).2)[i]?=some v) (λi s=>ju s.heap I a (.ref tp) i es.size ep/\s.heap.get? a=some u/\s.heap.IsTuple tp (pl.map λ(k:Nat)=>Ś k).toArray) where
 sub:=λb V=>by simp at V;simp[V]
 grefl:=λ_=>rfl
 gtrans:=λ_ _ _ S R=>R.trans S
 frame:=λi s U tk st _ Z=>⟨st.1.at λo e=>Z I (by simp) o e,Z a (by simp) _ st.2.1,let ⟨o,W,r⟩:=st.2.2;⟨o,Z tp (by simp) o W,r⟩⟩
 item:=λi s Q E hi st Y=>by
  have T:i<pl.length:=by omega
  have e1:pl[i]?=some pl[i]:=Ô T;have Z:=oO _ (acL T);refine TJ (pl:=pl[i]) (x:=es.getD pl[i] (0,Value.none)) (tk:=0) st.1 st.2.1 hd hf rfl st.2.2 (by simp[e1,Ś]) (by simp[Z,adj]) λU it X=>?_
  refine Y _ _ (by simp[e1]) ⟨it,by rw[X.2 a bK];exact st.2.1,let ⟨o,W,r⟩:=st.2.2;⟨o,by rw[X.2 tp hnt];exact W,r⟩⟩ (A4 X)
 done:=λs Q E st Y=>Vv hh st.1 st.2.1 hd hf rfl st.2.2 (by simp[bU]) λU X=>Y _ (Bd X)
 self:=λi s Q E st Y=>B9 st.1 Y
noncomputable def cf (w:Ĕ):Bool:=!(w.params.followText "set-order")
section
variable {P:ó} {w:Ĕ} {A:Ĉ} {E:Ç->Å->Prop} {s:Å}
def Jt (a:Ç)
 (hq:Q₁ (.ref s.heap.objs.size) { s with heap:=s.heap.push { cls:=.type "set",dict:=none,data:=.set #[] 0 (.fresh 0 0 (cf w)) } }) :
  Ź (í P w) A (.call (.builtin "set.__new__") ⟨[.type "set",a],[]⟩) (wants Q₁ E) s:=by
 refine ab6 ?_;show á _ A.in1 (checkBuiltinCall "set.__new__" ⟨[.type "set",a],[]⟩ >>= λ_=>again (.builtin "set.__new__" ⟨[.type "set",a],[]⟩)) _ _ s;refine À ?_;refine ξ (F.newCall_set_1 a) ?_;refine Ä ⟨υ F.plain_set_new _,ı F.entry_set_new ?_⟩;rw[Ń F.plain_set_new _];unfold Ť.«set.__new__» Builtin.Frozenset.newClass;have ss:=sub_set_self;obtain⟨Z,Y,X,W,V⟩:=s;dsimp only
 wp_walk
 refine Ŵ (Ä ?_);dsimp only;simp only[newObj];refine À (wpAny_alloc ?_);exact Ä (Ä hq)
end
section
variable {P:ó} {w:Ĕ} {A:Ĉ} {R:Result->Å->Prop} {I:ä} {fp wr:List ä} {G:Array GenState->Array GenState->Prop} {n:Nat} {Pv:Nat->Ç->Prop} {St:Nat->Å->Prop} {led:Bool}
def TL (val:Nat->Int) {i n:Nat} (h:i<=n):(ŏ val i).length<=(ŏ val n).length:=by
 induction h with
 |refl=>exact adv _
 |step _ ih =>
  refine Ú ih ?_;rw[firstMet_succ,step_length]
  split<;>omega
def Ju (W:WalksS P w A.in1 I fp wr G n Pv St) (S:ä) (wO:S∉fp)
  (val:Nat->Int) (aaK:∀i v,Pv i v->∃t,v=.int (val i) t) (hb:(ŏ val n).length+1<ω) :
  ∀(k i:Nat) (s:Å),n-i=k->i<=n->St i s ->
   fQ P w led s.heap S (λj=>(ŏ val i).any (·==j)) (ŏ val i).length ->
   (∀s',Moved (S::wr) G s s'->fQ P w led s'.heap S (λj=>(ŏ val n).any (·==j)) (ŏ val n).length->R (.ok (.ret .none)) s') ->
   Ź (í P w) A (.builtin "set.update.loop" ⟨[.ref S,.ref I],[]⟩) R s:=by
 have nw:S∉wr:=λz=>wO (W.sub _ z);have sw:∀b∈wr,b∈S::wr:=λb z=>Ò _ z;intro k
 induction k with
 |zero =>
  intro i s Q hi st T Z;obtain rfl:i=n:=by omega
  refine ı F.entry_set_update_loop ?_;rw[Ń ab7 _];show á _ A.in1 (ſ (.ref I) >>= _) _ _ s;refine À (W.done s _ _ st λs' m=>?_);show á _ A.in1 (ret Value.none) _ _ s';exact Ä (Z s' (m.mono sw) (T.at λo e=>m.heap S o nw e))
 |succ k ih =>
  intro i s Q hi st T Z;have lt:i<n:=by omega
  refine ı F.entry_set_update_loop ?_;rw[Ń ab7 _];show á _ A.in1 (ſ (.ref I) >>= _) _ _ s;refine À (W.item i s _ _ lt st λv s' pv O m=>?_);obtain⟨t,rfl⟩:=aaK i v pv;have N:=T.at (h':=s'.heap) λo e=>m.heap S o nw e;show á _ A.in1 (abj [acD (val i) t] (setAdd S (.int (val i) t)) >>= _) _ _ s';refine À (Ġ ?_);unfold setAdd;refine Ġ ?_;refine À ((ů P w).pyHash (k:=val i) (intKind_is _ _ _ _) ?_);have room:(ŏ val i).length+1<ω:=by have:=TL val hi;omega
  refine Vu (s:={ s' with toks:=s'.toks+1 }) N room λh' U M=>?_
  have L:fQ P w led h' S (λj=>(ŏ val (i+1)).any (·==j)) (ŏ val (i+1)).length:=M.congr (λj=>by rw[firstMet_succ,step_any]) (by rw[firstMet_succ,step_length]);refine Ä ⟨υ ab7 _,ih (i+1) _ (by omega) lt (W.frame _ s' _ _ O (ł _) λb Y o e=>?_) L λK X V=>?_⟩
  ·rw[U.2 b λz:b=S=>wO (z ▸ Y)];exact e
  ·refine Z K (Moved.trans W.gtrans ((m.mono sw).then_heap (ł _) λb o Y e=>?_) X) V
   rw[U.2 b λz:b=S=>Y (by rw[z];exact Ñ)];exact e
end
section
variable {P:ó} {w:Ĕ} {A:Ĉ} {E:Ç->Å->Prop} {s:Å}
def QN   
 (hh:A.handled=none) (hl:s.heap.IsTuple l its) (hi:aco its.toList ns) (hb:(ŏ (λi=>ns.getD i 0) its.size).length+1<ω)
 (h:∀(h':œ) (tk:Nat),fQ P w (cf w) h' s.heap.objs.size (λk'=>(ŏ (λi=>ns.getD i 0) its.size).any (·==k')) (ŏ (λi=>ns.getD i 0) its.size).length ->
 (∀b o,b<s.heap.objs.size->s.heap.get? b=some o->h'.get? b=some o)->Q (.ref s.heap.objs.size) { s with heap:=h',toks:=tk }) :
  á (í P w) A (call (.type "set") [.ref l]) Q E s:=by
 obtain⟨c,tl,ur⟩:=ĺ.mro;have um:=ĺ.made;have ub:=ĺ.sub;refine wpAny_call (ab6 ?_);show á _ _ (callAny (.type "set") _) _ _ _;refine Ä ⟨ab8 _ (by decide +kernel),ı F.entry_type_call ?_⟩;rw[ac8 (acH "set" [.ref l] []) rfl];have h1:=ĺ.notType;have h2:=ĺ.canCreate;have M:=F.typeCall_set_1 (.ref l)
 repeat (any_goals (first|assumption|wp_step))
 refine ŝ (Jt (.ref l) (E:=E) (Q₁:=λobj V=>obj=.ref s.heap.objs.size/\V={ s with heap:=s.heap.push { cls:=.type "set",dict:=none,data:=.set #[] 0 (.fresh 0 0 (cf w)) } }) ⟨rfl,rfl⟩) λr V Y=>?_
 cases r with
 |error e=>exact Y
 |ok L =>
  cases L with
  |ret obj =>
   obtain⟨rfl,rfl⟩:=Y;have v:(s.heap.push { cls:=.type "set",dict:=none,data:=.set #[] 0 (.fresh 0 0 (cf w)) }).get? s.heap.objs.size=some { cls:=.type "set",dict:=none,data:=.set #[] 0 (.fresh 0 0 (cf w)) }:=Ë _ rfl
   have K:adn { s with heap:=s.heap.push { cls:=.type "set",dict:=none,data:=.set #[] 0 (.fresh 0 0 (cf w)) } } (.ref s.heap.objs.size) "set":=⟨_,v,rfl⟩
   have vl:=ĺ.init.lookup;have vb:=ĺ.init.bind (.ref s.heap.objs.size)
   repeat (any_goals (first|assumption|wp_step))
   refine ŝ (abE (R:=wants (λr U=>r=.none/\∃h' tk,U={ s with heap:=h',toks:=tk } /\
     fQ P w (cf w) h' s.heap.objs.size (λk'=>(ŏ (λi=>ns.getD i 0) its.size).any (·==k')) (ŏ (λi=>ns.getD i 0) its.size).length /\
     (∀b o,b<s.heap.objs.size->s.heap.get? b=some o->h'.get? b=some o)) E) ĺ.init.plain F.entry_set_init (check_set_init_1 K ?_)) λJ U X=>?_
   ·obtain⟨ol,T,S,nn,O⟩:=hl
    obtain⟨oc,I,oa,H⟩:=ol;simp only at S O;subst S;subst O;have G:(s.heap.push { cls:=.type "set",dict:=none,data:=.set #[] 0 (.fresh 0 0 (cf w)) }).get? l=some { cls:=.type "tuple",dict:=I,data:=.seq its nn,slots:=H }:=Á _ T;have u1:=F.sub_tuple_set;have u2:=F.sub_tuple_frozenset;have bK:(Ŗ "tuple"==Ŗ "dict")=false:=by decide
    have ul:(s.heap.push { cls:=.type "set",dict:=none,data:=.set #[] 0 (.fresh 0 0 (cf w)) }).IsTuple l its:=⟨_,G,rfl,nn,rfl⟩;unfold Ť.«set.__init__» noKeywords acT;generalize D:pyIter=PI
    wp_walk
    subst D;refine wpAny_pyIter_tuple ul ?_;refine À (wpAny_runValue ?_);have N:l<s.heap.objs.size:=Ó T;have C:A.in1.in1.in1.handled=none:=by simp[hh]
    have B:l≠(s.heap.push { cls:=.type "set",dict:=none,data:=.set #[] 0 (.fresh 0 0 (cf w)) }).objs.size:=by
     rw[û];exact à (é N)
    have z:s.heap.objs.size∉[(s.heap.push { cls:=.type "set",dict:=none,data:=.set #[] 0 (.fresh 0 0 (cf w)) }).objs.size,l]:=by
     rw[û];simp only[É,Ü,Ý,or_false,not_or];exact⟨à (ĉ _),ĸ N⟩
    have y:∀(i:Nat) (v:Ç),its[i]?=some v->∃t,v=.int ((λi=>ns.getD i 0) i) t:=λi v x =>
     IntsAre.int_at hi i v (by rw[Ŏ];exact x)
    refine Ju (led:=cf w) ((Walks.tuple C _ l B its).toS) s.heap.objs.size
     z (λi=>ns.getD i 0) y hb (its.size-0) 0 _ (by omega) (ü _)
     ⟨⟨_,Ë _ rfl,rfl,rfl⟩,(ul.push _)⟩ ?v0 ?vR
    case v0 =>
     have u:((s.heap.push { cls:=.type "set",dict:=none,data:=.set #[] 0 (.fresh 0 0 (cf w)) }).push { cls:=.type "tuple_iterator",data:=.fields #[.ref l,.int 0 0] }).get? s.heap.objs.size
       = some { cls:=.type "set",dict:=none,data:=.set #[] 0 (.fresh 0 0 (cf w)) }:=Á _ v
     exact⟨_,#[],0,_,u,⟨rfl,rfl,rfl⟩,rfl,λe q=>by simp at q,λk=>by simp[firstMet_zero],by unfold ω;simp,by rfl,rfl,IG _⟩
    case vR =>
     intro p Z W;obtain⟨h',n,m,j,g⟩:=p;have f:n=s.gens:=Z.gens;have d:m=s.drawn:=Z.drawn;have a:g=s.os:=Z.os;subst f;subst d;subst a;show á _ _ _ _ _ _;refine Ä ?_;show á _ _ (ret Value.none) _ _ _;refine Ä ⟨rfl,h',j,rfl,W,λb o hb e=>?_⟩;have v1:b≠s.heap.objs.size:=à hb;have v2:b≠(s.heap.push { cls:=.type "set",dict:=none,data:=.set #[] 0 (.fresh 0 0 (cf w)) }).objs.size:=by
      rw[û];exact à (é hb)
     exact Z.heap b o (by simp only[É,Ü,Ý,or_false,not_or];exact⟨v1,v2⟩) (Á _ (Á _ e))
   ·cases J with
    |error e=>exact X
    |ok DB =>
     cases DB with
     |ret r =>
      obtain⟨rfl,h',tk,rfl,W,vk⟩:=X
      repeat (any_goals (first|assumption|wp_step))
      exact h _ _ W vk
     |_=>exact X.elim
  |_=>exact Y.elim
def QP   
 (hh:A.handled=none) (hl:s.heap.IsList l its) (hi:aco its.toList ns) (hb:(ŏ (λi=>ns.getD i 0) its.size).length+1<ω)
 (h:∀(h':œ) (tk:Nat),fQ P w (cf w) h' s.heap.objs.size (λk'=>(ŏ (λi=>ns.getD i 0) its.size).any (·==k')) (ŏ (λi=>ns.getD i 0) its.size).length ->
 (∀b o,b<s.heap.objs.size->s.heap.get? b=some o->h'.get? b=some o)->Q (.ref s.heap.objs.size) { s with heap:=h',toks:=tk }) :
  á (í P w) A (call (.type "set") [.ref l]) Q E s:=by
 obtain⟨c,tl,ur⟩:=ĺ.mro;have um:=ĺ.made;have ub:=ĺ.sub;refine wpAny_call (ab6 ?_);show á _ _ (callAny (.type "set") _) _ _ _;refine Ä ⟨ab8 _ (by decide +kernel),ı F.entry_type_call ?_⟩;rw[ac8 (acH "set" [.ref l] []) rfl];have h1:=ĺ.notType;have h2:=ĺ.canCreate;have M:=F.typeCall_set_1 (.ref l)
 repeat (any_goals (first|assumption|wp_step))
 refine ŝ (Jt (.ref l) (E:=E) (Q₁:=λobj V=>obj=.ref s.heap.objs.size/\V={ s with heap:=s.heap.push { cls:=.type "set",dict:=none,data:=.set #[] 0 (.fresh 0 0 (cf w)) } }) ⟨rfl,rfl⟩) λr V Y=>?_
 cases r with
 |error e=>exact Y
 |ok L =>
  cases L with
  |ret obj =>
   obtain⟨rfl,rfl⟩:=Y;have v:(s.heap.push { cls:=.type "set",dict:=none,data:=.set #[] 0 (.fresh 0 0 (cf w)) }).get? s.heap.objs.size=some { cls:=.type "set",dict:=none,data:=.set #[] 0 (.fresh 0 0 (cf w)) }:=Ë _ rfl
   have K:adn { s with heap:=s.heap.push { cls:=.type "set",dict:=none,data:=.set #[] 0 (.fresh 0 0 (cf w)) } } (.ref s.heap.objs.size) "set":=⟨_,v,rfl⟩
   have vl:=ĺ.init.lookup;have vb:=ĺ.init.bind (.ref s.heap.objs.size)
   repeat (any_goals (first|assumption|wp_step))
   refine ŝ (abE (R:=wants (λr U=>r=.none/\∃h' tk,U={ s with heap:=h',toks:=tk } /\
     fQ P w (cf w) h' s.heap.objs.size (λk'=>(ŏ (λi=>ns.getD i 0) its.size).any (·==k')) (ŏ (λi=>ns.getD i 0) its.size).length /\
     (∀b o,b<s.heap.objs.size->s.heap.get? b=some o->h'.get? b=some o)) E) ĺ.init.plain F.entry_set_init (check_set_init_1 K ?_)) λJ U X=>?_
   ·obtain⟨ol,T,S,nn,O⟩:=hl
    obtain⟨oc,I,oa,H⟩:=ol;simp only at S O;subst S;subst O;have G:(s.heap.push { cls:=.type "set",dict:=none,data:=.set #[] 0 (.fresh 0 0 (cf w)) }).get? l=some { cls:=.type "list",dict:=I,data:=.seq its nn,slots:=H }:=Á _ T;have u1:=F.sub_list_set;have u2:=F.sub_list_frozenset;have bK:(Ŗ "list"==Ŗ "dict")=false:=by decide
    have ul:(s.heap.push { cls:=.type "set",dict:=none,data:=.set #[] 0 (.fresh 0 0 (cf w)) }).IsList l its:=⟨_,G,rfl,nn,rfl⟩;unfold Ť.«set.__init__» noKeywords acT;generalize D:pyIter=PI
    wp_walk
    subst D;refine Ō ul ?_;refine À (wpAny_runValue ?_);have N:l<s.heap.objs.size:=Ó T;have C:A.in1.in1.in1.handled=none:=by simp[hh]
    have B:l≠(s.heap.push { cls:=.type "set",dict:=none,data:=.set #[] 0 (.fresh 0 0 (cf w)) }).objs.size:=by
     rw[û];exact à (é N)
    have z:s.heap.objs.size∉[(s.heap.push { cls:=.type "set",dict:=none,data:=.set #[] 0 (.fresh 0 0 (cf w)) }).objs.size,l]:=by
     rw[û];simp only[É,Ü,Ý,or_false,not_or];exact⟨à (ĉ _),ĸ N⟩
    have y:∀(i:Nat) (v:Ç),its[i]?=some v->∃t,v=.int ((λi=>ns.getD i 0) i) t:=λi v x =>
     IntsAre.int_at hi i v (by rw[Ŏ];exact x)
    refine Ju (led:=cf w) ((Walks.list C _ l B its).toS) s.heap.objs.size
     z (λi=>ns.getD i 0) y hb (its.size-0) 0 _ (by omega) (ü _)
     ⟨⟨_,Ë _ rfl,rfl,rfl⟩,(ul.push _)⟩ ?v0 ?vR
    case v0 =>
     have u:((s.heap.push { cls:=.type "set",dict:=none,data:=.set #[] 0 (.fresh 0 0 (cf w)) }).push { cls:=.type "list_iterator",data:=.fields #[.ref l,.int 0 0] }).get? s.heap.objs.size
       = some { cls:=.type "set",dict:=none,data:=.set #[] 0 (.fresh 0 0 (cf w)) }:=Á _ v
     exact⟨_,#[],0,_,u,⟨rfl,rfl,rfl⟩,rfl,λe q=>by simp at q,λk=>by simp[firstMet_zero],by unfold ω;simp,by rfl,rfl,IG _⟩
    case vR =>
     intro p Z W;obtain⟨h',n,m,j,g⟩:=p;have f:n=s.gens:=Z.gens;have d:m=s.drawn:=Z.drawn;have a:g=s.os:=Z.os;subst f;subst d;subst a;show á _ _ _ _ _ _;refine Ä ?_;show á _ _ (ret Value.none) _ _ _;refine Ä ⟨rfl,h',j,rfl,W,λb o hb e=>?_⟩;have v1:b≠s.heap.objs.size:=à hb;have v2:b≠(s.heap.push { cls:=.type "set",dict:=none,data:=.set #[] 0 (.fresh 0 0 (cf w)) }).objs.size:=by
      rw[û];exact à (é hb)
     exact Z.heap b o (by simp only[É,Ü,Ý,or_false,not_or];exact⟨v1,v2⟩) (Á _ (Á _ e))
   ·cases J with
    |error e=>exact X
    |ok DB =>
     cases DB with
     |ret r =>
      obtain⟨rfl,h',tk,rfl,W,vk⟩:=X
      repeat (any_goals (first|assumption|wp_step))
      exact h _ _ W vk
     |_=>exact X.elim
  |_=>exact Y.elim
end
theorem A5 {α:Type}:∀{l:List α} {i:Nat} {x:α},l[i]?=some x->(x::l.eraseIdx i).Perm l
 | [],i,x,h=>by simp at h
 |y::l,0,x,h=>by
  have:y=x:=by simpa using h
  subst this;exact List.Perm.refl _
 |y::l,i+1,x,h=>by
  have ih:=A5 (l:=l) (i:=i) (x:=x) (by simpa using h);rw[List.eraseIdx_cons_succ];exact(abI y x _).trans (List.Perm.cons y ih)
theorem Ki {α:Type} (next:Nat->Nat):∀(fuel k:Nat) (left:List α) (out:Array α),left.length=fuel->(pickOrder.go next fuel k left out).toList.Perm (out.toList++left)
 |0,k,left,out,h=>by
  have:left=[]:=ab9.mp h;subst this;unfold pickOrder.go;simp
 |fuel+1,k,left,out,h=>by
  unfold pickOrder.go
  have Z:next k % left.length<left.length:=Nat.mod_lt _ (by omega)
  rw[Ô Z];dsimp only;have Y:=A5 (Ô Z)
  have ih:=Ki next fuel (k+1) (left.eraseIdx (next k % left.length)) (out.push left[next k % left.length]) (by rw[List.length_eraseIdx_of_lt Z];omega)
  refine ih.trans ?_;rw[acv,Ĩ];exact List.Perm.append_left _ Y
def IJ {α:Type} (next:Nat->Nat) (xs:Array α):(abb next xs).toList.Perm xs.toList:=by
 unfold abb
 have:=Ki next xs.size 0 xs.toList #[] (by simp)
 simpa using this
section
variable {P:ó} {w:Ĕ} {A:Ĉ} {E:Ç->Å->Prop}
def QQ {α:Type} (n:Nat):∀(xs:List α) (s:Å) (Q:List α->Å->Prop),xs.length=n->(∀ys d,ys.Perm xs->Q ys { s with drawn:=d })->á (í P w) A (drawOrder n xs) Q E s:=by
 induction n with
 |zero =>
  intro xs s Q h Z;have:xs=[]:=ab9.mp h;subst this;unfold drawOrder;exact Ä (Z [] s.drawn (List.Perm.refl _))
 |succ n ih =>
  intro xs s Q h Z
  cases xs with
  |nil=>simp at h
  |cons x xs =>
   unfold drawOrder;refine À (QK (by simp) ?_);have Y:w.draws .order (s.drawn.get .order) % (x::xs).length<(x::xs).length:=Nat.mod_lt _ (by simp);rw[Ô Y];dsimp only;refine À (ih _ _ _ (by rw[List.length_eraseIdx_of_lt Y];omega) λys d X=>?_);refine Ä (Z _ d ?_);exact(List.Perm.cons _ X).trans (A5 (Ô Y))
def TM {s:Å} {a:ä} {u:Obj} {es:Array (Int×Ç)} {ep:Nat} {t:SetTable} {Q:Ç->Å->Prop} (hu:s.heap.get? a=some u) (hx:u.ExactSet) (hd:u.data=.set es ep t) (hf:t.fits es.size=true) (ht:iM (cf w) t)
  (hsz:es.size<=Ø)
  (hQ:∀(h':œ) (d':Drawn) (I:ä) (fp:List ä) (St:Nat->Å->Prop) (order:List Ç),(∀b o,s.heap.get? b=some o->h'.get? b=some o)->(∀b∈fp,b<h'.objs.size)->(∀b∈fp,b=a\/s.heap.objs.size<=b)->I∈fp->s.heap.objs.size<=I->order.Perm (es.toList.map (·.2)) ->
   (∀A':Ĉ,A'.handled=none->WalksS P w A' I fp [I] (λa b=>b=a) es.size (λi v=>order[i]?=some v) St)->St 0 { s with heap:=h',drawn:=d' }->Q (.ref I) { s with heap:=h',drawn:=d' }) :
  á (í P w) A (pyIter (.ref a)) Q E s:=by
 have O:s.TypeIs (.ref a) "set":=⟨u,hu,hx.1⟩;have X:a<s.heap.objs.size:=Ó hu;refine wpAny_pyIter_slot O F.slot_set_iter (Ď F.slot_set_iter O OT ?_ (F.args_set_iter_1 _));unfold Ť.«frozenset.__iter__» Builtin.Frozenset.slot0 slotArgs;simp only[abM,Č,Ã,↓reduceIte,bind_assoc,Ć,ğ];unfold Builtin.Frozenset.addrOf Builtin.Frozenset.sizeOf;refine À (Ä ?_)
 try dsimp only
 refine À (Ä ?_);refine À (À (ς hu hd hf (Ä ?_)));unfold setDrawn;refine À (À (η hu hd hf ?_));dsimp only;unfold setsByText;refine À (À (Ŵ (Ä ?_)));refine Ä ?_
 show á _ _ (if (!(w.params.followText "set-order")&&(!t.plain&&decide (es.size > 1)))=true then _ else _) _ _ _
 have H:∀(W:Obj) b o,s.heap.get? b=some o->(s.heap.push W).get? b=some o:=λW b o e=>Á _ e;by_cases V:(!w.params.followText "set-order"&&(!t.plain&&decide (es.size > 1)))=true
 ·rw[Þ V]
  refine À (QQ _ _ _ _ (by simp) λU d hp=>?_);refine À ?_;simp only[newTuple];refine ą ?_ (by have:=hp.length_eq;rw[ŀ] at this;show (acF _).size<=Ø;rw[Û,Â,this];exact hsz);have M:∀x∈U,x<es.size:=λx hx=>by simpa using hp.mem_iff.mp hx
  have R:U.length=es.size:=by simpa using hp.length_eq
  refine À (wpAny_setEpoch_of (Á _ hu) hd hf ?_);refine À (ą ?_);refine Ä ⟨_,rfl,"set_iterator",_,⟨_,Ë _ rfl,rfl⟩,ka.lookup,?_⟩;have Y:(s.heap.push { cls:=.type "tuple",data:=.seq (U.map λ(i:Nat)=>Ś i).toArray }).objs.size=s.heap.objs.size+1:=by simp[û]
  refine hQ _ d _ [_,a,s.heap.objs.size] _ (U.map λk=>(es.getD k (0,Value.none)).2) (λb o e=>Á _ (Á _ e)) ?_ ?_ (by simp) (by rw[Y];exact ł _) ?_ (λA' T=>P7 (u:=u) (t:=t) (ep:=ep) T (I:=_) (a:=a) (tp:=s.heap.objs.size) (by rw[Y];exact à (é X)) (by rw[Y];exact à (ĉ _)) hd hf U R M) ⟨⟨_,Ë _ rfl,rfl,rfl⟩,Á _ (Á _ hu),⟨_,Á _ (Ë _ rfl),rfl,_,rfl⟩⟩
  ·intro b Z
   simp only[É,Ý,or_false] at Z;rw[û]
   rcases Z with e|e|e
   ·rw[e];exact ĉ _
   ·rw[e,Y];exact é (é X)
   ·rw[e,Y];exact é (ĉ _)
  ·intro b Z
   simp only[É,Ý,or_false] at Z
   rcases Z with e|e|e
   ·right;rw[e,Y];exact ł _
   ·exact .inl e
   ·right;rw[e];exact adv _
  ·refine(List.Perm.map _ hp).trans ?_
   have:(Ù es.size).map (λk=>(es.getD k (0,Value.none)).2)=es.toList.map (·.2):=by
    apply acs;intro i;rw[è,è];by_cases hi:i<es.size
    ·rw[ř hi,Ŏ]
     simp[adj,hi]
    ·rw[ė (by simpa using hi),ė (by simpa using hi)]
     rfl
   rw[this]
 ·rw[å V]
  refine À (Ä ?_);refine À (wpAny_setEpoch_of hu hd hf ?_);refine À (ą ?_);refine Ä ⟨_,rfl,"set_iterator",_,⟨_,Ë _ rfl,rfl⟩,ka.lookup,?_⟩;have ak:∀(W:Obj),∀b∈[s.heap.objs.size,a],b<(s.heap.push W).objs.size:=λW b Z=>by
   simp only[É,Ý,or_false] at Z;rw[û]
   rcases Z with e|e
   ·rw[e];exact ĉ _
   ·rw[e];exact é X
  have N:∀b∈[s.heap.objs.size,a],b=a\/s.heap.objs.size<=b:=λb Z=>by
   simp only[É,Ý,or_false] at Z
   rcases Z with e|e
   ·right;rw[e];exact adv _
   ·exact .inl e
  cases S:w.params.followText "set-order" with
  |true =>
   have L:(abb (w.params.setOrder a ep) es).size=es.size:=by
    have:=(IJ (w.params.setOrder a ep) es).length_eq;simpa using this
   have hw:∀A':Ĉ,A'.handled=none->WalksS P w A' s.heap.objs.size [s.heap.objs.size,a] [s.heap.objs.size] (λa b=>b=a) es.size (λi v=>((abb (w.params.setOrder a ep) es).toList.map (·.2))[i]?=some v) _:=λA' T=>by
    have:=QM (P:=P) (u:=u) (t:=t) T (I:=s.heap.objs.size) (a:=a) (à X) S hd hf L;simpa using this
   exact hQ _ s.drawn _ [_,a] _ ((abb (w.params.setOrder a ep) es).toList.map (·.2)) (λb o e=>Á _ e) (ak _) N (by simp) (adv _) (List.Perm.map _ (IJ _ _)) hw ⟨⟨_,Ë _ rfl,rfl,rfl⟩,Á _ hu⟩
  |false =>
   have hp:t.plain=true\/es.size<=1:=by
    rw[S] at V;simp at V
    cases K:t.plain with
    |true=>exact .inl rfl
    |false=>exact .inr (V K)
   have R:t.led=true:=by rw[ht.led];unfold cf;rw[S];rfl
   have J:kC t.place.toList:=by
    rcases hp with hp|hp
    ·exact ht.rise hp
    ·simp only[SetTable.fits,È,beq_iff_eq,Í] at hf
     have hle:t.place.toList.length<=1:=by simp[hf.1];exact hp
     match t.place.toList,hle with
     | [],_=>exact List.Pairwise.nil
     | [x],_=>exact χ _ _
   have hw:∀A':Ĉ,A'.handled=none->WalksS P w A' s.heap.objs.size [s.heap.objs.size,a] [s.heap.objs.size] (λa b=>b=a) es.size (λi v=>(es.toList.map (·.2))[i]?=some v) _:=λA' T=>by
    have:=P6 (P:=P) (u:=u) (t:=t) (ep:=ep) T (I:=s.heap.objs.size) (a:=a) (à X) S hd hf R hp J;simpa using this
   exact hQ _ s.drawn _ [_,a] _ (es.toList.map (·.2)) (λb o e=>Á _ e) (ak _) N (by simp) (adv _) (List.Perm.refl _) hw ⟨0,⟨_,Ë _ rfl,rfl,rfl⟩,Á _ hu,ü _,λk G=>by omega,λk _ _=>ü _⟩
end
section
variable {P:ó} {w:Ĕ} {A:Ĉ} {E:Ç->Å->Prop} {s:Å}
def split_len:splitId "set.__len__"=some ("set","__len__"):=by decide +kernel
def ints_of (h:ElemsOf (ů P w) es) (hp:vs.Perm (es.map (·.2))):∃ns,aco vs ns:=by
 have Z:∀v∈vs,∃k t,v=.int k t:=λv Z=>by
  obtain⟨e,W,rfl⟩:=ò.mp (hp.mem_iff.mp Z);obtain⟨⟨k,X,_⟩,_⟩:=h e W
  cases Y:e.2 with
  |int i t=>exact⟨i,t,rfl⟩
  |_=>rw[Y] at X;simp[ů,Value.isInt] at X
 clear hp
 induction vs with
 |nil=>exact⟨[],.nil⟩
 |cons v vs ih =>
  obtain⟨k,t,rfl⟩:=Z v Ñ;obtain⟨ns,V⟩:=ih λx Y=>Z x (Ò _ Y);exact⟨k::ns,.cons k t V⟩
def Lz {α:Type} {c:Bool} {x y:Sem α} {Q:α->Å->Prop} (hc:c=true) (h:á (í P w) A x Q E s):á (í P w) A (if c=true then x else y) Q E s:=by
 rw[Þ hc];exact h
def P8 {a:ä} {u:Obj} {es:Array (Int×Ç)} {ep:Nat} {t:SetTable} {Q:List Ç->Å->Prop} (hh:A.handled=none) (hu:s.heap.get? a=some u) (hx:u.ExactSet) (hd:u.data=.set es ep t) (hf:t.fits es.size=true) (ht:iM (cf w) t) (hsz:es.size<ω)
  (hQ:∀(h':œ) (d':Drawn) (tk:Nat) (vs:List Ç),s.heap.objs.size<=h'.objs.size->(∀b o,s.heap.get? b=some o->h'.get? b=some o)->vs.Perm (es.toList.map (·.2))->Q vs { s with heap:=h',drawn:=d',toks:=tk }):á (í P w) A (collect (.ref a)) Q E s:=by
 have K:es.size<=Ø:=abA hsz;have J:a<s.heap.objs.size:=Ó hu;unfold collect;refine À (wpAny_runValue (ı F.entry_proto_collect ?_));rw[Ń F.plain_proto_collect _];show á _ A.in1 (newList [] >>= λl=>again (.builtin "list.__iadd__" ⟨[l,.ref a],[]⟩)) _ _ s;refine À (ą ?_);refine Ä ⟨υ F.plain_list_iadd _,ı F.entry_list_iadd ?_⟩;rw[Ń F.plain_list_iadd _];show á _ A.in1 (ŭ (.ref s.heap.objs.size) (.ref a) (.ref s.heap.objs.size)) _ _ _
 generalize U:({ s with heap:=s.heap.push { cls:=.type "list",data:=.seq ([]:List Ç).toArray } }:Å)=Y
 have H:Y.heap.objs.size=s.heap.objs.size+1:=by rw[<- U];simp[û]
 have i:∀b o,s.heap.get? b=some o->Y.heap.get? b=some o:=λb o e=>by rw[<- U];exact Á _ e
 have T:Y.heap.get? a=some u:=by rw[<- U];exact Á _ hu
 have h:Y.TypeIs (.ref a) "set":=⟨u,T,hx.1⟩;have S:Y.heap.get? s.heap.objs.size=some { cls:=.type "list",data:=.seq ([]:List Ç).toArray }:=by rw[<- U];exact Ë _ rfl
 unfold ŭ;refine À (abV h ?_);have g:Builtin.List.listSameRef (.ref s.heap.objs.size) (.ref a)=false:=by
  simp[Builtin.List.listSameRef];exact ĸ J
 have f:(Ŗ "set"==Ŗ "list")=false:=by decide
 have d:(Ŗ "set"==Ŗ "tuple")=false:=by decide
 simp only[g,f,d,Bool.or_false,Ã,î];refine À (TM T hx hd hf ht K λh' d' I fp St order R k2 k6 k3 G D W st=>?_)
 have O:adn { Y with heap:=h',drawn:=d' } (.ref a) "set":=⟨u,R _ _ T,hx.1⟩
 have C:=R _ _ S;refine À (Ġ ?_);unfold Builtin.List.listLengthHint;refine À (wpAny_specialOf O F.slot_set_len.lookup ?_);dsimp only;rw[split_len];dsimp only;refine À (acM O sub_set_self ?_);rw[å (by decide)];refine Lz (by decide +kernel) ?_;refine À (abV O ?_);dsimp only;refine Ä ?_;refine Lz (by decide +kernel) ?_
 ··refine À (Ų ?_)
   refine À ?_;show á _ A.in1 (updateSeq s.heap.objs.size (·.push .none) >>= λ_=>updateSeq s.heap.objs.size (·.pop)) _ _ _;refine À (aca C rfl ?_);have B:=Ė (Ŀ (·.push Value.none)) C rfl;refine aca B rfl ?_;have N:=Ė (Ŀ (·.pop)) B rfl;have y:s.heap.objs.size∉fp:=λhm=>by
    rcases k6 _ hm with e|e
    ·exact ĸ J e
    ·rw[H] at e;exact Nat.not_succ_le_self _ e
   have x:∀b o,b≠s.heap.objs.size->h'.get? b=some o->((h'.update s.heap.objs.size (Ŀ (·.push Value.none))).update s.heap.objs.size (Ŀ (·.pop))).get? b=some o :=
    λb o X e=>(ģ _ _ (ŕ X)).trans ((ģ _ _ (ŕ X)).trans e)
   refine Ä ⟨υ F.plain_extend_loop _,codeAny_extend_loopS (W A.in1 (by simp[hh])) K _ y _ es.size 0 _ _ _ rfl (ü _) ((W A.in1 (by simp[hh])).frame 0 ({ Y with heap:=h',drawn:=d' }:Å) _ Y.toks st (adv _) λb X o e=>x b o (λz=>y (z ▸ X)) e) N (ItemsOf.nil _) λv Z c m r p=>?_⟩
   show á _ A (load s.heap.objs.size >>= _) _ _ v;refine À (wpAny_load r ?_);refine Ä ?_;have M:order.length=es.size:=by simpa using D.length_eq
   have L:Z.toList=order:=by
    apply acs;intro j;by_cases n:j<Z.size
    ·have e1:Z[j]?=some Z[j]:=by simp[n]
     rw[Ŏ,e1,p.2 j _ e1]
    ·rw[ė (by simpa using n),ė (by rw[M,<- p.1];omega)]
   obtain⟨h2,g2,k,t2,o2⟩:=v;have eg:g2=Y.gens:=m.gens;have ed:k=d':=m.drawn;have eo:o2=Y.os:=m.os;subst eg ed eo;have q:=hQ h2 k t2 Z.toList (Nat.le_of_lt (Ó r)) (λb o e=>m.heap b o (λX=>by
    simp only[É,Ý,or_false] at X;have V:=Ó e
    rcases X with z|z
    ·rw[z] at V;exact ú _ V
    ·rw[H] at G;rw[z] at V;exact ú _ (Ì V (Nat.le_of_succ_le G))) (x b o (λz=>by
     have V:=Ó e;rw[z] at V;exact ú _ V) (R b o (i b o e)))) (by rw[L];exact D)
   rw[<- U];exact q
def QR (hh:A.handled=none) (hu:s.heap.get? a=some u) (hx:u.ExactSet) (hd:u.data=.set es ep t) (hf:t.fits es.size=true) (ht:iM (cf w) t) (FI:ElemsOf (ů P w) es.toList) (h64:es.size<64)
 (h:∀(h':œ) (d':Drawn) (tk:Nat) (p:ä) (vs:List Ç) (ns:List Int) (out:List Ç) (ms:List Int) (e:Nat),(∀b o,s.heap.get? b=some o->h'.get? b=some o)->s.heap.objs.size<=p->vs.Perm (es.toList.map (·.2))->aco vs ns->h'.get? p=some { cls:=.type "list",data:=.seq out.toArray e }->aco out ms->ms.Perm ns->ms.Pairwise (·<=·)->Q (.ref p) { s with heap:=h',drawn:=d',toks:=tk }) :
  á (í P w) A (call (.builtin "sorted") [.ref a]) Q E s:=by
 refine abJ kind_sorted plain_sorted entry_sorted (args_sorted1 _) ?_;unfold Ť.«sorted»;refine À (m:=checkCount "sorted" 1 1 _) (Ä ?_);refine À (P8 (by simp[hh]) hu hx hd hf ht (by unfold ω;omega) λh' d' tk vs U T Z=>?_);obtain⟨ns,X⟩:=ints_of FI Z;have S:vs.length<64:=by have:=Z.length_eq;simp at this;omega
 refine À (acb ?_);have Y:(h'.push (abh "list" vs.toArray 0)).get? h'.objs.size=some (abh "list" vs.toArray 0):=Ë _ rfl;refine À (Ġ (Ď slot_list_sort ⟨_,Y,rfl⟩ entry_list_sort (list_sort_tree Y X S λout ms a1 a2 R=>⟨_,rfl,?_⟩) (args_list_sort _)));obtain⟨e,O⟩:=sortedHeap_at (out:=out) Y;refine Ä ⟨_,rfl,h _ d' tk h'.objs.size vs ns out.toList ms e (λb o N=>?_) ?_ Z X (by simpa [abh] using O) a1 a2 R⟩
 ·have W:=T b o N
  have V:=Ó W;rw[sortedHeap_old (à V) (by rw[size_push'];exact é V)];exact Á _ W
 ·exact U
end
end TS
namespace L2
open PySem PySem.Spec PyProof.Rows
def iw (P:ó) (w:Ĕ) (p:ä) (ns:List Int):œ->Prop:=λh=>∃(S:Int->Bool) (n:Nat),TS.fQ P w (TS.cf w) h p S n/\(∀k,S k=true↔k∈ns)/\n<=ns.length/\n=(ns.foldl step_dedup []).length
section
variable {X:Cx}
def uK (l:List Int) (k:Int):(l.any (·==k))=true↔k∈l:=by
 rw[ų];exact⟨λ⟨x,Z,Y⟩=>by rw[<- beq_iff_eq.mp Y];exact Z,λh=>⟨k,h,by simp⟩⟩
def Kj (hm:m=ns.length) (hS:TS.fQ X.prog X.w (TS.cf X.w) h p (λk'=>(ŏ (λi=>ns.getD i 0) m).any (·==k')) (ŏ (λi=>ns.getD i 0) m).length):iw X.prog X.w p ns h:=by
 subst hm;refine⟨_,_,hS,λk=>?_,firstMet_length_le _ _,?_⟩
 ·rw[firstMet_any,map_getD]
  exact uK ns k
 ·unfold ŏ
  rw[map_getD]
def Kk (hx:iw X.prog X.w p ns h):cR X.prog X.w (upd H p (.ext (iw X.prog X.w p ns))) h p (.ext (iw X.prog X.w p ns)):=by
 refine⟨hx,?_,λY W q k=>?_⟩
 ·obtain⟨_,_,⟨o,_,_,_,Z,_⟩,_⟩:=hx
  exact⟨o,Z⟩
 ·obtain⟨S,n,T,r⟩:=q
  exact⟨S,n,T.at k,r⟩
def QS (hc:X.calm=true):cT X (.type "set") (λxs H Q=>∃(a:ä) (ns:List Int),xs=[.ref a]/\bh X.K H a (ns.map V.int)/\(ns.foldl step_dedup []).length<4000/\∀p,H p=none->Q (.ref p) (upd H p (.ext (iw X.prog X.w p ns)))):=by
 intro R s σ H xs P Q I r h;obtain⟨a,ns,rfl,Y,O,q⟩:=h;obtain⟨u,rfl,W⟩:=vals1 r;cases W;obtain⟨its,rv,p,_⟩:=I.list Y;have Z:its.toArray.size=ns.length:=by
  have e:=rv.length;rw[Â] at e;simpa using e.symm
 refine TS.QP (its:=its.toArray) (ns:=ns) (I.ok.hd hc) p.isList (by simpa using intsAre_of rv) (by rw[Z];unfold ŏ;rw[map_getD];show _ + 1<4096;omega) λN U T S=>?_;exact⟨.ref _,_,I.laid (t':=U) (λb o e=>S b o (Ó e) e) (adv _) (Kk (Kj Z T)),rfl,q _ (I.aE.fresh (adv _))⟩
def QT (hc:X.calm=true):cT X (.type "set") (λxs H Q=>∃(a:ä) (ns:List Int),xs=[.ref a]/\bz X.K H a (ns.map V.int)/\ns.length<4000/\∀p,H p=none->Q (.ref p) (upd H p (.ext (iw X.prog X.w p ns)))):=by
 intro R s σ H xs P Q I r h;obtain⟨a,ns,rfl,Y,O,q⟩:=h;obtain⟨u,rfl,W⟩:=vals1 r;cases W;obtain⟨its,rv,p,_⟩:=I.tuple Y;have Z:its.toArray.size=ns.length:=by
  have e:=rv.length;rw[Â] at e;simpa using e.symm
 refine TS.QN (its:=its.toArray) (ns:=ns) (I.ok.hd hc) p (by simpa using intsAre_of rv) (by rw[Z];have:=firstMet_length_le (λi=>ns.getD i 0) ns.length;show _ + 1<4096;omega) λN U T S=>?_;exact⟨.ref _,_,I.laid (t':=U) (λb o e=>S b o (Ó e) e) (adv _) (Kk (Kj Z T)),rfl,q _ (I.aE.fresh (adv _))⟩
theorem Hy:∀{out:List Ç} {ms:List Int},aco out ms->Vals (ms.map V.int) out
 |_,_,.nil=>.nil
 |_,_,.cons n t h=>.cons ⟨t,rfl⟩ (Hy h)
theorem A0:∀(ns acc:List Int),acc.Nodup->(ns.foldl step_dedup acc).Nodup
 | [],acc,h=>h
 |n::ns,acc,h=>by
  refine A0 ns _ ?_;unfold step_dedup;split
  ·exact h
  ·rename_i Z
   rw[aba] at Z;refine ŧ.mpr ⟨h,by simp,λa Y b X=>?_⟩;have:b=n:=by simpa using X
   subst this;intro e;subst e;rw[(uK acc a).mpr Y] at Z;cases Z
theorem Jv:∀{vs:List Ç} {ns:List Int},aco vs ns->∀k,k∈ns↔∃t,acD k t∈vs
 |_,_,.nil,k=>by simp
 |_,_,.cons n t h,k=>by
  rw[É,Jv h k];constructor
  ·rintro (e | ⟨Z,h'⟩)
   ·subst e;exact⟨t,Ñ⟩
   ·exact⟨Z,Ò _ h'⟩
  ·rintro ⟨Z,h'⟩
   rcases É.mp h' with e|h'
   ·injection e with e _;exact .inl e
   ·exact .inr ⟨Z,h'⟩
theorem sub_len:∀{m l:List Int},m.Nodup->(∀k,k∈m->k∈l)->m.length<=l.length
 | [],l,_,_=>ü _
 |x::m,l,h,Z=>by
  obtain⟨W,V⟩:=Ħ.mp h;have Y:=Z x Ñ;have ih:=sub_len (m:=m) (l:=l.erase x) V λk X=>(List.mem_erase_of_ne (λ(e:k=x)=>W (by rw[<- e];exact X))).mpr (Z k (Ò _ X));rw[abX Y] at ih;have:=List.length_pos_of_mem Y;rw[ê];omega
theorem Hz:∀{l m:List Int},m.Nodup->(∀k,k∈m↔k∈l)->l.length<=m.length->l.Nodup
 | [],m,_,_,_=>ż
 |a::r,m,Z,Y,W=>by
  have V:a∉r:=λh=>by
   have:=sub_len Z λk U=>(É.mp ((Y k).mp U)).elim (λe=>e ▸ h) id;rw[ê] at W;omega
  have X:a∈m:=(Y a).mpr Ñ;refine Ħ.mpr ⟨V,Hz (m:=m.erase a) (Z.erase a) (λk=>?_) ?_⟩
  ·rw[Z.mem_erase_iff,Y k,É]
   constructor
   ·rintro ⟨T,h2|h2⟩
    ·exact absurd h2 T
    ·exact h2
   ·intro h
    exact⟨λe=>V (e ▸ h),.inr h⟩
  ·rw[abX X]
   rw[ê] at W;omega
def IK (ns:List Int) (k:Int):k∈ns.foldl step_dedup []↔k∈ns:=by
 have:=firstMet_any (λi=>ns.getD i 0) ns.length k;unfold ŏ at this;rw[map_getD] at this;rw[<- uK,<- uK,this]
def HA (hc:X.calm=true):cT X (.builtin "sorted") (λxs H Q=>∃(p:ä) (ns:List Int),xs=[.ref p]/\H p=some (.ext (iw X.prog X.w p ns))/\(ns.foldl step_dedup []).length<64 /\
  ∀(l:ä) (ms:List Int),H l=none->ms.Pairwise (· < ·)->(∀k,k∈ms↔k∈ns)->Q (.ref l) (upd H l (.lst (ms.map V.int)))):=by
 intro π s σ H xs us Q I r h;obtain⟨p,ns,rfl,D,hl,q⟩:=h;obtain⟨v,rfl,rv⟩:=vals1 r;cases rv;obtain⟨⟨S,n,⟨u,es,ep,t,C,B,hd,A,z,L,y,m,j⟩,g,tN,W⟩,_⟩:=I.aE p _ D;refine TS.QR (I.ok.hd hc) C B hd y j A (by omega) λf d K l vs ks out ms e c G Y U k5 k6 T k8=>?_;have F:∀k,k∈ms↔k∈ns:=λk=>by
  rw[T.mem_iff,Jv U k,<- g k,z k];constructor
  ·rintro ⟨t',R⟩
   obtain⟨x,P,Z⟩:=ò.mp (Y.mem_iff.mp R);exact⟨x,P,by rw[Z];exact intKind_is _ _ _ _⟩
  ·rintro ⟨x,P,Z⟩
   obtain⟨i,t',E⟩:∃i t',x.2=.int i t':=by
    cases hv:x.2 with
    |int i t'=>exact⟨i,t',rfl⟩
    |_=>rw[hv] at Z;simp[ů,Value.isInt] at Z
   have qz:k=i:=(ů X.prog X.w).inj (.int i t') k i (by rw[<- E];exact Z) (intKind_is _ _ _ _);subst qz;exact⟨t',Y.mem_iff.mpr (ò.mpr ⟨x,P,E⟩)⟩
 have O:ms.Nodup:=by
  have N:=A0 ns [] ż;refine Hz N (λk=>?_) ?_
  ·rw[F k,IK]
  ·rw[<- W,<- m]
   have e1:=T.length_eq;have e2:=U.length;have M:=Y.length_eq;simp at M;omega
 have aS:ms.Pairwise (· < ·):=by
  have:=List.pairwise_and_iff.mpr ⟨k8,O⟩;exact this.imp λ⟨a,b⟩=>by omega
 have J:=I.laid (t':=K) (a:=l) (o:=.lst (ms.map V.int)) c G ⟨by
  rw[Â,Ÿ];have e1:=T.length_eq;have e2:=U.length;have M:=Y.length_eq;simp at M;omega,out,e,Hy k6,k5⟩
 exact⟨.ref l,_,J.Du (s':={ s with heap:=f,drawn:=d,toks:=K }) (ch:=[]) rfl Un.refl J.aE J.bare (λb L=>by cases L),rfl,q l ms (I.aE.fresh G) aS F⟩
end
mutual
noncomputable def Ak:acZ->Bool
 | .tuple Z=>zH Z
 | .list _=>false
 |_=>true
noncomputable def zH:List acZ->Bool
 | []=>true
 |d::Z=>Ak d&&zH Z
end
section
variable {X:Cx} {π:List (ä×Obj)} {σ:St} {H:Hp} {s:Å} {Z:ä->Prop}
mutual
theorem DV.u4 (I:Inv X π σ H s):∀{d:acZ} {v:V} {u:Ç},DV X.K Z H d v->RelV v u->Ak d=true->∃as,Reads s.heap u d as/\Ŧ∉as
 | .none,v,u,h,r,_=>by
  have e:v=.ax:=h;subst e;cases r;exact⟨[],.none,by simp⟩
 | .bool b,v,u,h,r,_=>by
  have e:v=.bl b:=h;subst e;cases r;exact⟨[],.bool b,by simp⟩
 | .int i,v,u,h,r,_=>by
  have e:v=.int i:=h;subst e;obtain⟨t,rfl⟩:=r;exact⟨[],.int i t,by simp⟩
 | .str x,v,u,h,r,_=>by
  have e:v=.str x:=h;subst e;obtain⟨t,rfl⟩:=r;exact⟨[],.str x t,by simp⟩
 | .tuple U,v,u,h,r,Y=>by
  simp only[DV] at h;obtain⟨a,J,e,W,T⟩:=h;subst e;cases r;obtain⟨its,rv,⟨o,e,c,n,S⟩,_⟩:=I.tuple W;obtain⟨as,R,hs⟩:=aq.u4 I T rv (by simpa only [Ak] using Y);exact⟨as,.tuple e c S (by simpa using R),hs⟩
 | .list U,v,u,h,r,Y=>by
  simp only[Ak] at Y;cases Y
 | .dict G,v,u,h,r,_=>by
  simp only[DV] at h;obtain⟨a,F,e,_,W,l,e1,e2⟩:=h;subst e e1 e2;cases r;obtain⟨_,Q,E,P,o,D,C,g1,g2,g3,_,O,_⟩:=(show cR X.prog X.w H s.heap a (.dK _) from I.aE a _ W);obtain⟨N,M⟩:=AY (h:=s.heap) P O;refine⟨a::[]++[],.dict g1 g2.1 g3 N M,λL=>?_⟩;have e:Ŧ=a:=by simpa using L
  subst e;simp at Q
theorem aq.u4 (I:Inv X π σ H s):∀{ds:List acZ} {vs:List V} {us:List Ç},aq X.K Z H ds vs->Vals vs us->zH ds=true->∃as,ReadsAll s.heap us ds as/\Ŧ∉as
 | [],vs,us,h,r,_=>by
  have e:vs=[]:=h;subst e;cases r;exact⟨[],.nil,by simp⟩
 |d::ds,vs,us,h,r,Y=>by
  obtain⟨v,O,e,W,U⟩:=h;subst e;simp only[zH,È] at Y
  cases r with
  |cons T S =>
   obtain⟨as,a1,R⟩:=DV.u4 I W T Y.1;obtain⟨bs,a2,Q⟩:=aq.u4 I U S Y.2;refine⟨as++bs,.cons a1 a2,λP=>?_⟩
   rcases ñ.mp P with z|z
   ·exact R z
   ·exact Q z
end
end
end L2
namespace HZ
open PySem PySem.Spec PyProof.Rows
open AutoSeq1 (wpAny_loadPart')
section
variable {P:ó} {w:Ĕ} {A:Ĉ} {E:Ç->Å->Prop} {s:Å}
def RU {tn:Nat->œ->Prop} {val:Nat->Option Ç} {k:Nat} {Q:Ç->Å->Prop} (S1:iZ P w A it l tn val) (ge:IsEnum s.heap e it k old) (h1:tn k s.heap) (hx:val k=some x) (bK:it≠e) (hle:l≠e)
 (q:∀h',IsEnumOut h' e it ((k:Int)+1) x s.heap.objs.size->tn (k+1) h'->h'.get? s.heap.objs.size=some { cls:=.type "tuple",data:=.seq #[.int k s.toks,x] }->h'.objs.size=s.heap.objs.size+1 ->
 (∀c o,c≠e->c≠it->s.heap.get? c=some o->h'.get? c=some o)->Q (.ref s.heap.objs.size) { s with heap:=h',toks:=s.toks+1 }) :
  á (í P w) A (Ť.«enumerate.__next__» ⟨[.ref e],[]⟩) (λfin s'=>∃v,fin=.done (.ret v)/\Q v s') E s:=by
 obtain⟨C,t,r,U,os⟩:=s;show á _ _ (field (.ref e) 2 >>= _) _ _ (_:Å);refine À (Ĝ ge rfl (x:=.ref it) rfl ?_);refine À (S1.item k _ _ _ x h1 hx λJ t1 T=>?_);have e1:IsEnum J e it k old:=T.extBut _ _ bK.symm ge;show á _ _ (field (.ref e) 3 >>= _) _ _ (_:Å);refine À (Ĝ e1 rfl (x:=Ś k) rfl ?_);show á _ _ (field (.ref e) 4 >>= _) _ _ (_:Å);refine À (Ĝ e1 rfl (x:=.none) rfl ?_);show á _ _ (mkInt k >>= _) _ _ (_:Å);refine À (wpAny_mkInt ?_);show á _ _ (setField (.ref e) 3 (Ś ((k:Int)+1)) >>= _) _ _ (_:Å);refine À (Ī e1 (by simp) λB e2 I=>?_)
 replace e2:IsEnum B e it ((k:Int)+1) old:=e2
 show á _ _ (setField (.ref e) 4 .none >>= _) _ _ (_:Å);refine À (Ī e2 (by simp) λZ W H=>?_)
 replace W:IsEnum Z e it ((k:Int)+1) old:=W
 show á _ _ (newTuple [.int k U,x] >>= _) _ _ (_:Å);refine À (wpAny_newTuple ?_);have S:IsEnum (Z.push { cls:=.type "tuple",data:=.seq #[.int k U,x] }) e it ((k:Int)+1) old:=Á _ W;have G:Z.objs.size=C.objs.size:=by rw[H.1,I.1,T.1]
 have R:e<Z.objs.size:=Ó W;show á _ _ (ĝ (.ref e) >>= _) _ _ (_:Å);refine À ?_;unfold ĝ;refine À (Ĝ S rfl (x:=.none) rfl (Ä ?_));simp only[ï];refine À (Ų ?_);refine À (Ĝ S rfl (x:=old) rfl ?_);refine À (Ī S (by simp) λz O s5=>?_)
 replace O:IsEnum z e it ((k:Int)+1) x:=O
 show á _ _ (Ŋ (.ref e) (.ref Z.objs.size) >>= _) _ _ (_:Å);refine À ?_;unfold Ŋ;refine À (Ī O (by simp) λy N M=>?_)
 replace N:IsEnumOut y e it ((k:Int)+1) x Z.objs.size:=N
 refine Ī N (by simp) λX V L=>?_
 replace V:IsEnumOut X e it ((k:Int)+1) x Z.objs.size:=V
 have up:∀c o,c≠e->Z.get? c=some o->X.get? c=some o:=λc o Y h=>L.extBut _ _ Y (M.extBut _ _ Y (s5.extBut _ _ Y (Á _ h)));have F:X.get? Z.objs.size=some { cls:=.type "tuple",data:=.seq #[.int k U,x] }:=L.extBut _ _ (ĸ R) (M.extBut _ _ (ĸ R) (s5.extBut _ _ (ĸ R) (Ë _ rfl)));have D:X.objs.size=Z.objs.size+1:=by rw[L.1,M.1,s5.1,û]
 have K:∀c o,c≠e->J.get? c=some o->Z.get? c=some o:=λc o Y h=>H.extBut _ _ Y (I.extBut _ _ Y h);rw[G] at V F D;refine À (abS (Ä ⟨_,rfl,?_⟩));show Q (.ref Z.objs.size) _;rw[G];exact q X V (S1.keep _ _ _ t1 (λo h=>up _ o bK (K _ o bK h)) (λo h=>up _ o hle (K _ o hle h))) F D λc o Y u h=>up c o Y (K c o Y (T.extBut _ _ u h))
def RV {tn:Nat->œ->Prop} {val:Nat->Option Ç} {k:Nat} {Q:Option Ç->Å->Prop} (S1:iZ P w A.in1 it l tn val) (ge:IsEnum s.heap e it k old) (h1:tn k s.heap) (hx:val k=some x) (bK:it≠e) (hle:l≠e)
 (q:∀h',IsEnumOut h' e it ((k:Int)+1) x s.heap.objs.size->tn (k+1) h'->h'.get? s.heap.objs.size=some { cls:=.type "tuple",data:=.seq #[.int k s.toks,x] }->h'.objs.size=s.heap.objs.size+1 ->
 (∀c o,c≠e->c≠it->s.heap.get? c=some o->h'.get? c=some o)->Q (some (.ref s.heap.objs.size)) { s with heap:=h',toks:=s.toks+1 }):á (í P w) A (ſ (.ref e)) Q E s:=by
 have Z:s.TypeIs (.ref e) "enumerate":=⟨_,ge,rfl⟩;unfold ſ;exact À (ο (č (name:=Ā "__next__") Z abo
  (Ď abo Z F.entry_enumerate_next (RU S1 ge h1 hx bK hle λh' a1 a2 Y X W=>Ä (q h' a1 a2 Y X W)) (F.args_enumerate_next_1 _))))
def TN {tn:Nat->œ->Prop} {val:Nat->Option Ç} {k:Nat} {Q:Option Ç->Å->Prop} (S1:iZ P w A.in1 it l tn val) (ge:IsEnum s.heap e it k old) (h1:tn k s.heap) (hx:val k=none)
 (q:∀h',acq it s.heap h'->Q none { s with heap:=h' }):á (í P w) A (ſ (.ref e)) Q E s:=by
 have Z:s.TypeIs (.ref e) "enumerate":=⟨_,ge,rfl⟩;unfold ſ;refine À (ο (č (name:=Ā "__next__") Z abo
  (Ď abo Z F.entry_enumerate_next ?_ (F.args_enumerate_next_1 _))))
 show á _ _ (field (.ref e) 2 >>= _) _ _ (_:Å);refine À (Ĝ ge rfl (x:=.ref it) rfl ?_);refine À (S1.stop k _ _ _ h1 hx λh' x Y X=>?_);obtain⟨o,W,V⟩:=X;exact À (acM (T:="StopIteration") (b:=true) ⟨o,W,V⟩ isSubtype_stop (Ä (q _ Y)))
end
end HZ
namespace L2
open PySem PySem.Spec PyProof.Rows
section
variable {X:Cx} {elts:List ľ} {kk:Nat} {tp:Pos}
def RW:ć "enumerate"=some (.type "enumerate"):=by decide +kernel
end
end L2
namespace HZ
open PySem PySem.Spec PyProof.Rows
def OE:fillsNumberSlot (.type "tuple") "mul"=pure false:=by
 first|rfl | (unfold fillsNumberSlot;kernel_rfl)|kernel_rfl
def Px:seqRepeat? (.type "tuple")=pure (some (.builtin "tuple.__mul__")):=by
 first|rfl|kernel_rfl
def QU (a:Int) (t:Tok) (l:ä) (items:Array Ç) (n:Nat) (d:Option ä) (sl:Array (Option Ç)) :
  Meets (Ť.«int.__rmul__» ⟨[.int a t,.ref l],[]⟩) (λ_ R s=>s.heap.get? l=some { cls:=.type "tuple",dict:=d,data:=.seq items n,slots:=sl }/\R (.ok (.ret Value.notImplemented)) s) :=
 .of_wp λprog w A R s h=>by
  obtain⟨Z,Y,X,W,V⟩:=s;obtain⟨U,h⟩:=h;wp_walk;exact⟨_,rfl,h⟩
section
variable {P:ó} {w:Ĕ} {A:Ĉ} {E:Ç->Å->Prop} {s:Å}
def Vw (ht:IsTup s.heap t vs.toArray) (hv:vs≠[]) (hk:1<=k) (hz:vs.length*k.toNat<=Ø)
 (h1:k=1->Q (.ref t) s) (h2:k≠1->Q (.ref s.heap.objs.size) { s with heap:=s.heap.push { cls:=.type "tuple",data:=.seq (Ï k.toNat vs).flatten.toArray } }) :
  á (í P w) A (ś .Mult (.ref t) (.int k tk)) Q E s:=by
 obtain⟨⟨cls,S,data,R⟩,Z,X,n,W⟩:=id ht;simp only at X W;subst X W;have K:k<=16777216:=by
  have O:1<=vs.length:=by
   cases vs with
   |nil=>exact absurd rfl hv
   |cons a r=>simp
  have J:vs.length*k.toNat<=16777216:=by rw[<- Ÿ];exact hz
  have:1*k.toNat<=vs.length*k.toNat:=acQ _ O;omega
 refine wpAny_binaryOp_repeat_ref (T:="tuple") (U:="int") (by decide) ⟨_,Z,rfl⟩ (λN=>typeIs_int N k tk) OE F.fills_int_mul acY Px F.slot_int_index.lookup
  (call_meets acY (typeIs_int s k tk) F.entry_int_rmul (F.args_int_rmul_2 _ _) (QU k tk t vs.toArray n S R) ⟨Z,rfl,⟨_,Z,rfl⟩,?_⟩)
 refine Ď F.slot_tuple_mul ⟨_,Z,rfl⟩ F.entry_tuple_mul ?_ (F.args_tuple_mul_2 _ _);show á _ _ (asIndex (.int k tk) >>= _) _ _ _;refine À ?_
 refine ξ (a:=k) (by first|rfl | (unfold asIndex;rfl)) ?_
 dsimp only;rw[å (by simp;omega)];unfold abB;refine À (À (Ĵ Z rfl ?_));refine Ä ?_;have ne:vs.toArray.isEmpty=false:=by
  cases vs with
  |nil=>exact absurd rfl hv
  |cons a r=>simp
 by_cases h:k=1
 ·rw[Þ (by rw[h];simp)]
  unfold abC;refine À (À (abV (T:="tuple") ⟨_,Z,rfl⟩ (Ä ?_)));rw[Þ (by decide)];exact À (Ų (Ä ⟨_,rfl,h1 h⟩))
 ·rw[å (by rw[ne];simp[h])]
  rw[å (by rw[ne];simp;omega)];have V:(vs.toArray.size:Int)*k=((vs.length*k.toNat:Nat):Int):=by
   rw[Û,Int.natCast_mul];congr 1;omega
  have Y:vs.length*k.toNat<=16777216:=by rw[<- Ÿ];exact hz
  rw[å (by rw[V];omega)];rw[å (by
   unfold Builtin.Tuple.tupleTooMany;rw[V,Ÿ,Í];generalize vs.length*k.toNat=q at Y;omega)]
  unfold Š;have e:List.foldl (λM L=>M++L) #[] (Ï k.toNat vs.toArray)=(Ï k.toNat vs).flatten.toArray:=by
   have:=L2.foldl_rep vs k.toNat [];rw[ē] at this;exact this
  rw[e];refine À (ą ?_ (by
   show (acF _).size<=Ø;rw[Û,L2.len_rep,Nat.mul_comm];exact hz))
  exact Ä ⟨_,rfl,h2 h⟩
end
end HZ
namespace L2
open PySem PySem.Spec PyProof.Rows
section
variable {X:Cx}
def Zh (K:ĥ):R2:=λx y H Q=>∃a Z k,x=.ref a/\y=.int k/\bz K H a Z/\Z≠[]/\1<=k/\Z.length*k.toNat<=Ø/\om K H (Ï k.toNat Z).flatten Q
def Vx:bp X (ś .Mult) (Zh X.K):=by
 intro P s σ H x y v u Q I V U h;obtain⟨a,Z,k,rfl,rfl,hs,T,S,W,q⟩:=h;cases V;obtain⟨t,rfl⟩:=U;obtain⟨its,r,p,z⟩:=I.tuple hs;have Y:=r.length;refine HZ.Vw p (λe=>T (by rw[e] at Y;exact ab9.mp Y)) S (by rw[<- Y];exact W) (λe=>?_) (λ_=>?_)
 ·have e1:(Ï k.toNat Z).flatten=Z:=by rw[e];simp
  rw[e1] at q;exact⟨.ref a,H,I,rfl,q.here hs⟩
 ·have R:(Ï k.toNat Z).flatten.length<=Ø:=by rw[len_rep,Nat.mul_comm];exact W
  exact⟨.ref _,_,I.laid (t':=s.toks) (o:=.tup (Ï k.toNat Z).flatten) (λb o e=>Á _ e) (adv _) ⟨R,_,r.rep k.toNat,⟨_,Ë _ rfl,rfl,_,rfl⟩⟩,rfl,q.new (I.aE.fresh (adv _))⟩
end
end L2
namespace HZ
open PySem PySem.Spec PyProof.Rows
def Kl:mroOf (.type "reversed")=pure [.type "reversed",.type "object"]:=by rw[mroOf_type];kernel_rfl
def OU:typeLookup (.type "reversed") "__new__"=pure (some (.builtin "reversed.__new__")):=by rw[typeLookup_type,acG];kernel_rfl
def TQ:Bind.madeBy (.type "reversed")=pure (some "reversed.__new__"):=madeBy_type Kl OU (by decide +kernel)
def O4:entryFor table "reversed.__new__"=some Ť.«reversed.__new__»:=entryFor_of_tree (by kernel_rfl)
def O5:plainId "reversed.__new__"=true:=by decide +kernel
theorem Py (a:Ç):checkTypeCall "reversed" ⟨[a],[]⟩=pure ():=by kernel_rfl
def P9 (a:Ç):checkBuiltinCall "reversed.__new__" ⟨[.type "reversed",a],[]⟩=pure ():=by kernel_rfl
def Vy:isSubtype (.type "reversed") (.type "reversed")=pure true:=by rw[isSubtype_type];kernel_rfl
def QV:isSubtype (.type "range_iterator") (.type "reversed")=pure false:=by rw[isSubtype_type];kernel_rfl
def Pz:(Ŗ "reversed"==Ŗ "type")=false:=by decide +kernel
def Vz:((Manifest.find? "reversed").bind (·.mro.findSome? λt=>(Manifest.find? t).bind λb=>if b.noNew then some true else if b.attrs.any (·.1=="__new__") then some false else none)).getD false=false:=by decide +kernel
section
variable {P:ó} {w:Ĕ} {A:Ĉ} {E:Ç->Å->Prop} {s:Å}
def PB (hr:s.heap.get? r=some { cls:=.type "range",data:=.fields #[.int a t1,.int b t2,.int c t3] }) (h:Q (a,b,c) s):á (í P w) A (ade (.ref r)) Q E s:=by
 unfold ade;refine À (Ĝ hr rfl (x:=.int a t1) rfl ?_);refine À (ξ (a:=some a) (by rfl) ?_);refine À (Ĝ hr rfl (x:=.int b t2) rfl ?_);refine À (ξ (a:=some b) (by rfl) ?_);refine À (Ĝ hr rfl (x:=.int c t3) rfl ?_);refine À (ξ (a:=some c) (by rfl) ?_);exact Ä h
def VA {n:Nat} {Q:Ç->Å->Prop} (hr:s.heap.get? r=some { cls:=.type "range",data:=.fields #[.int 0 t1,.int n t2,.int 1 t3] }) (hn:n<2 ^ 62)
 (h:Q (.ref s.heap.objs.size) { s with heap:=s.heap.push { cls:=.type "range_iterator",data:=.fields #[Ś (n-1),Ś n,Ś (-1)] } }) :
  á (í P w) A (Ť.«reversed.__new__» ⟨[.type "reversed",.ref r],[]⟩) (λfin s'=>∃v,fin=.done (.ret v)/\Q v s') E s:=by
 have X:s.TypeIs (.ref r) "range":=⟨_,hr,rfl⟩;have ss:=Vy;unfold Ť.«reversed.__new__» Builtin.SmallTypes.newClass Builtin.SmallTypes.refuseKeywords;have V:=abp.lookup;have U:=abp.bind (.ref r)
 wp_walk
 refine ŝ (abE (R:=wants (λv s'=>v=.ref s.heap.objs.size/\s'={ s with heap:=s.heap.push { cls:=.type "range_iterator",data:=.fields #[Ś (n-1),Ś n,Ś (-1)] } }) E) abp.plain F.entry_range_reversed (abp.check _ _ _ _ _ _ _ _ X (F.args_range_reversed_1 _) ?_)) λW T Z=>?_
 ·unfold Ť.«range.__reversed__»
  refine À (ξ (a:=.ref r) (by rfl) ?_);refine À (PB hr ?_);dsimp only;have sz:abZ 0 n 1=n:=by
   unfold abZ;rw[Þ (by decide)]
   split<;>omega
  rw[sz];have Y:(ĩ 0&&ĩ n&&ĩ 1&&ĩ (-1)&&ĩ (0-1)&&ĩ n)=true:=by
   have S:(n:Int)<2 ^ 62:=by omega
   unfold ĩ;simp only[È,Í];refine⟨⟨⟨⟨⟨⟨by decide,by decide⟩,by omega,by omega⟩,by decide,by decide⟩,by decide,by decide⟩,by decide,by decide⟩,by omega,by omega⟩
  rw[Y];rw[å (by decide)];refine À (ą ?_);refine Ä ?_;refine⟨rfl,?_⟩;have e:(0:Int)+((n:Int)-1)*1=n-1:=by omega
  simp[Ś]
 ·cases W with
  |error e=>exact Z
  |ok Y =>
   cases Y with
   |ret v =>
    obtain⟨rfl,rfl⟩:=Z;exact Ä ⟨_,rfl,h⟩
   |_=>exact Z
def TR {n:Nat} {Q:Ç->Å->Prop} (hr:s.heap.get? r=some { cls:=.type "range",data:=.fields #[.int 0 t1,.int n t2,.int 1 t3] }) (hn:n<2 ^ 62)
 (h:Q (.ref s.heap.objs.size) { s with heap:=s.heap.push { cls:=.type "range_iterator",data:=.fields #[Ś (n-1),Ś n,Ś (-1)] } }):á (í P w) A (call (.type "reversed") [.ref r]) Q E s:=by
 have T:=Kl;have S:=TQ;have O:=QV;have m4:=Pz;have N:=Vz;have M:=Py (.ref r);refine wpAny_call (ab6 ?_);show á _ _ (callAny (.type "reversed") _) _ _ _;refine Ä ⟨ab8 _ (by decide +kernel),ı F.entry_type_call ?_⟩;rw[ac8 (acH "reversed" [.ref r] []) rfl]
 repeat (any_goals (first|assumption|wp_step))
 refine ŝ (abE (R:=wants (λv Z=>v=.ref s.heap.objs.size/\Z={ s with heap:=s.heap.push { cls:=.type "range_iterator",data:=.fields #[Ś (n-1),Ś n,Ś (-1)] } }) E) O5 O4 (ξ (P9 _) ?_)) λX L Y=>?_
 ·refine ķ (VA (Q:=λv Z=>v=.ref s.heap.objs.size/\Z={ s with heap:=s.heap.push { cls:=.type "range_iterator",data:=.fields #[Ś (n-1),Ś n,Ś (-1)] } }) hr hn ⟨rfl,rfl⟩) (λf Z W=>?_) λ_ _ e=>e
  obtain⟨v,rfl,V⟩:=W;exact V
 ·cases X with
  |error e=>exact Y
  |ok U =>
   cases U with
   |ret v =>
    obtain⟨rfl,rfl⟩:=Y
    have K:adn { s with heap:=s.heap.push { cls:=.type "range_iterator",data:=.fields #[Ś (n-1),Ś n,Ś (-1)] } } (.ref s.heap.objs.size) "range_iterator":=⟨_,Ë _ rfl,rfl⟩
    repeat (any_goals (first|assumption|wp_step))
   |_=>exact Y.elim
end
end HZ
namespace L2
open PySem PySem.Spec PyProof.Rows
noncomputable def EL (n:Nat):It:=⟨λi _=>i<n,λi H x Z=>Z=H/\x=.int ((n:Int)-1-i),λi _=>n<=i⟩
def TU {P:ó} {w:Ĕ} {K:ĥ} {tg:ľ} (it:ä) (n:Nat):Turn P w K tg (EL n) [it] it (λi h=>IsRangeIter h it (((n:Int)-1)+(i:Nat)*(-1)) ((n:Int)-(i:Nat)) (-1)) where
 mem:=by simp
 obj:=λi h st b Z=>by
  have e:b=it:=by simpa using Z
  subst e;exact⟨_,st,λv z=>by
   have J:Data.fields _=Data.cell v:=z;cases J⟩
 keep:=λi h Y st k=>k it (by simp) _ st
 item:=by
  intro X U hw T S i N s σ H E I V st R;subst U hw T;obtain⟨f0,f1,f2,Q,f4,O⟩:=V it (by simp);have W:=Walks.range (prog:=X.prog) (w:=X.w) (I.ok.hd S) it ((n:Int)-1) (-1) n;refine W.item i s _ _ R st λv Y M G L F=>?_;obtain⟨t,rfl⟩:=G
  have D:Inv X N σ H { s with heap:=Y,toks:=M }:=I.turned (λb o Z e=>F b o (by simpa using Z) e) f0 f1 Q f4 O
  refine⟨_,rfl,zg (s:={ s with heap:=Y,toks:=M }) (n:="range_iterator") L rfl rfl (by decide) ⟨.int ((n:Int)-1-i),H,D,⟨t,?_⟩,⟨rfl,rfl⟩,L,λb Z=>(V b Z).1⟩⟩
  rw[Int.mul_neg_one];rfl
 done:=by
  intro X U hw T S i N s σ H E I V st R;subst U hw T;obtain⟨f0,f1,f2,Q,f4,O⟩:=V it (by simp);exact wpAny_pyNext_range_end (I.ok.hd S) st (by have:n<=i:=R;omega) λY C=>⟨rfl,I.turned (t':=s.toks) (λb o Z e=>C b o Z e) f0 f1 Q f4 O⟩
 self:=λ_ _ _ _ _ st h=>ach st h
section
variable {X:Cx} {tg:ľ}
def TV:ć "reversed"=some (.type "reversed"):=by decide +kernel
def Qa:cT X (.type "range") (λxs H Q=>∃j:Int,xs=[.int j]/\∀p,H p=none->Q (.ref p) (upd H p (.cu 0 j))):=by
 intro Y s σ H xs W Q I r h;obtain⟨j,rfl,q⟩:=h;obtain⟨u,rfl,Z⟩:=vals1 r;obtain⟨t,rfl⟩:=Z;exact call_range_1 ⟨.ref _,_,I.laid (o:=.cu 0 j) (t':=s.toks+1+1) (λb o e=>Á _ e) (adv _) ⟨_,_,_,Ë _ rfl⟩,rfl,q _ (I.aE.fresh (adv _))⟩
def aaN (ta:TA):TI:=fun σ H R=>ta σ H λY Z=>∃(p:ä) (n:Nat),Y=[.ref p]/\Z p=some (.cu 0 n)/\n<2 ^ 62/\R (EL n) Z
def XA {a:ľ} {ta:TA} {p pos:Pos} (hg:Gl X "reversed") (hm:X.mg "reversed"=none) (ha:PA X [a] ta) (hs:ß [a] X.env=[(false,ţ a X.env)]:=by rfl):PI X tg (.Call (.Name "reversed" p) [a] [] pos) (aaN ta):=by
 intro W s σ H R I h;refine Call_ (lj I hg hm TV (Ĺ (aJ (ha pos W s σ H _ I h) λM Z ⟨L,V,Y,U,T⟩=>?_) hs rfl));obtain⟨c,n,e,S,Q,q⟩:=T;subst e;obtain⟨u,rfl,P⟩:=vals1 U;cases P;obtain⟨t1,K,t3,O⟩:=Y.aE c _ S;refine HZ.TR O Q ?_;have st:IsRangeIter (Z.heap.push { cls:=.type "range_iterator",data:=.fields #[Ś ((n:Int)-1),Ś n,Ś (-1)] }) Z.heap.objs.size (((n:Int)-1)+((0:Nat):Int)*(-1)) ((n:Int)-((0:Nat):Int)) (-1):=by
  have e1:((n:Int)-1)+((0:Nat):Int)*(-1)=n-1:=by simp
  have e2:(n:Int)-((0:Nat):Int)=n:=by simp
  rw[e1,e2];exact Ë _ rfl
 refine ach (s:={ Z with heap:=_ }) st ?_
 refine⟨Z.heap.objs.size,[Z.heap.objs.size],_,_,V,rfl,Y.kept (t':=Z.toks) λb o e=>Á _ e,TU _ n,st,λb N=>?_,q⟩;have e:b=Z.heap.objs.size:=by simpa using N
 subst e;exact Y.oh (adv _) (Y.aE.fresh (adv _))
end
end L2
namespace HZ
open PySem PySem.Spec PyProof.Rows
end HZ
namespace L2
open PySem PySem.Spec PyProof.Rows
end L2
namespace DI
open PySem L2
set_option genInjectivity true in
inductive D where
 |ax|bl (b:Bool)|int (i:Int)|str (x:Str)|tup (ds:List D)|lst (ds:List D)|bA (aj:List (Key×Int))|ai (k:Nat)|ty (n:String)|bV (ns:List Int)|exc (c:Str) (m:Option Int)|cN (a:ä) (vs:List V) (ds:List D)
set_option genInjectivity true in
inductive Cell where
 |dead|lst (ds:List D)|dK (aj:List (Key×D))|dT (aj:List (D×Int))|tb (x:Str)|ins (c:Str) (fs:List (Str×D))
noncomputable abbrev ae:=List Cell
noncomputable abbrev Env:=List (Option D)
structure aQ where
 c:Str
 many:Option Int
noncomputable abbrev Res (α:Type):=Option (Except aQ α×ae)
abbrev adq (α:Type):=Env->ae->Res α
noncomputable abbrev ok {α:Type} (a:α) (s:ae):Res α:=some (.ok a,s)
def ak {α β:Type} (r:Res α) (k:α->ae->Res β):Res β:=match r with
 |some (.ok a,s)=>k a s
 |some (.error x,s)=>some (.error x,s)
 |none=>none
@[simp] theorem de {α β:Type} {a:α} {s:ae} {k:α->ae->Res β}:ak (some (.ok a,s)) k=k a s:=rfl
structure Wd where
 ρ:List ä
 aD:ae
 H:Hp
def Wd.Z (w:Wd) (a:ä):Prop:=∃(k:Nat) (c:Cell),w.ρ[k]?=some a/\w.aD[k]?=some c/\c≠.dead
def LstAt (w:Wd) (a:ä) (xs:List V):Prop:=¬ w.Z a/\w.H a=some (.lst xs)
def LstAt.sq (h:LstAt w a xs):bh K w.H a xs:=bh.of h.2
def vt (K:ĥ) (w:Wd) (a:ä) (xs:List V):Prop:=(¬ w.Z a/\Rd w.H a (.lst xs)) \/
 ∃(o:Obj) (its:Array Ç) (n:Nat),K.lookup a=some o/\o.cls=.type "list"/\o.dict=none/\o.data=.seq its n/\its.size<=Ø/\Vals xs its.toList
def vt.sq (h:vt K w a xs):bh K w.H a xs:=by
 rcases h with ⟨_,h⟩|h
 ·exact .inl h
 ·exact .inr h
mutual
def DV (K:ĥ) (w:Wd):D->V->Prop
 | .ax,v=>v=.ax
 | .bl b,v=>v=.bl b
 | .int i,v=>v=.int i
 | .str x,v=>v=.str x
 | .tup Y,v=>∃a X,v=.ref a/\bz K w.H a X/\aq K w Y X
 | .lst Y,v=>∃a X,v=.ref a/\LstAt w a X/\aq K w Y X
 | .bA S,v=>∃a,v=.ref a/\¬ w.Z a/\w.H a=some (.dK (S.map λp=>(p.1,V.int p.2)))
 | .ai k,v=>∃a,w.ρ[k]?=some a/\v=.ref a
 | .ty n,v=>v=.ty n
 | .bV R,v=>∃a,v=.ref a/\vt K w a (R.map V.int)
 | .exc c m,v=>∃a o C,v=.ref a/\(¬ w.Z a/\w.H a=some (.bS o (.own a)))/\(o.cls=.ref C/\ù K â c=some (some (.ref C)))/\∀i,m=some i->PySem.W.notCls o=true/\∃U T t,o.dict=some U/\(¬ w.Z U/\w.H U=some (.bS T (.own U)))/\acy "many" T=some (some (.int i t))
 | .cN a Q Y,v=>v=.ref a/\aq K w Y Q
def aq (K:ĥ) (w:Wd):List D->List V->Prop
 | [],Z=>Z=[]
 |d::Y,Z=>∃v r,Z=v::r/\DV K w d v/\aq K w Y r
end
structure Fw (K:ĥ) (w w':Wd):Prop where
 FJ:∀(k:Nat) a,w.ρ[k]?=some a->w'.ρ[k]?=some a
 tup:∀a xs,bz K w.H a xs->bz K w'.H a xs
 lst:∀a xs,¬ w.Z a->w.H a=some (.lst xs)->¬ w'.Z a/\w'.H a=some (.lst xs)
 bS:∀a o u,¬ w.Z a->w.H a=some (.bS o u)->¬ w'.Z a/\w'.H a=some (.bS o u)
 bA:∀a es,¬ w.Z a->w.H a=some (.dK es)->¬ w'.Z a/\w'.H a=some (.dK es)
def Fw.Mo (S:Fw K w w') (h:LstAt w a xs):LstAt w' a xs:=S.lst a xs h.1 h.2
def Fw.Zi (S:Fw K w w') (h:vt K w a xs):vt K w' a xs:=by
 rcases h with ⟨Y,Z | ⟨o,Z⟩⟩|h
 ·have q:=S.lst a xs Y Z
  exact .inl ⟨q.1,.inl q.2⟩
 ·have q:=S.bS a o _ Y Z
  exact .inl ⟨q.1,.inr ⟨o,q.2⟩⟩
 ·exact .inr h
mutual
theorem DV.fw (S:Fw K w w'):∀{d:D} {v:V},DV K w d v->DV K w' d v
 | .ax,_,h=>h
 | .bl _,_,h=>h
 | .int _,_,h=>h
 | .str _,_,h=>h
 | .tup X,v,h=>by
  simp only[DV] at h |-;obtain⟨a,Y,e,Z,r⟩:=h;exact⟨a,Y,e,S.tup a Y Z,aq.fw S r⟩
 | .lst X,v,h=>by
  simp only[DV] at h |-;obtain⟨a,Y,e,Z,r⟩:=h;exact⟨a,Y,e,S.Mo Z,aq.fw S r⟩
 | .bA L,v,h=>by
  simp only[DV] at h |-;obtain⟨a,e,R,Z⟩:=h;obtain⟨Q,P⟩:=S.bA a _ R Z;exact⟨a,e,Q,P⟩
 | .ai k,v,h=>by
  simp only[DV] at h |-;obtain⟨a,e,e2⟩:=h;exact⟨a,S.FJ k a e,e2⟩
 | .ty _,_,h=>h
 | .bV J,v,h=>by
  simp only[DV] at h |-;obtain⟨a,e,Z⟩:=h;exact⟨a,e,S.Zi Z⟩
 | .exc c m,v,h=>by
  simp only[DV] at h |-;obtain⟨a,o,C,e,Z,r,k⟩:=h;refine⟨a,o,C,e,S.bS a o _ Z.1 Z.2,r,λi hi=>?_⟩;obtain⟨O,W,U,t,N,T,M⟩:=k i hi;exact⟨O,W,U,t,N,S.bS W U _ T.1 T.2,M⟩
 | .cN a I X,v,h=>by
  simp only[DV] at h |-;exact⟨h.1,aq.fw S h.2⟩
theorem aq.fw (S:Fw K w w'):∀{ds:List D} {vs:List V},aq K w ds vs->aq K w' ds vs
 | [],_,h=>h
 |d::ds,vs,h=>by
  simp only[aq] at h |-;obtain⟨v,r,e,Z,Y⟩:=h;exact⟨v,r,e,DV.fw S Z,aq.fw S Y⟩
end
structure Le (K:ĥ) (w w':Wd):Prop where
 dv:∀d v,DV K w d v->DV K w' d v
 lst:∀a xs,LstAt w a xs->LstAt w' a xs
 tup:∀a xs,bz K w.H a xs->bz K w'.H a xs
 bS:∀a o u,¬ w.Z a->w.H a=some (.bS o u)->¬ w'.Z a/\w'.H a=some (.bS o u)
noncomputable instance {K:ĥ} {w w':Wd}:CoeFun (Le K w w') (λ_=>∀d v,DV K w d v->DV K w' d v):=⟨Le.dv⟩
def Le.refl (w:Wd):Le K w w:=⟨λ_ _ h=>h,λ_ _ h=>h,λ_ _ h=>h,λ_ _ _ h g=>⟨h,g⟩⟩
def Le.trans (h:Le K a b) (g:Le K b c):Le K a c:=⟨λd v x=>g.dv d v (h.dv d v x),λp Z x=>g.lst p Z (h.lst p Z x),λp Z x=>g.tup p Z (h.tup p Z x),λp o u z x=>let q:=h.bS p o u z x;g.bS p o u q.1 q.2⟩
def Fw.le (S:Fw K w w'):Le K w w':=⟨λ_ _ h=>h.fw S,λ_ _ h=>S.Mo h,S.tup,S.bS⟩
theorem Le.all (h:Le K w w'):∀{ds:List D} {vs:List V},aq K w ds vs->aq K w' ds vs
 | [],_,x=>x
 |d::ds,vs,x=>by
  simp only[aq] at x |-;obtain⟨v,r,e,Z,Y⟩:=x;exact⟨v,r,e,h d v Z,Le.all h Y⟩
theorem aq.length:∀{ds:List D} {vs:List V},aq K w ds vs->ds.length=vs.length
 | [],vs,h=>by
  have e:vs=[]:=h;subst e;rfl
 |d::ds,vs,h=>by
  obtain⟨v,r,e,_,Z⟩:=h;subst e;simp[aq.length Z]
theorem aq.get':∀{ds:List D} {vs:List V},aq K w ds vs->∀(i:Nat) d,ds[i]?=some d->∃v,vs[i]?=some v/\DV K w d v
 | [],vs,h,i,d,e=>by simp at e
 |d::ds,vs,h,i,Z,e=>by
  obtain⟨u,r,Y,X,W⟩:=h;subst Y
  cases i with
  |zero =>
   have:d=Z:=by simpa using e
   subst this;exact⟨u,rfl,X⟩
  |succ i=>exact aq.get' W i Z (by simpa using e)
theorem aq.append:∀{ds es:List D} {vs ws:List V},aq K w ds vs->aq K w es ws->aq K w (ds++es) (vs++ws)
 | [],es,vs,ws,h,Z=>by
  have e:vs=[]:=h;subst e;exact Z
 |d::ds,es,vs,ws,h,Z=>by
  obtain⟨v,r,e,Y,X⟩:=h;subst e;exact⟨v,r++ws,rfl,Y,aq.append X Z⟩
theorem aq.take:∀{ds:List D} {vs:List V} (n:Nat),aq K w ds vs->aq K w (ds.take n) (vs.take n)
 | [],vs,n,h=>by
  have e:vs=[]:=h;subst e;simp[aq]
 |d::ds,vs,0,h=>by simp[aq]
 |d::ds,vs,n+1,h=>by
  obtain⟨v,r,e,Z,Y⟩:=h;subst e;exact⟨v,r.take n,rfl,Z,aq.take n Y⟩
theorem aq.drop:∀{ds:List D} {vs:List V} (n:Nat),aq K w ds vs->aq K w (ds.drop n) (vs.drop n)
 | [],vs,n,h=>by
  have e:vs=[]:=h;subst e;simp[aq]
 |d::ds,vs,0,h=>h
 |d::ds,vs,n+1,h=>by
  obtain⟨v,r,e,Y,Z⟩:=h;subst e;exact aq.drop n Z
theorem aq.set (hd:DV K w d v):∀{ds:List D} {vs:List V} (i:Nat),aq K w ds vs->aq K w (ds.set i d) (vs.set i v)
 | [],vs,i,h=>by
  have e:vs=[]:=h;subst e;simp[aq]
 |d'::ds,vs,0,h=>by
  obtain⟨u,r,e,Y,Z⟩:=h;subst e;exact⟨v,r,rfl,hd,Z⟩
 |d'::ds,vs,i+1,h=>by
  obtain⟨u,r,e,Y,Z⟩:=h;subst e;exact⟨u,r.set i v,rfl,Y,aq.set hd i Z⟩
def aq.one (h:DV K w d v):aq K w [d] [v]:=⟨v,[],rfl,h,rfl⟩
def aq.two (h:DV K w d v) (h':DV K w d' v'):aq K w [d,d'] [v,v']:=⟨v,_,rfl,h,aq.one h'⟩
theorem aq.ints:∀(ns:List Int),aq K w (ns.map D.int) (ns.map V.int)
 | []=>rfl
 |n::ns=>⟨.int n,_,rfl,rfl,aq.ints ns⟩
theorem aq.Br:∀{ns:List Int} {vs:List V},aq K w (ns.map D.int) vs->vs=ns.map V.int
 | [],_,h=>h
 |n::ns,vs,h=>by
  obtain⟨v,r,e,Z,Y⟩:=h;have e1:v=.int n:=Z;rw[e,e1,aq.Br Y];rfl
theorem aq.Ca:∀{bs:List Bool} {vs:List V},aq K w (bs.map D.bl) vs->vs=bs.map V.bl
 | [],_,h=>h
 |n::X,vs,h=>by
  obtain⟨v,r,e,Z,Y⟩:=h;have e1:v=.bl n:=Z;rw[e,e1,aq.Ca Y];rfl
def DX (a:ä) (es:List (Int×ä)) (h:œ):Prop:=(a==Ŧ)=false/\∃(o:Obj) (Z:Array DictEntry) (Y:Nat),h.get? a=some o/\o.ExactDict/\o.data=.dict Z Y/\Z.toList=es.map λp=>(⟨p.1,.ref p.2,.bool true⟩:DictEntry)
def Zj (w:Wd) (q:Str) (cv:Ç):Prop:=∃Y X W t,cv=.ref Y/\(¬ w.Z Y/\w.H Y=some (.bS X (.own Y)))/\X.data=.fields W/\W[1]?=some (.str q t)
def aaO (K:ĥ) (w:Wd) (a:ä) (x:Str):Prop:=∃c Z,PySem.W.tabIn K x=some (c,a)/\w.H a=some (.lZ Z)/\PySem.TriplesOk Z.toList/\∀pos Y,PySem.codeAmong pos Z.toList=some Y->Zj w (x++".<locals>."++"<lambda>") Y
def rY (K:ĥ) (w:Wd) (a:ä):Cell->Prop
 | .dead=>True
 | .lst U=>∃W,w.H a=some (.lst W)/\aq K w U W
 | .dK Z=>∃Y:List (Key×V),w.H a=some (.dK Y)/\Y.map (·.1)=Z.map (·.1)/\aq K w (Z.map (·.2)) (Y.map (·.2))
 | .dT Z=>∃as:List ä,w.H a=some (.ext (DX a ((Z.map (·.2)).zip as)))/\aq K w (Z.map (·.1)) (as.map V.ref)/\(Z.map (·.1)).Nodup
 | .tb x=>aaO K w a x
 | .ins c fs=>∃(C T:ä) (X:List (Str×V)),ù K â c=some (some (.ref C))/\w.H a=some (.ins C T X)/\X.map (·.1)=fs.map (·.1)/\aq K w (fs.map (·.2)) (X.map (·.2))
structure aL (K:ĥ) (w:Wd):Prop where
 len:w.ρ.length=w.aD.length
 nd:w.ρ.Nodup
 there:∀(k:Nat) a,w.ρ[k]?=some a->w.H a≠none
 cell:∀(k:Nat) a c,w.ρ[k]?=some a->w.aD[k]?=some c->rY K w a c
theorem rY.le (h:rY K w a c) (le:Le K w w') (e:c≠.dead->w'.H a=w.H a):rY K w' a c:=by
 cases c with
 |dead=>trivial
 |lst I =>
  obtain⟨R,Z,Y⟩:=h;exact⟨R,(e (by intro z;cases z)).trans Z,le.all Y⟩
 |dK Q =>
  obtain⟨P,Z,Y,X⟩:=h;exact⟨P,(e (by intro z;cases z)).trans Z,Y,le.all X⟩
 |dT Q =>
  obtain⟨as,Z,Y,X⟩:=h;exact⟨as,(e (by intro z;cases z)).trans Z,le.all Y,X⟩
 |tb x =>
  obtain⟨c,O,Z,Y,X,W⟩:=h
  exact⟨c,O,Z,(e (by intro z;cases z)).trans Y,X,λpos N q=>let ⟨U,T,V,t,M,S,L⟩:=W pos N q;⟨U,T,V,t,M,le.bS U T _ S.1 S.2,L⟩⟩
 |ins c fs =>
  obtain⟨C,J,V,Z,Y,X,W⟩:=h;exact⟨C,J,V,Z,(e (by intro z;cases z)).trans Y,X,le.all W⟩
section
variable {K:ĥ} {w:Wd}
def Wd.grow (w:Wd) (p:ä) (o:HO):Wd:={ w with H:=upd w.H p o }
def Rd.grow (hp:H p=none) (h:Rd H a u):Rd (upd H p o) a u:=by
 rcases h with h | ⟨Z,h⟩
 ·exact .inl (by rw[bu (eQ h hp)];exact h)
 ·exact .inr ⟨Z,by rw[bu (eQ h hp)];exact h⟩
theorem bz.grow (hp:H p=none) (h:bz K H a xs):bz K (upd H p o) a xs:=by
 rcases h with h|h
 ·exact .inl (Rd.grow hp h)
 ·exact .inr h
theorem Fw.grow (hp:w.H p=none):Fw K w (w.grow p o) where
 FJ:=λ_ _ e=>e
 tup:=λa Y h=>bz.grow hp h
 lst:=λa Y Z h=>⟨Z,by show upd w.H p o a=_;rw[bu (eQ h hp)];exact h⟩
 bS:=λa X Y Z h=>⟨Z,by show upd w.H p o a=_;rw[bu (eQ h hp)];exact h⟩
 bA:=λa W Z h=>⟨Z,by show upd w.H p o a=_;rw[bu (eQ h hp)];exact h⟩
theorem aL.grow (S:aL K w) (hp:w.H p=none):aL K (w.grow p o) where
 len:=S.len
 nd:=S.nd
 there:=λk a e=>by
  have h:=S.there k a e;show upd w.H p o a≠none;unfold upd;split
  ·intro z;cases z
  ·exact h
 cell:=λk a c e1 e2=>(S.cell k a c e1 e2).le (Fw.grow hp).le λ_=>by
  have h:=S.there k a e1;show upd w.H p o a=w.H a;rw[bu];intro z;rw[z] at h;exact h hp
def Wd.cell (w:Wd) (p:ä) (o:HO) (c:Cell):Wd:=⟨w.ρ++[p],w.aD++[c],upd w.H p o⟩
def Wd.CL (S:aL K w) (h:(w.cell p o c).Z a):w.Z a\/a=p:=by
 obtain⟨k,Y,e1,e2,V⟩:=h;have e1:(w.ρ++[p])[k]?=some a:=e1;have e2:(w.aD++[c])[k]?=some Y:=e2;by_cases X:k<w.ρ.length
 ·rw[ã X] at e1
  rw[ã (by rw[<- S.len];exact X)] at e2;exact .inl ⟨k,Y,e1,e2,V⟩
 ·rw[ă (by omega)] at e1
  right
  cases W:k-w.ρ.length with
  |zero=>rw[W] at e1;exact(adw e1).symm
  |succ j=>rw[W] at e1;cases e1
theorem Fw.cell (S:aL K w) (hp:w.H p=none):Fw K w (w.cell p o c) where
 FJ:=λk a e=>by
  show (w.ρ++[p])[k]?=some a;rw[ã (Æ.mp e).1];exact e
 tup:=λa Y h=>bz.grow hp h
 lst:=λa Y Z h=>⟨λz=>(Wd.CL S z).elim Z (λe=>by (subst e;rw[hp] at h;cases h)),by show upd w.H p o a=_;rw[bu (eQ h hp)];exact h⟩
 bS:=λa X Y Z h=>⟨λz=>(Wd.CL S z).elim Z (λe=>by (subst e;rw[hp] at h;cases h)),by show upd w.H p o a=_;rw[bu (eQ h hp)];exact h⟩
 bA:=λa W Z h=>⟨λz=>(Wd.CL S z).elim Z (λe=>by (subst e;rw[hp] at h;cases h)),by show upd w.H p o a=_;rw[bu (eQ h hp)];exact h⟩
def aL.sr (S:aL K w) (hp:w.H p=none) (hc:rY K (w.cell p o c) p c):aL K (w.cell p o c) where
 len:=by show (w.ρ++[p]).length=(w.aD++[c]).length;simp[S.len]
 nd:=by
  show (w.ρ++[p]).Nodup;rw[ŧ];refine⟨S.nd,by simp,λa W b V=>?_⟩;obtain⟨k,e⟩:=List.getElem?_of_mem W;have h:=S.there k a e;have U:b=p:=by simpa using V
  rw[U];intro z;rw[z] at h;exact h hp
 there:=λk a e=>by
  have e:(w.ρ++[p])[k]?=some a:=e;show upd w.H p o a≠none;unfold upd;split
  ·intro z;cases z
  ·rename_i T
   by_cases Y:k<w.ρ.length
   ·rw[ã Y] at e
    exact S.there k a e
   ·rw[ă (by omega)] at e
    cases Z:k-w.ρ.length with
    |zero=>rw[Z] at e;exact absurd (adw e).symm T
    |succ j=>rw[Z] at e;cases e
 cell:=λk a X e1 e2=>by
  have e1:(w.ρ++[p])[k]?=some a:=e1;have e2:(w.aD++[c])[k]?=some X:=e2;by_cases Y:k<w.ρ.length
  ·rw[ã Y] at e1
   rw[ã (by rw[<- S.len];exact Y)] at e2;refine(S.cell k a X e1 e2).le (Fw.cell S hp).le λ_=>?_;have h:=S.there k a e1;show upd w.H p o a=w.H a;rw[bu];intro z;rw[z] at h;exact h hp
  ·rw[ă (by omega)] at e1
   rw[ă (by rw[<- S.len];omega)] at e2;rw[<- S.len] at e2
   cases Z:k-w.ρ.length with
   |zero =>
    rw[Z] at e1 e2;have e1:p=a:=adw e1;have e2:c=X:=adw e2;subst e1 e2;exact hc
   |succ j=>rw[Z] at e1;cases e1
noncomputable def Wd.same (w:Wd) (H':Hp):Wd:={ w with H:=H' }
theorem Fw.same (e:kB w.H H'):Fw K w (w.same H') :=
 ⟨λ_ _ e=>e,λa Y h=>e.sqT h,λa Y Z h=>⟨Z,e _ _ h⟩,λa o Y Z h=>⟨Z,e _ _ h⟩,λa X Z h=>⟨Z,e _ _ h⟩⟩
theorem aL.same (S:aL K w) (e:kB w.H H'):aL K (w.same H') where
 len:=S.len
 nd:=S.nd
 there:=λk a q=>by
  have h:=S.there k a q;show H' a≠none
  cases Z:w.H a with
  |none=>exact absurd Z h
  |some o=>rw[e _ _ Z];intro z;cases z
 cell:=λk a c e1 e2=>(S.cell k a c e1 e2).le (Fw.same e).le λ_=>by
  have h:=S.there k a e1;show H' a=w.H a
  cases Z:w.H a with
  |none=>exact absurd Z h
  |some o=>exact e _ _ Z
def Wd.put (w:Wd) (k:Nat) (a:ä) (o:HO) (c:Cell):Wd:=⟨w.ρ,w.aD.set k c,upd w.H a o⟩
def HB {α:Type} {l:List α} (nd:l.Nodup) {i j:Nat} {a:α} (h1:l[i]?=some a) (h2:l[j]?=some a):i=j:=by
 exact(List.getElem?_inj (Æ.mp h1).1 nd).mp (h1.trans h2.symm)
def Wd.DC (h0:w.ρ[k]?=some a) (h1:w.aD[k]?=some c0) (h2:c0≠.dead) (h:(w.put k a o c).Z b):w.Z b:=by
 obtain⟨j,Y,e1,e2,W⟩:=h;have e1:w.ρ[j]?=some b:=e1;have e2:(w.aD.set k c)[j]?=some Y:=e2;by_cases X:k=j
 ·subst X
  exact⟨k,c0,e1,h1,h2⟩
 ·rw[ç X] at e2
  exact⟨j,Y,e1,e2,W⟩
theorem Fw.put (S:aL K w) (h0:w.ρ[k]?=some a) (h1:w.aD[k]?=some c0) (h2:c0≠.dead):Fw K w (w.put k a o c):=by
 have W:w.Z a:=⟨k,c0,h0,h1,h2⟩;have T:∀X,¬ Rd w.H a (.tup X):=λX h=>by
  have q:=S.cell k a c0 h0 h1
  cases c0 with
  |dead=>exact h2 rfl
  |lst Q=>obtain⟨V,e,_⟩:=q;rcases h with h | ⟨_,h⟩<;>(rw[e] at h;cases h)
  |dK R=>obtain⟨V,e,_⟩:=q;rcases h with h | ⟨_,h⟩<;>(rw[e] at h;cases h)
  |dT R=>obtain⟨V,e,_⟩:=q;rcases h with h | ⟨_,h⟩<;>(rw[e] at h;cases h)
  |tb x=>obtain⟨_,V,_,e,_⟩:=q;rcases h with h | ⟨_,h⟩<;>(rw[e] at h;cases h)
  |ins c fs=>obtain⟨_,_,_,_,e,_⟩:=q;rcases h with h | ⟨_,h⟩<;>(rw[e] at h;cases h)
 refine⟨λ_ _ e=>e,λb X h=>?_,λb X Y h=>⟨λz=>Y (Wd.DC h0 h1 h2 z),?_⟩,λb U X Y h=>⟨λz=>Y (Wd.DC h0 h1 h2 z),?_⟩,λb P Y h=>⟨λz=>Y (Wd.DC h0 h1 h2 z),?_⟩⟩
 ·rcases h with h|h
  ·have ne:b≠a:=λe=>by subst e;exact T X h
   refine .inl ?_
   rcases h with h | ⟨U,h⟩
   ·exact .inl (by show upd w.H a o b=_;rw[bu ne];exact h)
   ·exact .inr ⟨U,by show upd w.H a o b=_;rw[bu ne];exact h⟩
  ·exact .inr h
 ·have ne:b≠a:=λe=>by subst e;exact Y W
  show upd w.H a o b=_;rw[bu ne];exact h
 ·have ne:b≠a:=λe=>by subst e;exact Y W
  show upd w.H a o b=_;rw[bu ne];exact h
 ·have ne:b≠a:=λe=>by subst e;exact Y W
  show upd w.H a o b=_;rw[bu ne];exact h
def aL.zI {k:Nat} {a:ä} {o:HO} {c c0:Cell} (S:aL K w) (h0:w.ρ[k]?=some a) (h1:w.aD[k]?=some c0) (h2:c0≠.dead) (hc:rY K (w.put k a o c) a c):aL K (w.put k a o c) where
 len:=by show w.ρ.length=(w.aD.set k c).length;rw[ġ];exact S.len
 nd:=S.nd
 there:=λj b e=>by
  show upd w.H a o b≠none;unfold upd;split
  ·intro z;cases z
  ·exact S.there j b e
 cell:=λj b Z e1 e2=>by
  have e1:w.ρ[j]?=some b:=e1;have e2:(w.aD.set k c)[j]?=some Z:=e2;by_cases Y:k=j
  ·subst Y
   rw[h0] at e1;have e1:a=b:=adw e1;rw[ð (Æ.mp h1).1] at e2;have e2:c=Z:=adw e2;subst e1 e2;exact hc
  ·rw[ç Y] at e2
   refine(S.cell j b Z e1 e2).le (Fw.put S h0 h1 h2).le λ_=>?_;show upd w.H a o b=w.H b;rw[bu];intro z;subst z;exact Y (HB S.nd h0 e1)
noncomputable def Wd.freeze (w:Wd) (k:Nat):Wd:={ w with aD:=w.aD.set k .dead }
def Wd.Bs (h:(w.freeze k).Z b):w.Z b:=by
 obtain⟨j,Y,e1,e2,X⟩:=h;have e2:(w.aD.set k .dead)[j]?=some Y:=e2;by_cases W:k=j
 ·subst W
  have V:=(Æ.mp e2).1;rw[ġ] at V;rw[ð V] at e2;exact absurd (adw e2).symm X
 ·rw[ç W] at e2
  exact⟨j,Y,e1,e2,X⟩
theorem Fw.freeze:Fw K w (w.freeze k) :=
 ⟨λ_ _ e=>e,λ_ _ h=>h,λ_ _ Z h=>⟨λz=>Z (Wd.Bs z),h⟩,λ_ _ _ Z h=>⟨λz=>Z (Wd.Bs z),h⟩,λ_ _ Z h=>⟨λz=>Z (Wd.Bs z),h⟩⟩
theorem aL.freeze (S:aL K w):aL K (w.freeze k) where
 len:=by show w.ρ.length=(w.aD.set k .dead).length;rw[ġ];exact S.len
 nd:=S.nd
 there:=S.there
 cell:=λj b Z e1 e2=>by
  have e2:(w.aD.set k .dead)[j]?=some Z:=e2;by_cases Y:k=j
  ·subst Y
   have X:=(Æ.mp e2).1;rw[ġ] at X;rw[ð X] at e2;rw[<- adw e2];trivial
  ·rw[ç Y] at e2
   exact(S.cell j b Z e1 e2).le Fw.freeze.le λ_=>rfl
def Wd.RX {k:Nat} {a:ä} (S:aL K w) (h:w.ρ[k]?=some a):¬ (w.freeze k).Z a:=by
 intro zzz;obtain⟨j,X,e1,e2,W⟩:=zzz;have e1:w.ρ[j]?=some a:=e1;have e2:(w.aD.set k .dead)[j]?=some X:=e2;have V:=HB S.nd h e1;subst V;have Y:=(Æ.mp e2).1;rw[ġ] at Y;rw[ð Y] at e2;exact W (adw e2).symm
end
structure bQ (K:ĥ) (w:Wd) (env:Env) (σ:St):Prop where
 len:env.length=σ.length
 val:∀(i:Nat) d,env[i]?=some (some d)->∃v,σ[i]?=some (some v)/\DV K w d v
theorem bQ.le (h:bQ K w env σ) (le:Le K w w'):bQ K w' env σ :=
 ⟨h.len,λi d e=>by obtain⟨v,e1,e2⟩:=h.val i d e;exact⟨v,e1,le d v e2⟩⟩
theorem bQ.set (h:bQ K w env σ) (hd:DV K w d v) (i:Nat):bQ K w (env.set i (some d)) (σ.set i (some v)):=by
 refine⟨by rw[ġ,ġ];exact h.len,λj X e=>?_⟩;by_cases Z:i=j
 ·subst Z
  have Y:=(Æ.mp e).1;rw[ġ] at Y;rw[ð Y] at e;have e:d=X:=adw (adw e);subst e;exact⟨v,by rw[ð (by rw[<- h.len];exact Y)],hd⟩
 ·rw[ç Z] at e
  rw[ç Z];exact h.val j X e
def Out (K:ĥ) (Ξ:Wd->aQ->Prop) (w:Wd) {α:Type} (r:Res α) (k:Wd->α->Prop):Prop:=match r with
 |none=>False
 |some (.ok a,s)=>∀Z,Le K w Z->aL K Z->Z.aD=s->k Z a
 |some (.error x,s)=>∀Z,Le K w Z->aL K Z->Z.aD=s->Ξ Z x
section
variable {K:ĥ} {Ξ:Wd->aQ->Prop} {w w':Wd} {α β:Type} {r:Res α} {k k':Wd->α->Prop}
def Out.from (h:Out K Ξ w r k) (le:Le K w w'):Out K Ξ w' r k:=by
 unfold Out at h |-
 split<;>simp only at h
 ·exact λZ Y X e2=>h Z (le.trans Y) X e2
 ·exact λZ Y X e2=>h Z (le.trans Y) X e2
def Out.mono (h:Out K Ξ w r k) (hk:∀w2 a,Le K w w2->aL K w2->k w2 a->k' w2 a):Out K Ξ w r k':=by
 unfold Out at h |-
 split<;>simp only at h
 ·exact λw2 Z Y e2=>hk w2 _ Z Y (h w2 Z Y e2)
 ·exact h
theorem Out.ak {q:Wd->β->Prop} (h:Out K Ξ w (DI.ak r g) q):Out K Ξ w r (λw2 a=>Out K Ξ w2 (g a w2.aD) q):=by
 match r,h with
 |some (.ok a,s),h =>
  intro w2 Z Y e2;rw[e2];exact Out.from h Z
 |some (.error x,s),h=>exact h
end
end DI
namespace DI
open PySem L2
def tE (K:ĥ) (Ξ:Wd->aQ->Prop) (f:adq D):TE:=fun σ H Q=>∃w env,w.H=H/\aL K w/\bQ K w env σ/\Out K Ξ w (f env w.aD) λZ d=>∀v,DV K Z d v->Q v Z.H
def tT (K:ĥ) (Ξ:Wd->aQ->Prop) (f:adq Bool):TT:=fun σ H Q=>∃w env,w.H=H/\aL K w/\bQ K w env σ/\Out K Ξ w (f env w.aD) λZ b=>Q b Z.H
def tA (K:ĥ) (Ξ:Wd->aQ->Prop) (f:adq (List D)):TA:=fun σ H Q=>∃w env,w.H=H/\aL K w/\bQ K w env σ/\Out K Ξ w (f env w.aD) λZ X=>∀Y,aq K Z X Y->Q Y Z.H
def rO (K:ĥ) (Ξ:Wd->aQ->Prop) (o:D->D->ae->Res D):R2:=λx y H Q=>∃w Z Y,w.H=H/\aL K w/\DV K w Z x/\DV K w Y y/\Out K Ξ w (o Z Y w.aD) λX d=>∀v,DV K X d v->Q v X.H
def rU (K:ĥ) (Ξ:Wd->aQ->Prop) (o:D->ae->Res D):V->Hp->VK->Prop:=λx H Q=>∃w Z,w.H=H/\aL K w/\DV K w Z x/\Out K Ξ w (o Z w.aD) λY d=>∀v,DV K Y d v->Q v Y.H
def rC (K:ĥ) (Ξ:Wd->aQ->Prop) (o:List D->ae->Res D):List V->Hp->VK->Prop:=λX H Q=>∃w Z,w.H=H/\aL K w/\aq K w Z X/\Out K Ξ w (o Z w.aD) λY d=>∀v,DV K Y d v->Q v Y.H
def aa (i:Nat):adq D:=λenv s=>match env[i]? with
 |some (some d)=>ok d s
 |_=>none
def eC (d:D):adq D:=λ_ s=>ok d s
def e1 (o:D->ae->Res D) (f:adq D):adq D:=λenv s=>ak (f env s) λx s=>o x s
def e2 (o:D->D->ae->Res D) (f g:adq D):adq D:=λenv s=>ak (f env s) λx s=>ak (g env s) λy s=>o x y s
def ah:adq (List D):=λ_ s=>ok [] s
def af (f:adq D) (g:adq (List D)):adq (List D):=λenv s=>ak (f env s) λx s=>ak (g env s) λZ s=>ok (x::Z) s
def eB (o:List D->ae->Res D) (f:adq (List D)):adq D:=λenv s=>ak (f env s) λZ s=>o Z s
noncomputable def gZ {α:Type} (ds:List D) (r:Res α):Res α:=if ds.length<=Ø then r else none
def cg (f:adq (List D)):adq D:=λenv s=>ak (f env s) λZ s=>gZ Z (ok (.tup Z) s)
def eY (f:adq (List D)):adq D:=λenv s=>ak (f env s) λZ s=>gZ Z (ok (.lst Z) s)
def eNew (f:adq (List D)):adq D:=λenv s=>ak (f env s) λZ s=>gZ Z (ok (.ai s.length) (s++[.lst Z]))
def bS:D->ae->Res D:=λd s=>match d with
 | .ai k=>match s[k]? with
  |some (.lst Z)=>ok (.lst Z) (s.set k .dead)
  |_=>none
 |_=>none
def oo (f:adq D):adq D:=λenv s=>ak (f env s) bS
def ix (d:D) (s:ae):Res Bool:=match d with
 | .bl b=>ok b s
 |_=>none
def aY (f:adq D):adq Bool:=λenv s=>ak (f env s) ix
def truth (d:D) (s:ae):Res Bool:=match d with
 | .ax=>ok false s
 | .bl b=>ok b s
 | .int i=>ok (i != 0) s
 | .str x=>if x.length<=Ø then ok ((x.length:Int) != 0) s else none
 | .tup Z=>ok (!Z.isEmpty) s
 | .lst Z=>ok (!Z.isEmpty) s
 | .bA Y=>ok (!Y.isEmpty) s
 | .ai k=>match s[k]? with
  |some (.lst Z)=>ok (!Z.isEmpty) s
  |some (.dK Y)=>ok (!Y.isEmpty) s
  |_=>none
 | .ty _=>none
 | .bV _=>none
 | .exc _ _=>none
 | .cN _ _ _=>none
def cx (f:adq D):adq Bool:=λenv s=>ak (f env s) truth
def ei (f g:adq Bool):adq Bool:=λenv s=>ak (f env s) λb s=>if b=true then g env s else ok false s
def ie (f g:adq Bool):adq Bool:=λenv s=>ak (f env s) λb s=>if b=true then ok true s else g env s
def fm (f:adq Bool):adq Bool:=λenv s=>ak (f env s) λb s=>ok (!b) s
def cH (f g:adq D):adq D:=λenv s=>ak (f env s) λx s=>ak (ix x s) λb s=>if b=true then g env s else ok (.bl false) s
def l9 (f g:adq D):adq D:=λenv s=>ak (f env s) λx s=>ak (ix x s) λb s=>if b=true then ok (.bl true) s else g env s
def sQ (f:adq D):adq D:=λenv s=>ak (f env s) λx s=>ak (ix x s) λb s=>ok (.bl (!b)) s
def Al (c:adq Bool) (f g:adq D):adq D:=λenv s=>ak (c env s) λb s=>if b=true then f env s else g env s
def tO (o o':D->D->ae->Res D) (f g h:adq D):adq D:=λenv s=>ak (f env s) λx s=>ak (g env s) λy s=>ak (o x y s) λz s=>ak (ix z s) λb s =>
 if b=true then ak (h env s) λu s=>o' y u s else ok (.bl false) s
section
variable {X:Cx} {Ξ:Wd->aQ->Prop} {e a b c:ľ} {es rest:List ľ} {pos:Pos} {f g h:adq D} {fa:adq (List D)} {ft gt:adq Bool}
def cb {t t':TE} (h:PE X e t) (i:∀ σ H Q,t' σ H Q->t σ H Q):PE X e t':=λZ s σ H Q I Y=>h Z s σ H Q I (i σ H Q Y)
def CM {t t':TT} (h:PT X e t) (i:∀ σ H Q,t' σ H Q->t σ H Q):PT X e t':=λZ s σ H Q I Y=>h Z s σ H Q I (i σ H Q Y)
def LA {t t':TT} (h:PW X e t) (i:∀ σ H Q,t' σ H Q->t σ H Q):PW X e t':=λZ Y s σ H Q I W=>h Z Y s σ H Q I (i σ H Q W)
def LB {t t':TA} (h:PA X es t) (i:∀ σ H Q,t' σ H Q->t σ H Q):PA X es t':=λp Z s σ H Q I Y=>h p Z s σ H Q I (i σ H Q Y)
def jP (h:PS X st t) (i:∀D σ H,t' D σ H->t D σ H):PS X st t':=λZ s σ H D I Y=>h Z s σ H D I (i D σ H Y)
def Km (h:dj X st t) (i:∀D σ H,t' D σ H->t D σ H):dj X st t':=λZ s σ H D I Y=>h Z s σ H D I (i D σ H Y)
def aI {α:Type} {K:ĥ} {w:Wd} {a:α} {k:Wd->α->Prop} (S:aL K w) (h:Out K Ξ w (ok a w.aD) k):k w a:=h w (Le.refl w) S rfl
def ag (i:Nat) {x:Str} (hN:X.N[i]?=some x:=by rfl) (hv:qk X.env.scope x:=by first|exact Or.inl rfl|exact Or.inr (Or.inl rfl)|exact Or.inr (Or.inr rfl)) (hd:(x==("__debug__":Str))=false:=by decide)
  (gy:(x==("__classdict__":Str))=false:=by decide):PE X (.Name x pos) (tE X.K Ξ (aa i)):=cb (Lm hN hv hd gy) fun σ H Q Z=>by
 obtain⟨w,env,Y,S,W,h⟩:=Z;unfold aa at h;split at h
 ·rename_i d V
  obtain⟨v,e1,e2⟩:=W.val i d V;subst Y;exact⟨v,e1,aI S h v e2⟩
 ·exact h.elim
def vv {d:D} {v:V} (h:PE X e (tC v)) (hd:∀w,DV X.K w d v):PE X e (tE X.K Ξ (eC d)):=cb h fun σ H Q Z=>by
 obtain⟨w,env,Y,S,W,h⟩:=Z;subst Y;exact aI S h v (hd w)
def az {i j}:PE X (.Constant (.int i) j pos) (tE X.K Ξ (eC (.int i))):=vv WU λ_=>rfl
def fE {b j}:PE X (.Constant (.bool b) j pos) (tE X.K Ξ (eC (.bl b))):=vv YE λ_=>rfl
def ko {x j}:PE X (.Constant (.str x) j pos) (tE X.K Ξ (eC (.str x))):=vv WV λ_=>rfl
def yB (σ:St) (H:Hp) (Q:VK):tE K Ξ (e2 o f g) σ H Q->wA (rO K Ξ o) (tE K Ξ f) (tE K Ξ g) σ H Q:=by
 intro zzz;obtain⟨w,env,rfl,S,Z,h⟩:=zzz;exact⟨w,env,rfl,S,Z,(Out.ak h).mono λY x X W V v1 U=>⟨Y,env,rfl,W,Z.le X,(Out.ak V).mono λT y R P O v2 N=>⟨T,x,y,rfl,P,R _ _ U,N,O⟩⟩⟩
def bG (ho:bp X (ś op) (rO X.K Ξ o)) (ha:PE X a (tE X.K Ξ f)) (hb:PE X b (tE X.K Ξ g)):PE X (.BinOp a op b pos) (tE X.K Ξ (e2 o f g)):=cb (YO ho ha hb) yB
def fj (ho:bp X (ě op) (rO X.K Ξ o)) (ha:PE X a (tE X.K Ξ f)) (hb:PE X b (tE X.K Ξ g)) (hm:ab0 op b=false):PE X (.Compare a [op] [b] pos) (tE X.K Ξ (e2 o f g)):=cb (U6 ho ha hb hm) yB
def XB {K:ĥ} (σ:St) (H:Hp) (Q:Bool->Hp->Prop):tT K Ξ (aY f) σ H Q->zh (tE K Ξ f) σ H Q:=by
 intro zzz;obtain⟨w,env,rfl,S,Y,h⟩:=zzz;refine⟨w,env,rfl,S,Y,(Out.ak h).mono λV x U X Z v1 W=>?_⟩
 cases x with
 |bl b =>
  have e:v1=.bl b:=W;exact⟨b,e,aI X Z⟩
 |_=>exact Z.elim
def QW (i:∀ σ H Q,t' σ H Q->t σ H Q) (σ:St) (H:Hp) (Q:Bool->Hp->Prop):zh t' σ H Q->zh t σ H Q:=λh=>i _ _ _ h
def bx (ho:bp X (ě op) (rO X.K Ξ o)) (ha:PE X a (tE X.K Ξ f)) (hb:PE X b (tE X.K Ξ g)) (hm:ab0 op b=false):PT X (.Compare a [op] [b] pos) (tT X.K Ξ (aY (e2 o f g))) :=
 CM (U7 ho ha hb hm) fun σ H Q h=>QW yB σ H Q (XB σ H Q h)
def XC {K:ĥ} {o o':D->D->ae->Res D} (σ:St) (H:Hp) (Q:VK):tE K Ξ (tO o o' f g h) σ H Q->Lq (rO K Ξ o) (rO K Ξ o') (tE K Ξ f) (tE K Ξ g) (tE K Ξ h) σ H Q:=by
 intro zzz;obtain⟨w,env,rfl,S,Y,h⟩:=zzz;refine⟨w,env,rfl,S,Y,(Out.ak h).mono λP x W O N v1 M=>⟨P,env,rfl,O,Y.le W,(Out.ak N).mono λL y V J I v2 U=>⟨L,x,y,rfl,J,V _ _ M,U,(Out.ak I).mono λG z T X F E C=>?_⟩⟩⟩;have R:=Out.ak F
 cases z with
 |bl b =>
  have e:E=.bl b:=C;have Z:=aI X R;refine⟨b,e,?_⟩
  cases b with
  |true =>
   rw[Þ rfl] at Z |-;exact⟨G,env,rfl,X,Y.le (W.trans (V.trans T)),(Out.ak Z).mono λB u A v t v4 s=>⟨B,y,u,rfl,v,(T.trans A) _ _ U,s,t⟩⟩
  |false =>
   rw[å Ö] at Z |-;exact aI X Z _ rfl
 |_=>exact R.elim
def Ko (ho:bp X (ě op) (rO X.K Ξ o)) (gw:bp X (ě tG) (rO X.K Ξ o')) (ha:PE X a (tE X.K Ξ f)) (hb:PE X b (tE X.K Ξ g)) (hc:PE X c (tE X.K Ξ h))
 (hm:lastMarks [op,tG] [b,c]=false:=by with_unfolding_all rfl):PE X (.Compare a [op,tG] [b,c] pos) (tE X.K Ξ (tO o o' f g h)):=cb (Tc ho gw ha hb hc hm) XC
def sR (ho:wz X (unaryOp op) (rU X.K Ξ o)) (ha:PE X a (tE X.K Ξ f)):PE X (.UnaryOp op a pos) (tE X.K Ξ (e1 o f)):=cb (YQ ho ha) fun σ H Q Z=>by
 obtain⟨w,env,Y,S,W,h⟩:=Z;subst Y;exact⟨w,env,rfl,S,W,(Out.ak h).mono λV x P U T v1 R=>⟨V,x,rfl,U,R,T⟩⟩
def cA:PA X [] (tA X.K Ξ ah):=LB nW fun σ H Q Z=>by
 obtain⟨w,env,Y,S,W,h⟩:=Z;subst Y;exact aI S h _ rfl
def aX (ha:PE X e (tE X.K Ξ f)) (hr:PA X es (tA X.K Ξ fa)) (hs:ß (e::es) X.env=(false,ţ e X.env)::ß es X.env:=by rfl):PA X (e::es) (tA X.K Ξ (af f fa)):=LB (nO ha hr hs) fun σ H Q Y=>by
 obtain⟨w,env,W,S,Z,h⟩:=Y;subst W;exact⟨w,env,rfl,S,Z,(Out.ak h).mono λV x U T R v1 P=>⟨V,env,rfl,T,Z.le U,(Out.ak R).mono λI G O N M L J=>aI N M _ ⟨v1,L,rfl,O _ _ P,J⟩⟩⟩
def pd {α:Type} {K:ĥ} {w:Wd} {ds:List D} {r:Res α} {k:Wd->α->Prop} (h:Out K Ξ w (gZ ds r) k):ds.length<=Ø/\Out K Ξ w r k:=by
 unfold gZ at h;split at h
 ·exact⟨by assumption,h⟩
 ·exact h.elim
def cX {x1} (ha:PA X es (tA X.K Ξ fa)):PE X (.Tuple es x1 pos) (tE X.K Ξ (cg fa)):=cb (Xj ha) fun σ H Q V=>by
 obtain⟨w,env,U,S,T,h⟩:=V;subst U;refine⟨w,env,rfl,S,T,(Out.ak h).mono λR L J P O Y W=>?_⟩;obtain⟨N,M⟩:=pd O;refine⟨by rw[<- W.length];exact N,λp Z=>?_⟩;exact M (R.grow p (.tup Y)) (Fw.grow Z).le (P.grow Z) rfl (.ref p) ⟨p,Y,rfl,bz.of cW,(Fw.grow Z).le.all W⟩
def pC {K:ĥ} {w:Wd} {p:ä} (S:aL K w) (hp:w.H p=none):¬ w.Z p:=λ⟨k,c,e1,_,_⟩=>S.there k p e1 hp
def hU (ha:PA X es (tA X.K Ξ fa)):PE X (.List es pos) (tE X.K Ξ (eY fa)):=cb (Lu ha) fun σ H Q R=>by
 obtain⟨w,env,P,S,O,h⟩:=R;subst P;refine⟨w,env,rfl,S,O,(Out.ak h).mono λW J I V N U T=>?_⟩;obtain⟨M,L⟩:=pd N;refine⟨by rw[<- T.length];exact M,λp Y=>?_⟩;exact L (W.grow p (.lst U)) (Fw.grow Y).le (V.grow Y) rfl (.ref p) ⟨p,U,rfl,⟨(show ¬ W.Z p from pC V Y),cW⟩,(Fw.grow Y).le.all T⟩
def jS (ha:PA X es (tA X.K Ξ fa)):PE X (.List es pos) (tE X.K Ξ (eNew fa)):=cb (Lu ha) fun σ H Q R=>by
 obtain⟨w,env,P,S,O,h⟩:=R;subst P;refine⟨w,env,rfl,S,O,(Out.ak h).mono λZ V J Y N W U=>?_⟩;obtain⟨M,L⟩:=pd N;refine⟨by rw[<- U.length];exact M,λp T=>?_⟩;have le:=(Fw.cell (o:=.lst W) (c:=.lst V) Y T).le;refine L (Z.cell p (.lst W) (.lst V)) le (Y.sr T ⟨W,cW,le.all U⟩) rfl (.ref p) ⟨p,?_,rfl⟩;show (Z.ρ++[p])[Z.aD.length]?=some p;rw[<- Y.len];simp
def DD (ha:PE X a (tE X.K Ξ f)):PE X a (tE X.K Ξ (oo f)):=cb ha fun σ H Q W=>by
 obtain⟨w,env,V,S,U,h⟩:=W;subst V;refine⟨w,env,rfl,S,U,(Out.ak h).mono λT x L Y Z v1 R=>?_⟩;unfold bS at Z;split at Z
 ·rename_i k
  split at Z
  ·rename_i J P
   obtain⟨p,e1,e2⟩:=R;obtain⟨O,N,M⟩:=Y.cell k p _ e1 P;exact Z (T.freeze k) Fw.freeze.le Y.freeze rfl v1 ⟨p,O,e2,⟨Wd.RX Y e1,N⟩,Fw.freeze.le.all M⟩
  ·exact Z.elim
 ·exact Z.elim
theorem pX.of {K:ĥ} {w:Wd} {d:D} {v:V} {k:Wd->Bool->Prop} (S:aL K w) (hd:DV K w d v) (h:Out K Ξ w (truth d w.aD) k):∃b,pX K v w.H b/\k w b:=by
 cases d with
 |ax=>have e:v=.ax:=hd;subst e;exact⟨_,rfl,aI S h⟩
 |bl b=>have e:v=.bl b:=hd;subst e;exact⟨_,rfl,aI S h⟩
 |int i=>have e:v=.int i:=hd;subst e;exact⟨_,rfl,aI S h⟩
 |str x =>
  have e:v=.str x:=hd;subst e;unfold truth at h
  split at h<;>first|contradiction|skip
  all_goals (rename_i e;cases e)
  split at h
  ·exact⟨_,⟨by assumption,rfl⟩,aI S h⟩
  ·exact h.elim
 |tup Y =>
  simp only[DV] at hd;obtain⟨a,Z,rfl,X,r⟩:=hd;refine⟨_,.inr (.inl ⟨Z,X,?_⟩),aI S h⟩;have e:=r.length
  cases Y<;>cases Z<;>first|rfl|cases e
 |lst Y =>
  simp only[DV] at hd;obtain⟨a,Z,rfl,X,r⟩:=hd;refine⟨_,.inl ⟨Z,X.sq,?_⟩,aI S h⟩;have e:=r.length
  cases Y<;>cases Z<;>first|rfl|cases e
 |bA W =>
  simp only[DV] at hd;obtain⟨a,rfl,_,X⟩:=hd;refine⟨_,.inr (.inr ⟨_,X,?_⟩),aI S h⟩
  cases W<;>rfl
 |ai j =>
  simp only[DV] at hd;obtain⟨a,e1,rfl⟩:=hd;simp only[truth] at h;split at h
  ·rename_i Y U
   obtain⟨Z,T,R⟩:=S.cell j a _ e1 U;refine⟨_,.inl ⟨Z,bh.of T,?_⟩,aI S h⟩;have e:=R.length
   cases Y<;>cases Z<;>first|rfl|cases e
  ·rename_i W U
   obtain⟨es,T,R,Q⟩:=S.cell j a _ e1 U;refine⟨_,.inr (.inr ⟨es,T,?_⟩),aI S h⟩;have e:=Ķ List.length R
   cases W<;>cases es<;>first|rfl|simp at e
  ·exact h.elim
 |ty n=>exact h.elim
 |bV P=>exact h.elim
 |exc o _=>exact h.elim
 |cN o _ _=>exact h.elim
def dA (ha:PE X a (tE X.K Ξ f)) (he:∀whole,isTrue a X.env whole=(do let v <- whole;abO a.pos;abj [v] (truthy v)):=by intro _;rfl):PT X a (tT X.K Ξ (cx f)):=CM (Td ha he) fun σ H Q Z=>by
 obtain⟨w,env,Y,S,W,h⟩:=Z;subst Y;exact⟨w,env,rfl,S,W,(Out.ak h).mono λR x P V U v1 T=>pX.of V T U⟩
def ip (ha:PT X a (tT X.K Ξ ft)):PT X (.UnaryOp .Not a pos) (tT X.K Ξ (fm ft)):=CM (WY ha) fun σ H Q Z=>by
 obtain⟨w,env,Y,S,W,h⟩:=Z;subst Y;exact⟨w,env,rfl,S,W,(Out.ak h).mono λT b R V U=>aI V U⟩
def ji (ha:PT X a (tT X.K Ξ ft)):PW X (.BoolOp .And [a] pos) (tT X.K Ξ ft):=U1 ha
def mO (ha:PT X a (tT X.K Ξ ft)):PW X (.BoolOp .Or [a] pos) (tT X.K Ξ ft):=WW ha
def w_and (ha:PT X a (tT X.K Ξ ft)) (hb:PW X (.BoolOp .And (b::rest) pos) (tT X.K Ξ gt)):PW X (.BoolOp .And (a::b::rest) pos) (tT X.K Ξ (ei ft gt)):=LA (WX ha hb) fun σ H Q V=>by
 obtain⟨w,env,U,S,Z,h⟩:=V;subst U;refine⟨w,env,rfl,S,Z,(Out.ak h).mono λT b R Y W=>?_⟩
 cases b with
 |true=>exact⟨T,env,rfl,Y,Z.le R,W⟩
 |false=>exact aI Y W
def w_or (ha:PT X a (tT X.K Ξ ft)) (hb:PW X (.BoolOp .Or (b::rest) pos) (tT X.K Ξ gt)):PW X (.BoolOp .Or (a::b::rest) pos) (tT X.K Ξ (ie ft gt)):=LA (YF ha hb) fun σ H Q V=>by
 obtain⟨w,env,U,S,Z,h⟩:=V;subst U;refine⟨w,env,rfl,S,Z,(Out.ak h).mono λT b R Y W=>?_⟩
 cases b with
 |false=>exact⟨T,env,rfl,Y,Z.le R,W⟩
 |true=>exact aI Y W
def fk {op} (ha:PE X a (tE X.K Ξ f)):PE X (.BoolOp op [a] pos) (tE X.K Ξ f):=WZ ha
def Cb {K:ĥ} {w:Wd} {d:D} {v:V} {k:Wd->Bool->Prop} (S:aL K w) (hd:DV K w d v) (h:Out K Ξ w (ix d w.aD) k):∃b,v=.bl b/\k w b:=by
 cases d with
 |bl b=>exact⟨b,hd,aI S h⟩
 |_=>exact h.elim
def dO (ha:PE X a (tE X.K Ξ f)) (hb:PE X (.BoolOp .And (b::rest) pos) (tE X.K Ξ g)):PE X (.BoolOp .And (a::b::rest) pos) (tE X.K Ξ (cH f g)):=cb (W0 ha hb) fun σ H Q V=>by
 obtain⟨w,env,U,S,Y,h⟩:=V;subst U;refine⟨w,env,rfl,S,Y,(Out.ak h).mono λT x R Z P v1 O=>?_⟩;obtain⟨b,e,W⟩:=Cb Z O (Out.ak P);refine⟨b,e,?_⟩
 cases b with
 |true=>exact⟨T,env,rfl,Z,Y.le R,W⟩
 |false=>exact aI Z W _ rfl
def vO (ha:PE X a (tE X.K Ξ f)) (hb:PE X (.BoolOp .Or (b::rest) pos) (tE X.K Ξ g)):PE X (.BoolOp .Or (a::b::rest) pos) (tE X.K Ξ (l9 f g)):=cb (YI ha hb) fun σ H Q V=>by
 obtain⟨w,env,U,S,Y,h⟩:=V;subst U;refine⟨w,env,rfl,S,Y,(Out.ak h).mono λT x R Z P v1 O=>?_⟩;obtain⟨b,e,W⟩:=Cb Z O (Out.ak P);refine⟨b,e,?_⟩
 cases b with
 |false=>exact⟨T,env,rfl,Z,Y.le R,W⟩
 |true=>exact aI Z W _ rfl
def DE (ha:PE X a (tE X.K Ξ f)):PE X (.UnaryOp .Not a pos) (tE X.K Ξ (sQ f)):=cb (W4 ha) fun σ H Q Y=>by
 obtain⟨w,env,W,S,V,h⟩:=Y;subst W;refine⟨w,env,rfl,S,V,(Out.ak h).mono λP x O Z U v1 T=>?_⟩;obtain⟨b,e,R⟩:=Cb Z T (Out.ak U);exact⟨b,e,aI Z R _ rfl⟩
def aaP (hc:PT X c (tT X.K Ξ ft)) (ha:PE X a (tE X.K Ξ f)) (hb:PE X b (tE X.K Ξ g)):PE X (.IfExp c a b pos) (tE X.K Ξ (Al ft f g)):=cb (S9 hc ha hb) fun σ H Q T=>by
 obtain⟨w,env,R,S,Z,h⟩:=T;subst R;refine⟨w,env,rfl,S,Z,(Out.ak h).mono λY b W V U=>?_⟩
 cases b with
 |true=>exact⟨Y,env,rfl,V,Z.le W,U⟩
 |false=>exact⟨Y,env,rfl,V,Z.le W,U⟩
def LC (σ:St) (H:Hp) (Q:VK):tE K Ξ (eB o fa) σ H Q->Fm (rC K Ξ o) (tA K Ξ fa) σ H Q:=by
 intro zzz;obtain⟨w,env,rfl,S,Z,h⟩:=zzz;exact⟨w,env,rfl,S,Z,(Out.ak h).mono λY X T W V R U=>⟨Y,X,rfl,W,U,V⟩⟩
def bt {x:Str} {p:Pos} {id:String} {o:List D->ae->Res D} (hc:cT X (.builtin id) (rC X.K Ξ o)) (hg:Gl X x) (hm:X.mg x=none) (hv:ć x=some (.builtin id)) (ha:PA X (e::es) (tA X.K Ξ fa)) (hn:x≠"__name__":=by decide) (gB:(x==("__debug__":Str))=false:=by decide)
  (he:ß (e::es) X.env=(false,ţ e X.env)::ß es X.env:=by rfl) (bU:(ũ pos (ß es X.env)).any (·.1)=false:=by rfl):PE X (.Call (.Name x p) (e::es) [] pos) (tE X.K Ξ (eB o fa)):=cb (Bp hc hg hm hv ha hn gB he bU) LC
def jN {x:Str} {p:Pos} {T:String} {o:List D->ae->Res D} (hc:cT X (.type T) (rC X.K Ξ o)) (hg:Gl X x) (hm:X.mg x=none) (hv:ć x=some (.type T)) (ha:PA X (e::es) (tA X.K Ξ fa)) (hn:x≠"__name__":=by decide) (gB:(x==("__debug__":Str))=false:=by decide)
  (he:ß (e::es) X.env=(false,ţ e X.env)::ß es X.env:=by rfl) (bU:(ũ pos (ß es X.env)).any (·.1)=false:=by rfl):PE X (.Call (.Name x p) (e::es) [] pos) (tE X.K Ξ (eB o fa)):=cb (yf hc hg hm hv ha hn gB he bU) LC
end
set_option genInjectivity true in
inductive Fl where
 |nx (env:Env)|rt (d:D)|bk (env:Env)|ct (env:Env)
def vQ (K:ĥ) (D:Ends) (w:Wd):Fl->Prop
 | .nx env=>∀ σ,bQ K w env σ->D.nx σ w.H
 | .rt d=>∀v,DV K w d v->D.rt v w.H
 | .bk env=>∀ σ,bQ K w env σ->D.bk σ w.H
 | .ct env=>∀ σ,bQ K w env σ->D.ct σ w.H
def tS (K:ĥ) (Ξ:Wd->aQ->Prop) (f:adq Fl):TS:=λD σ H=>∃w env,w.H=H/\aL K w/\bQ K w env σ/\Out K Ξ w (f env w.aD) (vQ K D)
def bM:adq Fl:=λenv s=>ok (.nx env) s
def ay (f g:adq Fl):adq Fl:=λenv s=>ak (f env s) λfl s=>match fl with
 | .nx env=>g env s
 |fl=>ok fl s
def aM (f:adq D):adq Fl:=λenv s=>ak (f env s) λd s=>ok (.rt d) s
def cB (f:adq D):adq Fl:=λenv s=>ak (f env s) λ_ s=>ok (.nx env) s
def bE (c:adq Bool) (f g:adq Fl):adq Fl:=λenv s=>ak (c env s) λb s=>if b=true then f env s else g env s
def Mp:adq Fl:=λenv s=>ok (.ct env) s
def aZ (f:adq D) (g:D->Env->Option Env):adq Fl:=λenv s=>ak (f env s) λd s=>match g d env with
 |some Z=>ok (.nx Z) s
 |none=>none
noncomputable def gN (i:Nat):D->Env->Option Env:=λd env=>some (env.set i (some d))
noncomputable def hW:List (D->Env->Option Env)->List D->Env->Option Env
 | [],[],env=>some env
 |g::Z,d::Y,env=>match g d env with
  |some X=>hW Z Y X
  |none=>none
 |_,_,_=>none
def gT (gs:List (D->Env->Option Env)):D->Env->Option Env:=λd env=>match d with
 | .tup Z=>hW gs Z env
 |_=>none
def lH (g:D->Env->Option Env) (b:adq Fl):List D->adq Fl
 | [],env,s=>ok (.nx env) s
 |d::Z,env,s=>match g d env with
  |none=>none
  |some Y=>ak (b Y s) λX s=>match X with
   | .nx e=>lH g b Z e s
   | .ct e=>lH g b Z e s
   | .bk e=>ok (.nx e) s
   | .rt d=>ok (.rt d) s
def fW (it:adq (List D)) (g:D->Env->Option Env) (b:adq Fl):adq Fl:=λenv s=>ak (it env s) λZ s=>lH g b Z env s
def n5 (c:adq Bool) (b:adq Fl):Nat->adq Fl
 |0,_,_=>none
 |n+1,env,s=>ak (c env s) λt s=>if t=true then ak (b env s) λZ s=>match Z with
   | .nx e=>n5 c b n e s
   | .ct e=>n5 c b n e s
   | .bk e=>ok (.nx e) s
   | .rt d=>ok (.rt d) s
  else ok (.nx env) s
def zJ (n:Nat) (c:adq Bool) (b:adq Fl):adq Fl:=n5 c b n
def ne {α:Type} (r:Res α):Res α:=match r with
 |some (.ok a,s)=>some (.ok a,s)
 |_=>none
@[simp] theorem kq {α:Type} {a:α} {s:ae}:ne (some (.ok a,s))=some (.ok a,s):=rfl
noncomputable def dP (cap:List Nat) (env:Env):Env:=cap.map λj=>(env[j]?).getD none
def dW (nt:Nat) (caps:Env) (g:D->Env->Option Env) (t:adq Bool) (f:adq D):List D->ae->Res (List D)
 | [],s=>ok [] s
 |d::Z,s=>match g d (Ï nt none++caps) with
  |none=>none
  |some env=>ak (ne (t env s)) λb s=>if b=true then ak (ne (f env s)) λx s=>ak (dW nt caps g t f Z s) λY s=>ok (x::Y) s
   else dW nt caps g t f Z s
def cE (nt:Nat) (cap:List Nat) (it:adq (List D)) (g:D->Env->Option Env) (t:adq Bool) (f:adq D):adq D:=λenv s =>
 ak (it env s) λZ s=>gZ Z (ak (dW nt (dP cap env) g t f Z s) λY s=>ok (.lst Y) s)
def u5 (nt:Nat) (cap:List Nat) (it:adq (List D)) (g:D->Env->Option Env) (t:adq Bool) (f:adq D):adq D:=λenv s =>
 ak (it env s) λZ s=>gZ Z (ak (dW nt (dP cap env) g t f Z s) λY s=>ok (.ai s.length) (s++[.lst Y]))
def cy:adq Bool:=λ_ s=>ok true s
def aN (np ns:Nat) (b:adq Fl):List D->ae->Res D:=λZ s=>if Z.length=np then ak (b (Z.map some++Ï (ns-np) none) s) λY s=>match Y with
 | .rt d=>ok d s
 | .nx _=>ok .ax s
 |_=>none else none
abbrev bI:Wd->aQ->Prop:=λ_ _=>False
def kQ (K:ĥ) (f:List D->ae->Res D):Sp:=λX H Q _=>∃w Z,w.H=H/\aL K w/\aq K w Z X/\Out K bI w (f Z w.aD) λY d=>∀v,DV K Y d v->Q v Y.H
section
variable {X:Cx} {Ξ:Wd->aQ->Prop} {e a b c tg:ľ} {es rest:List ľ} {pos:Pos} {f g h:adq D} {fa:adq (List D)} {ft gt:adq Bool} {st:ado} {ma EM:List ado} {fs gs:adq Fl}
def ck:dj X [] (tS X.K Ξ bM):=Km U2 λD σ H Z=>by
 obtain⟨w,env,Y,S,W,h⟩:=Z;subst Y;exact aI S h σ W
def aH (h1:PS X st (tS X.K Ξ fs)) (h2:dj X ma (tS X.K Ξ gs)):dj X (st::ma) (tS X.K Ξ (ay fs gs)):=Km (Ta h1 h2) λD σ H W=>by
 obtain⟨w,env,V,S,U,h⟩:=W;subst V;refine⟨w,env,rfl,S,U,(Out.ak h).mono λT R P Z h1=>?_⟩
 cases R with
 |nx Y=>exact fun O Q=>⟨T,Y,rfl,Z,Q,h1⟩
 |rt d=>have q:=aI Z h1;exact q
 |bk Y=>have q:=aI Z h1;exact q
 |ct Y=>have q:=aI Z h1;exact q
def aF (h1:PS X st (tS X.K Ξ fs)):dj X [st] (tS X.K Ξ fs):=U3 h1
def aP (he:PE X e (tE X.K Ξ f)):PS X (.Return (some e) pos) (tS X.K Ξ (aM f)):=jP (W5 he) λD σ H Z=>by
 obtain⟨w,env,Y,S,W,h⟩:=Z;subst Y;exact⟨w,env,rfl,S,W,(Out.ak h).mono λT d R V U=>aI V U⟩
def eT (he:PE X e (tE X.K Ξ f)) (hs:acW e none pos.line X.env=pure false:=by rfl):PS X (.Expr e pos) (tS X.K Ξ (cB f)):=jP (U4 he hs) λD σ H Y=>by
 obtain⟨w,env,W,S,Z,h⟩:=Y;subst W;exact⟨w,env,rfl,S,Z,(Out.ak h).mono λR d V U T _ _=>aI U T σ (Z.le V)⟩
def cj (hc:PT X c (tT X.K Ξ ft)) (ha:dj X ma (tS X.K Ξ fs)) (hb:dj X EM (tS X.K Ξ gs)):PS X (.If c ma EM pos) (tS X.K Ξ (bE ft fs gs)):=jP (YL hc ha hb) λD σ H T=>by
 obtain⟨w,env,R,S,Z,h⟩:=T;subst R;refine⟨w,env,rfl,S,Z,(Out.ak h).mono λY b W V U=>?_⟩
 cases b with
 |true=>exact⟨Y,env,rfl,V,Z.le W,U⟩
 |false=>exact⟨Y,env,rfl,V,Z.le W,U⟩
noncomputable def nu:adq Fl:=λ_ _=>none
def nL:dj X ma (tS X.K Ξ nu):=λ_ _ _ _ _ _ h=>by obtain⟨w,env,_,_,_,h⟩:=h;exact h.elim
def gD (K:ĥ) (g:D->Env->Option Env):TG:=λv σ H Q=>∃w env d Z,w.H=H/\aL K w/\bQ K w env σ/\DV K w d v/\g d env=some Z/\∀ Y,bQ K w Z Y->Q Y H
def wU (K:ĥ) (g:List D->Env->Option Env):kG:=λW σ H Q=>∃w env Z Y,w.H=H/\aL K w/\bQ K w env σ/\aq K w Z W/\g Z env=some Y/\∀ X,bQ K w Y X->Q X H
def LD {t t':TG} (h:PG X e t) (i:∀v σ H Q,t' v σ H Q->t v σ H Q):PG X e t':=λZ s σ H v u Q I r Y=>h Z s σ H v u Q I r (i v σ H Q Y)
def Kr {t t':kG} (h:l6 X es t) (i:∀v σ H Q,t' v σ H Q->t v σ H Q):l6 X es t':=λZ s σ H v u Q I r Y=>h Z s σ H v u Q I r (i v σ H Q Y)
def df (i:Nat) {x:Str} (hN:X.N.Nodup) (hi:X.N[i]?=some x:=by rfl) (hx:Loc X.env.scope x:=by first|exact Or.inl rfl|exact Or.inr rfl) (hf:X.fn x=true\/X.env.scope.names.lookup x=some .local:=by first|exact .inl rfl|exact .inr rfl):PG X (.Name x pos) (gD X.K (gN i)) :=
 LD (gW hN hi hx hf) λv σ H Q Z=>by
  obtain⟨w,env,d,Y,T,S,W,V,U,k⟩:=Z;have e:env.set i (some d)=Y:=adw U;subst e;exact k _ (W.set V i)
def u6:l6 X [] (wU X.K (hW [])):=Kr yy λR σ H Q W=>by
 obtain⟨w,env,Z,V,P,S,U,T,Y,k⟩:=W
 cases Z with
 |nil =>
  have e:env=V:=adw Y;subst e;exact⟨T,k _ U⟩
 |cons d Z=>cases Y
def iG {g:D->Env->Option Env} {gl:List (D->Env->Option Env)} (h1:PG X e (gD X.K g)) (h2:l6 X es (wU X.K (hW gl)))
  (hs:(Ž (e::es) X.env).map (·.2)=adp e X.env::(Ž es X.env).map (·.2):=by rfl):l6 X (e::es) (wU X.K (hW (g::gl))):=Kr (o9 h1 h2 hs) λJ σ H Q R=>by
 obtain⟨w,env,Y,P,U,S,O,N,Z,k⟩:=R
 cases Y with
 |nil=>cases Z
 |cons d Y =>
  obtain⟨v,r,rfl,M,L⟩:=N;simp only[hW] at Z
  cases W:g d env with
  |none=>rw[W] at Z;cases Z
  |some T =>
   rw[W] at Z;refine⟨v,r,rfl,w,env,d,T,U,S,O,M,W,fun I V=>⟨w,T,Y,P,U,S,V,L,Z,k⟩⟩
theorem Bt:∀{gl:List (D->Env->Option Env)} {ds:List D} {env aA:Env},hW gl ds env=some aA->ds.length=gl.length
 | [],[],_,_,_=>rfl
 |g::gl,d::ds,env,aA,h=>by
  simp only[hW] at h
  cases Z:g d env with
  |none=>rw[Z] at h;cases h
  |some e1=>rw[Z] at h;simp[Bt h]
 | [],_::_,_,_,h=>by cases h
 |_::_,[],_,_,h=>by cases h
def vw {gl:List (D->Env->Option Env)} {k:Nat} (hc:X.calm=true) (h:l6 X es (wU X.K (hW gl))) (hn:(Ž es X.env).length=gl.length:=by rfl) (iC:(Ž es X.env).findIdx? (·.1)=none:=by rfl):PG X (.Tuple es k pos) (gD X.K (gT gl)) :=
 LD (yL hc h hn iC) λv σ H Q V=>by
  obtain⟨w,env,d,U,T,S,R,Y,Z,k⟩:=V
  cases d with
  |tup P =>
   simp only[DV] at Y;obtain⟨p,O,e1,N,W⟩:=Y;subst T;exact⟨p,O,e1,N,by rw[<- W.length];exact Bt Z,w,env,P,U,rfl,S,R,W,Z,k⟩
  |_=>cases Z
def Ks {K:ĥ} {g:D->Env->Option Env} (D:Ends) (σ:St) (H:Hp):tS K Ξ (aZ f g) D σ H->vL (tE K Ξ f) (gD K g) D σ H:=by
 intro zzz;obtain⟨w,env,rfl,S,X,h⟩:=zzz;refine⟨w,env,rfl,S,X,(Out.ak h).mono λV d U W Z v T=>?_⟩
 cases Y:g d env with
 |none=>rw[Y] at Z;exact Z.elim
 |some R =>
  rw[Y] at Z;exact⟨V,env,d,R,rfl,W,X.le U,T,Y,aI W Z⟩
def zl {g:D->Env->Option Env} (he:PE X e (tE X.K Ξ f)) (hg:PG X tg (gD X.K g)) (hs:abv [tg] e pos.line X.env=pure false:=by rfl) (hw:abw [tg] e X.env=pure none:=by rfl)
  (h1:(Ž [tg] X.env).map (·.2)=[adp tg X.env]:=by rfl):PS X (.Assign [tg] e pos) (tS X.K Ξ (aZ f g)):=jP (Ln he hg hs hw h1) Ks
def RY {K:ĥ} {te:TE} {i:Nat} (D:Ends) (σ:St) (H:Hp):vL (tE K Ξ f) (gD K (gN i)) D σ H->vL (tE K Ξ f) (pO i) D σ H:=by
 intro zzz;obtain⟨w,env,rfl,S,Z,h⟩:=zzz;refine⟨w,env,rfl,S,Z,h.mono λP d O N Y v X=>?_⟩;obtain⟨M,W,V,U,L,J,T,R,Q,k⟩:=Y v X;have e:W.set i (some V)=U:=adw Q;subst e;exact k _ (T.set R i)
def bB (i:Nat) {x:Str} {pos':Pos} (hN:X.N.Nodup) (he:PE X e (tE X.K Ξ f)) (hi:X.N[i]?=some x:=by rfl) (hx:Loc X.env.scope x:=by first|exact Or.inl rfl|exact Or.inr rfl) (hs:acW e (some (.Name x pos')) pos.line X.env=pure false:=by rfl) (hf:X.fn x=true\/X.env.scope.names.lookup x=some .local:=by first|exact .inl rfl|exact .inr rfl) :
  PS X (.Assign [.Name x pos'] e pos) (tS X.K Ξ (aZ f (gN i))):=jP (W7 hN hi hx he hs hf) λD σ H h=>RY (te:=tE X.K Ξ f) D σ H (Ks D σ H h)
def nv (K:ĥ) (w:Wd) (J:It) (ds:List D):Prop:=∀Z,Le K w Z->aL K Z->∀i,
 (∀d,ds[i]?=some d->J.go i Z.H/\∀x X,J.tF i Z.H x X->∃Y,Y.H=X/\Le K Z Y/\aL K Y/\Y.aD=Z.aD/\DV K Y d x)/\(ds.length<=i->J.stop i Z.H)
def dD (K:ĥ) (Ξ:Wd->aQ->Prop) (f:adq (List D)):TI:=fun σ H R=>∃w env,w.H=H/\aL K w/\bQ K w env σ/\Out K Ξ w (f env w.aD) λZ Y=>∀J,nv K Z J Y->R J Z.H
def pE {t t':TI} (h:PI X tg e t) (i:∀ σ H R,t' σ H R->t σ H R):PI X tg e t':=λZ s σ H R I Y=>h Z s σ H R I (i σ H R Y)
def VB {K:ĥ} {it:adq (List D)} {g:D->Env->Option Env} (D0:Ends) (σ:St) (H:Hp):tS K Ξ (fW it g fs) D0 σ H->M7 (dD K Ξ it) (gD K g) (tS K Ξ fs) D0 σ H:=by
 intro zzz;obtain⟨w,env,rfl,S,B,h⟩:=zzz;refine⟨w,env,rfl,S,B,(Out.ak h).mono λM Y p o n J A=>?_⟩;refine⟨λi m L z=>m=Y.length-i/\i<=Y.length/\∃X V,X.H=z/\Le K M X/\aL K X/\bQ K X V L/\Out K Ξ X (lH g fs (Y.drop i) V X.aD) (vQ K D0),
  ⟨Y.length,rfl,ü _,M,env,rfl,Le.refl _,o,B.le p,n⟩,?_⟩
 intro i m L z zzz;obtain⟨rfl,hi,X,V,rfl,U,I,v,W⟩:=zzz;by_cases G:i<Y.length
 ·right
  obtain⟨l,k⟩:=(A X U I i).1 _ (Ô G);rw[Ŝ G] at W;simp only[lH] at W
  cases F:g Y[i] V with
  |none=>rw[F] at W;exact W.elim
  |some u =>
   rw[F] at W;refine⟨l,fun E T=>∃Z R,Z.H=T/\Le K M Z/\aL K Z/\bQ K Z R E/\Out K Ξ Z (lH g fs (Y.drop (i+1)) R Z.aD) (vQ K D0),fun E T ⟨Z,R,q⟩=>⟨Y.length-(i+1),by omega,rfl,G,Z,R,q⟩,λx T y=>?_⟩;obtain⟨Z,rfl,Q,t,es,j⟩:=k x T y;refine⟨Z,V,Y[i],u,rfl,t,v.le Q,j,F,fun E f=>⟨Z,u,rfl,t,f,?_⟩⟩;rw[<- es] at W;refine(Out.ak (W.from Q)).mono λs c r P O=>?_
   cases c with
   |nx N=>exact fun b C=>⟨s,N,rfl,U.trans (Q.trans r),P,C,O⟩
   |ct N=>exact fun b C=>⟨s,N,rfl,U.trans (Q.trans r),P,C,O⟩
   |bk N=>have q:=aI P O;exact q
   |rt d=>have q:=aI P O;exact q
 ·left
  have e:i=Y.length:=by omega
  subst e;rw[acN] at W;exact⟨(A X U I _).2 (adv _),aI I W L v⟩
def iN {iter:ľ} {it:adq (List D)} {g:D->Env->Option Env} (hp:PassesOwn (í X.prog X.w) X.A X.env X.xe) (hc:X.calm=true) (hi:PI X tg iter (dD X.K Ξ it)) (hg:PG X tg (gD X.K g)) (hb:dj X ma (tS X.K Ξ fs))
  (hs:∀x,ý iter X.env x=pure x:=by intro _;rfl):PS X (.For tg iter ma [] pos) (tS X.K Ξ (fW it g fs)):=jP (Xa hp hc hi hg hb hs) VB
def VD {K:ĥ} {n:Nat} (D0:Ends) (σ:St) (H:Hp):tS K Ξ (zJ n ft fs) D0 σ H->Lo (tT K Ξ ft) (tS K Ξ fs) D0 σ H:=by
 intro zzz;obtain⟨w,env,rfl,S,E,h⟩:=zzz;refine⟨λm T O=>∃Z Y,Z.H=O/\aL K Z/\bQ K Z Y T/\Out K Ξ Z (n5 ft fs m Y Z.aD) (vQ K D0),⟨n,w,env,rfl,S,E,h⟩,?_⟩;intro m T O zzz;obtain⟨Z,Y,rfl,D,R,Q⟩:=zzz
 cases m with
 |zero=>exact Q.elim
 |succ m =>
  simp only[n5] at Q;refine⟨Z,Y,rfl,D,R,(Out.ak Q).mono λC b N M L=>?_⟩
  cases b with
  |true =>
   refine⟨fun J I=>∃X G,X.H=I/\aL K X/\bQ K X G J/\Out K Ξ X (n5 ft fs m G X.aD) (vQ K D0),fun J I q=>⟨m,ĉ m,q⟩,C,Y,rfl,M,R.le N,(Out.ak L).mono λF B z W V=>?_⟩
   cases B with
   |nx U=>exact fun A P=>⟨F,U,rfl,W,P,V⟩
   |ct U=>exact fun A P=>⟨F,U,rfl,W,P,V⟩
   |bk U=>have q:=aI W V;exact q
   |rt d=>have q:=aI W V;exact q
  |false=>exact aI M L T (R.le N)
def Zk (n:Nat) (hp:PassesOwn (í X.prog X.w) X.A X.env X.xe) (hc:PT X c (tT X.K Ξ ft)) (hb:dj X ma (tS X.K Ξ fs)):PS X (.While c ma [] pos) (tS X.K Ξ (zJ n ft fs)):=jP (Tb hp hc hb) VD
theorem Out.ne {α:Type} {K:ĥ} {w:Wd} {r:Res α} {k:Wd->α->Prop} (h:Out K Ξ w (DI.ne r) k):Out K bI w r k:=by
 match r,h with
 |some (.ok a,s),h=>exact h
def bQ.block {K:ĥ} {w:Wd} {env:Env} {σ:St} (h:bQ K w env σ) (nt:Nat) (cap:List Nat) (o:St) (ho:o.length=nt):bQ K w (Ï nt none++dP cap env) (o++mM cap σ):=by
 refine⟨by simp[dP,mM,ho],λi d e=>?_⟩;by_cases hi:i<nt
 ·rw[ã (by simpa using hi),ĭ,Þ hi] at e
  cases e
 ·rw[ă (by simpa using ψ hi)] at e
  rw[ă (by omega),ho];simp only[abm] at e;unfold dP at e;unfold mM;rw[è] at e |-
  cases Z:cap[i-nt]? with
  |none=>rw[Z] at e;cases e
  |some j =>
   rw[Z] at e;have ev:(env[j]?).getD none=some d:=adw e;have Y:env[j]?=some (some d):=by
    cases q:env[j]? with
    |none=>rw[q] at ev;cases ev
    |some z=>rw[q] at ev;exact Ķ some ev
   obtain⟨v,e1,e2⟩:=h.val j d Y;exact⟨v,by rw[abn,e1];rfl,e2⟩
def IL {K:ĥ} {nt:Nat} {cap:List Nat} {it:adq (List D)} {g:D->Env->Option Env} {fin:List D->ae->Res D} (σ:St) (H:Hp) (Q:VK)
  (EN:∀(w2:Wd) (xs:List D) (vs:List V),aL K w2->aq K w2 xs vs->Out K Ξ w2 (fin xs w2.aD) (λw' d=>∀v,DV K w' d v->Q v w'.H)->∀p,w2.H p=none->Q (.ref p) (upd w2.H p (.lst vs))) :
  tE K Ξ (λenv s=>ak (it env s) λds s=>gZ ds (ak (dW nt (dP cap env) g ft f ds s) fin)) σ H Q->pP (dD K Ξ it) nt cap (gD K g) (tT K bI ft) (tE K bI f) σ H Q:=by
 intro zzz;obtain⟨w,env,rfl,S,B,h⟩:=zzz;refine⟨w,env,rfl,S,B,(Out.ak h).mono λN ds j c M J A=>?_⟩;obtain⟨hz,M⟩:=pd M;refine⟨λi m Y z=>m=ds.length-i/\i<=ds.length/\Y.length<=i/\∃w' Z,w'.H=z/\Le K N w'/\aL K w'/\aq K w' Z Y/\Out K Ξ w' (dW nt (dP cap env) g ft f (ds.drop i) w'.aD) λw2 xs=>∀vs,aq K w2 (Z++xs) vs->∀p,w2.H p=none->Q (.ref p) (upd w2.H p (.lst vs)),
  ⟨ds.length,rfl,ü _,ü _,N,[],rfl,Le.refl _,c,rfl,(Out.ak M).mono λw2 xs W P a vs O p U=>?_⟩,?_⟩
 ·exact EN w2 xs vs P O a p U
 intro i m Y z zzz;obtain⟨rfl,hi,ha,w',Z,rfl,T,L,I,X⟩:=zzz;by_cases G:i<ds.length
 ·right
  obtain⟨gH,hy⟩:=(A w' T L i).1 _ (Ô G);rw[Ŝ G] at X;simp only[dW] at X
  cases F:g ds[i] (Ï nt none++dP cap env) with
  |none=>rw[F] at X;exact X.elim
  |some E =>
   rw[F] at X;refine⟨gH,by omega,λC u=>C.length<=i+1/\∃w' Z,w'.H=u/\Le K N w'/\aL K w'/\aq K w' Z C/\Out K Ξ w' (dW nt (dP cap env) g ft f (ds.drop (i+1)) w'.aD) λw2 xs=>∀vs,aq K w2 (Z++xs) vs->∀p,w2.H p=none->Q (.ref p) (upd w2.H p (.lst vs)),
    λC u ⟨FL,q⟩=>⟨ds.length-(i+1),by omega,rfl,G,FL,q⟩,λo x H3 ho y=>?_⟩
   obtain⟨w2,rfl,W,P,es,dv⟩:=hy x H3 y;refine⟨w2,_,ds[i],E,rfl,P,(B.le (j.trans (T.trans W))).block nt cap o ho,dv,F,fun jy t=>?_⟩;rw[<- es] at X;refine⟨w2,E,rfl,P,t,(Out.ak (X.from W)).ne.mono λr b R n l=>?_⟩
   cases b with
   |true =>
    refine⟨r,E,rfl,n,t.le R,(Out.ak l).ne.mono λw4 d k S4 h4 v wR=>⟨by rw[Ð];simp;omega,w4,Z++[d],rfl,T.trans (W.trans (R.trans k)),S4,aq.append ((W.trans (R.trans k)).all I) (aq.one wR),(Out.ak h4).mono λw5 xs l5 S5 h5 vs O p U=>?_⟩⟩;exact aI S5 h5 vs (by rw[Ĩ] at O;exact O) p U
   |false =>
    exact⟨by omega,r,Z,rfl,T.trans (W.trans R),n,(W.trans R).all I,l⟩
 ·left
  have e:i=ds.length:=by omega
  subst e;rw[acN] at X;refine⟨(A w' T L _).2 (adv _),by omega,λp U=>aI L X Y (by rw[Ē];exact I) p U⟩
def TX {K:ĥ} {nt:Nat} {cap:List Nat} {it:adq (List D)} {g:D->Env->Option Env} (σ:St) (H:Hp) (Q:VK) :
  tE K Ξ (cE nt cap it g ft f) σ H Q->pP (dD K Ξ it) nt cap (gD K g) (tT K bI ft) (tE K bI f) σ H Q :=
 IL σ H Q λX S W V U T p Y=>T (X.grow p (.lst W)) (Fw.grow Y).le (V.grow Y) rfl (.ref p) ⟨p,W,rfl,⟨(show ¬ X.Z p from pC V Y),cW⟩,(Fw.grow Y).le.all U⟩
def RZ {K:ĥ} {nt:Nat} {cap:List Nat} {it:adq (List D)} {g:D->Env->Option Env} (σ:St) (H:Hp) (Q:VK) :
  tE K Ξ (u5 nt cap it g ft f) σ H Q->pP (dD K Ξ it) nt cap (gD K g) (tT K bI ft) (tE K bI f) σ H Q :=
 IL σ H Q λZ W Y X U T p V=>by
  have le:=(Fw.cell (o:=.lst Y) (c:=.lst W) X V).le;refine T (Z.cell p (.lst Y) (.lst W)) le (X.sr V ⟨Y,cW,le.all U⟩) rfl (.ref p) ⟨p,?_,rfl⟩;show (Z.ρ++[p])[Z.aD.length]?=some p;rw[<- X.len];simp
end
def Kt {o caps:St} {v:V} {i nt:Nat} (ho:o.length=nt) (hi:i<nt):(o++caps).set i (some v)=o.set i (some v)++caps:=by
 rw[List.set_append_left _ _ (by omega)]
def R0 {i nt:Nat} (hi:i<nt):oH (pO i) nt:=by
 intro x o Z H R Y h;exact⟨⟨o.set i (some x),by rw[ġ];exact Y,Kt Y hi⟩,h⟩
def vU (g:kG) (nt:Nat):Prop:=∀(Y:List V) (o Z:St) (H:Hp) (R:St->Hp->Prop),o.length=nt->g Y (o++Z) H R->g Y (o++Z) H fun X U=>(∃W:St,W.length=nt/\X=W++Z)/\R X U
def TY:vU Ep nt:=λX o Z H R Y h=>⟨h.1,⟨o,Y,rfl⟩,h.2⟩
def R1 {i nt:Nat} {g:kG} (hi:i<nt) (hg:vU g nt):vU (Dv (pO i) g) nt:=by
 intro X o Z H R Y zzz;obtain⟨v,r,e,h⟩:=zzz;refine⟨v,r,e,?_⟩;have h:g r ((o++Z).set i (some v)) H R:=h;show g r ((o++Z).set i (some v)) H _;rw[Kt Y hi] at h |-;exact hg r _ Z H R (by rw[ġ];exact Y) h
def TZ (hg:vU g nt):oH (Er K n g) nt:=by
 intro x o Z H R X zzz;obtain⟨a,Y,e,W,V,h⟩:=zzz;exact⟨a,Y,e,W,V,hg Y o Z H R X h⟩
structure Tg (K:ĥ) (g0:TG) (g:D->Env->Option Env) (nt:Nat):Prop where
 jF:oH g0 nt
 imp:∀v σ H Q,gD K g v σ H Q->g0 v σ H Q
structure Am (K:ĥ) (g0:kG) (g:List (D->Env->Option Env)) (nt:Nat):Prop where
 jF:vU g0 nt
 imp:∀v σ H Q,wU K (hW g) v σ H Q->g0 v σ H Q
def mB (i:Nat) (hi:i<nt:=by decide):Tg K (pO i) (gN i) nt:=⟨R0 hi,λv σ H Q Z=>by
 obtain⟨w,env,d,Y,U,S,X,W,V,k⟩:=Z;have e:env.set i (some d)=Y:=adw V;subst e;exact k _ (X.set W i)⟩
def Cc:Am K Ep [] nt:=⟨TY,λT σ H Q X=>by
 obtain⟨w,env,Z,W,R,S,V,U,Y,k⟩:=X
 cases Z with
 |nil =>
  have e:env=W:=adw Y;subst e;exact⟨U,k _ V⟩
 |cons d Z=>cases Y⟩
def rE (i:Nat) (h:Am K g0 gl nt) (hi:i<nt:=by decide):Am K (Dv (pO i) g0) (gN i::gl) nt:=⟨R1 hi h.jF,λO σ H Q X=>by
 obtain⟨w,env,Z,W,V,S,U,T,Y,k⟩:=X
 cases Z with
 |nil=>cases Y
 |cons d Z =>
  obtain⟨v,r,rfl,R,P⟩:=T;exact⟨v,r,rfl,h.imp _ _ _ _ ⟨w,_,Z,W,V,S,U.set R i,P,Y,k⟩⟩⟩
def CN (h:Am K g0 gl nt) (hn:gl.length=n:=by rfl):Tg K (Er K n g0) (gT gl) nt:=⟨TZ h.jF,λv σ H Q W=>by
 obtain⟨w,env,d,V,U,S,T,Y,Z,k⟩:=W
 cases d with
 |tup R =>
  simp only[DV] at Y;obtain⟨p,P,e1,O,X⟩:=Y;subst U;exact⟨p,P,e1,O,by rw[<- X.length,Bt Z];exact hn,h.imp _ _ _ _ ⟨w,env,R,V,rfl,S,T,X,Z,k⟩⟩
 |_=>cases Z⟩
section
variable {X:Cx} {Ξ:Wd->aQ->Prop} {e a b c tg el src:ľ} {es rest tests:List ľ} {pos:Pos} {f g h:adq D} {fa:adq (List D)} {ft gt:adq Bool} {st:ado} {ma EM:List ado} {fs gs:adq Fl}
def XD (h:PF X tests t) (i:∀ σ H Q,t' σ H Q->t σ H Q):PF X tests t':=λZ s σ H Q I Y=>h Z s σ H Q I (i σ H Q Y)
def dQ:PF X [] (tT K Ξ cy):=XD Xs fun σ H Q Z=>by
 obtain⟨w,env,Y,S,W,h⟩:=Z;subst Y;exact aI S h
def lJ (h:PT X c (tT K Ξ ft)):PF X [c] (tT K Ξ ft):=Xt h
def A6 (i_:∀v σ H Q,g1 v σ H Q->g0 v σ H Q) (wm:∀R R':It->Hp->Prop,(∀J H',R J H'->R' J H')->wi σ H R->wi σ H R') (h:pP wi nt cap g1 tf te σ H Q):pP wi nt cap g0 tf te σ H Q:=by
 refine wm _ _ (λJ H' Y=>?_) h;obtain⟨W,X,step⟩:=Y;refine⟨W,X,λi m Z V hw=>?_⟩
 rcases step i m Z V hw with q | ⟨U,T,N,S,P⟩
 ·exact .inl q
 ·exact .inr ⟨U,T,N,S,λo x O M y=>i_ _ _ _ _ (P o x O M y)⟩
def Jw (R R':It->Hp->Prop) (i:∀J H',R J H'->R' J H') (h:dD K Ξ it σ H R):dD K Ξ it σ H R':=by
 obtain⟨w,env,Z,S,Y,h⟩:=h;exact⟨w,env,Z,S,Y,h.mono λV U _ _ X J W=>i J _ (X J W)⟩
def cZ (f:adq D):adq (List D):=λenv s=>ak (f env s) λd s=>match d with
 | .lst Z=>ok Z s
 | .tup Z=>ok Z s
 |_=>none
def T4 {K:ĥ} {w:Wd} {a:ä} {ds:List D} (h:DV K w (.lst ds) (.ref a)):nv K w (Fi K a) ds:=λV U T i=>by
 have X:=U _ _ h;simp only[DV] at X;obtain⟨p,Z,e,Y,W⟩:=X;cases e;refine⟨λd S=>?_,λR=>⟨Z,Y.sq,by rw[<- W.length];exact R⟩⟩;obtain⟨v,ev,Q⟩:=W.get' i d S;exact⟨⟨Z,v,Y.sq,ev⟩,λx P ⟨e1,e2⟩=>⟨V,e1.symm,Le.refl _,T,rfl,by
  have q:=e2 Z Y.sq;rw[ev] at q;cases q;exact Q⟩⟩
def VE {K:ĥ} {w:Wd} {a:ä} {ds:List D} (h:DV K w (.tup ds) (.ref a)):nv K w (Fj K a) ds:=λV U T i=>by
 have X:=U _ _ h;simp only[DV] at X;obtain⟨p,Z,e,Y,W⟩:=X;cases e;refine⟨λd S=>?_,λR=>⟨Z,Y,by rw[<- W.length];exact R⟩⟩;obtain⟨v,ev,Q⟩:=W.get' i d S;exact⟨⟨Z,v,Y,ev⟩,λx P ⟨e1,e2⟩=>⟨V,e1.symm,Le.refl _,T,rfl,by
  have q:=e2 Z Y;rw[ev] at q;cases q;exact Q⟩⟩
def fV (hl:PE X a (tE X.K Ξ f)):PI X tg a (dD X.K Ξ (cZ f)):=by
 have both:PI X tg a (fun σ H R=>Mh X.K (tE X.K Ξ f) σ H R\/M6 X.K (tE X.K Ξ f) σ H R):=λN s σ H R I h=>h.elim (J5 hl N s σ H R I) (W9 hl N s σ H R I);refine pE both fun σ H R ⟨w,env,M,S,W,h⟩=>?_;subst M;simp only[cZ] at h
 cases Y:f env w.aD with
 |none=>rw[Y] at h;exact h.elim
 |some r =>
  obtain⟨r,s⟩:=r;rw[Y] at h
  cases r with
  |error x=>exact .inl ⟨w,env,rfl,S,W,by rw[Y];exact h⟩
  |ok d =>
   rw[de] at h
   cases d with
   |lst L =>
    refine .inl ⟨w,env,rfl,S,W,?_⟩;rw[Y];intro V U T e1 v Z;have Q:=Z;simp only[DV] at Z;obtain⟨p,P,rfl,O,J⟩:=Z;exact⟨p,rfl,⟨P,O.sq⟩,h V U T e1 _ (T4 Q)⟩
   |tup L =>
    refine .inr ⟨w,env,rfl,S,W,?_⟩;rw[Y];intro V U T e1 v Z;have Q:=Z;simp only[DV] at Z;obtain⟨p,P,rfl,O,J⟩:=Z;exact⟨p,rfl,⟨P,O⟩,h V U T e1 _ (VE Q)⟩
   |_=>exact h.elim
noncomputable def cu (lo:Int) (n:Nat):List D:=(Ù n).map λ(i:Nat)=>D.int (lo+(i:Int))
def il:(cu lo n)[i]?=if i<n then some (.int (lo+i)) else none:=by
 unfold cu;rw[è];by_cases h:i<n
 ·rw[ř h,Þ h];rfl
 ·rw[ė (by simp;omega),å h];rfl
def dM:(cu lo n).length=n:=by simp[cu]
def Ku:nv K w (wu lo n) (cu lo n):=λX V W i=>by
 refine⟨λd Z=>?_,λY=>by rw[dM] at Y;exact Y⟩;rw[il] at Z;split at Z
 ·cases Z
  exact⟨by assumption,λx U ⟨e1,e2⟩=>⟨X,e1.symm,Le.refl _,W,rfl,e2⟩⟩
 ·cases Z
noncomputable def jT (j:Int):Bool:=decide (-(2 ^ 62)<=j)&&decide (j<2 ^ 62)
def cV (fa:adq (List D)):adq (List D):=λenv s=>ak (fa env s) λZ s=>match Z with
 | [.int j]=>if jT j=true then ok (cu 0 j.toNat) s else none
 |_=>none
def An (fa:adq (List D)):adq (List D):=λenv s=>ak (fa env s) λZ s=>match Z with
 | [.int i,.int j]=>if (jT i&&jT j)=true then ok (cu i (j-i).toNat) s else none
 |_=>none
def dN (hg:Gl X "range") (hm:X.mg "range"=none) (ha:PA X [a] (tA X.K Ξ fa)) (hs:ß [a] X.env=[(false,ţ a X.env)]:=by rfl):PI X tg (.Call (.Name "range" p) [a] [] pos) (dD X.K Ξ (cV fa)) :=
 pE (RE hg hm ha hs) fun σ H R W=>by
  obtain⟨w,env,V,S,U,h⟩:=W;subst V;refine⟨w,env,rfl,S,U,(Out.ak h).mono λN M L T Z J Q=>?_⟩;split at Z
  ·rename_i j
   split at Z
   ·rename_i Y
    simp only[jT,È,Í] at Y;obtain⟨v,r,rfl,P,O⟩:=Q;have e1:v=.int j:=P;have e2:r=[]:=O;subst e1 e2;exact⟨j,rfl,Y.1,Y.2,aI T Z _ Ku⟩
   ·exact Z.elim
  ·exact Z.elim
def XE {p:Pos} (hg:Gl X "range") (hm:X.mg "range"=none) (ha:PA X [a,b] (tA X.K Ξ fa)) (hs:ß [a,b] X.env=[(false,ţ a X.env),(false,ţ b X.env)]:=by rfl) (cF:ß [b] X.env=[(false,ţ b X.env)]:=by rfl):PI X tg (.Call (.Name "range" p) [a,b] [] pos) (dD X.K Ξ (An fa)) :=
 pE (RF hg hm ha hs cF) fun σ H R W=>by
  obtain⟨w,env,V,S,U,h⟩:=W;subst V;refine⟨w,env,rfl,S,U,(Out.ak h).mono λJ I G T Z F Q=>?_⟩;split at Z
  ·rename_i i j
   split at Z
   ·rename_i Y
    simp only[jT,È,Í] at Y;obtain⟨v,r,rfl,P,v2,O,rfl,N,M⟩:=Q;have e1:v=.int i:=P;have e2:v2=.int j:=N;have L:O=[]:=M;subst e1 e2 L;exact⟨i,j,rfl,⟨Y.1.1,Y.1.2,Y.2.1,Y.2.2⟩,aI T Z _ Ku⟩
   ·exact Z.elim
  ·exact Z.elim
noncomputable def iS (xs ys:List D):List D:=(xs.zip ys).map λp=>.tup [p.1,p.2]
def T5 {i:Nat} (h:(iS xs ys)[i]?=some d):∃x y,xs[i]?=some x/\ys[i]?=some y/\d=.tup [x,y]:=by
 unfold iS at h;rw[è] at h
 cases Z:(xs.zip ys)[i]? with
 |none=>rw[Z] at h;cases h
 |some p =>
  rw[Z] at h;obtain⟨Y,X⟩:=List.getElem?_zip_eq_some.mp Z;exact⟨p.1,p.2,Y,X,(adw h).symm⟩
def Bu:(iS xs ys).length=min xs.length ys.length:=by simp[iS]
def IM (S':aL K w') (hp:w'.H p=none) (h1:DV K w' d x) (h2:DV K w' d2 y) :
  ∃w2,w2.H=upd w'.H p (.tup [x,y])/\Le K w' w2/\aL K w2/\w2.aD=w'.aD/\DV K w2 (.tup [d,d2]) (.ref p) :=
 ⟨w'.grow p (.tup [x,y]),rfl,(Fw.grow hp).le,S'.grow hp,rfl,p,[x,y],rfl,bz.of cW,(Fw.grow hp).le.all (aq.two h1 h2)⟩
@[reducible] noncomputable def FN:Bool->List D->D
 |true=>.tup
 |false=>.lst
def Mq {K:ĥ} {w:Wd} {a:ä} {ds:List D}:∀{k},DV K w (FN k ds) (.ref a)->∃xs,jD k K w.H a xs/\aq K w ds xs
 |true,h=>by
  simp only[DV] at h;obtain⟨p,xs,e,Z,Y⟩:=h;cases e;exact⟨xs,Z,Y⟩
 |false,h=>by
  simp only[DV] at h;obtain⟨p,xs,e,Z,Y⟩:=h;cases e;exact⟨xs,Z.sq,Y⟩
def T6 {k l:Bool} {K:ĥ} {w:Wd} {a b:ä} {ds es:List D} (h:DV K w (FN k ds) (.ref a)) (g:DV K w (FN l es) (.ref b)):nv K w (zF k l K a b) (iS ds es):=λF V P i=>by
 obtain⟨Z,Y,U⟩:=Mq (V _ _ h);obtain⟨X,W,T⟩:=Mq (V _ _ g);refine⟨λd O=>?_,λN=>⟨Z,X,Y,W,?_⟩⟩
 ·obtain⟨x,y,e1,e2,rfl⟩:=T5 O
  obtain⟨v,ev,M⟩:=U.get' i x e1;obtain⟨u,S,L⟩:=T.get' i y e2;refine⟨⟨Z,X,v,u,Y,W,ev,S⟩,λz E ⟨r,C,y1,J,I,H,G⟩=>?_⟩;obtain⟨R,Q⟩:=G Z X Y W;rw[ev] at R;rw[S] at Q;cases R;cases Q;subst I H;exact IM P J M L
 ·rw[Bu] at N
  have:=U.length;have:=T.length;omega
def T7 {K:ĥ} {w:Wd} {a b:ä} {ds es:List D} (h:DV K w (.tup ds) (.ref a)) (g:DV K w (.tup es) (.ref b)):nv K w (aaG K a b) (iS ds es):=T6 (k:=true) (l:=true) h g
def sS (fa:adq (List D)):adq (List D):=λenv s=>ak (fa env s) λZ s=>match Z with
 | [.tup Y,.tup X]=>ok (iS Y X) s
 |_=>none
def Zl {p:Pos} {elts:List ľ} {kk:Nat} {zB:Pos} (hg:Gl X "zip") (hm:X.mg "zip"=none) (ha:PA X [a,b] (tA X.K Ξ fa)) (hs:ß [a,b] X.env=[(false,ţ a X.env),(false,ţ b X.env)]:=by rfl) (cF:ß [b] X.env=[(false,ţ b X.env)]:=by rfl) :
  PI X (.Tuple elts kk zB) (.Call (.Name "zip" p) [a,b] [] pos) (dD X.K Ξ (sS fa)):=by
 refine pE (Vq hg hm ha hs cF) fun σ H R U=>?_;obtain⟨w,env,T,S,Q,h⟩:=U;subst T;refine⟨w,env,rfl,S,Q,(Out.ak h).mono λE D C P h B O=>?_⟩;split at h
 ·obtain⟨v,r,rfl,Z,v2,N,rfl,Y,M⟩:=O
  have L:N=[]:=M;subst L;have W:=Z;have V:=Y;simp only[DV] at W V;obtain⟨p,J,rfl,I,_⟩:=W;obtain⟨q,G,rfl,F,_⟩:=V;exact⟨p,q,J,G,rfl,I,F,aI P h _ (T7 Z Y)⟩
 ·exact h.elim
noncomputable def mP (xs:List D):List D:=xs.zipIdx.map λp=>.tup [.int p.2,p.1]
def aw (fn:List D->ae->Res D) (fa:adq (List D)):adq D:=λenv s=>ak (fa env s) λZ s=>ne (fn Z s)
def CO {k:Nat} {fA:ä} {fd:ő} {NU:List Str} {fn:List D->ae->Res D} {x:Str} {p:Pos} (F:dH X.prog X.w X.K X.mg X.base fK k fA fd NU (kQ X.K fn)) (hr:bC k X.A) (hg:Gl X x) (hm:X.mg x=some (.ref fA)) (hk:ź X.K (.ref fA)=true) (hb:Binds X.K fd NU [])
  (ha:PA X (e::es) (tA X.K Ξ fa)) (gB:(x==("__debug__":Str))=false:=by decide) (he:ß (e::es) X.env=(false,ţ e X.env)::ß es X.env:=by rfl) (bU:(ũ pos (ß es X.env)).any (·.1)=false:=by rfl) :
  PE X (.Call (.Name x p) (e::es) [] pos) (tE X.K Ξ (aw fn fa)):=cb (Va F hr hg hm hk hb .nil zj ha gB he bU) fun σ H Q Y=>by
 obtain⟨w,env,W,S,V,h⟩:=Y;subst W;refine⟨w,env,rfl,S,V,(Out.ak h).mono λZ U N T R P O=>?_⟩;show kQ X.K fn (P++[]) Z.H Q E0;rw[Ē];exact⟨Z,U,rfl,T,O,R.ne⟩
def aq.env (h:aq K w ds vs) (n:Nat):bQ K w (ds.map some++Ï (n-ds.length) none) (vs.map some++Ï (n-vs.length) none):=by
 have Y:=h.length;refine⟨by simp[Y],λi d e=>?_⟩;by_cases hi:i<ds.length
 ·rw[ã (by simpa using hi),è] at e
  rw[ã (by simp;omega),è]
  cases Z:ds[i]? with
  |none=>rw[Z] at e;cases e
  |some W =>
   rw[Z] at e;cases e;obtain⟨v,ev,X⟩:=h.get' i d Z;exact⟨v,by rw[ev];rfl,X⟩
 ·rw[ă (by simpa using ψ hi),ĭ] at e
  split at e<;>cases e
end
def DF (F:oG K x qual st f fd) (S:rQ N ps (dJ st))
 (hb:∀(bO:Ç) (A:Ĉ) (outer:List PySem.Env) (s:Å) (H:Hp) (E:XK),bC k (A.deeper (ac1 qual (dJ st) s.heap.objs.size f bO))->dj (mV fK P w K mg base N qual (dJ st) f bO A outer s H E).qq (ik st) (tS K bI b)) :
  dH P w K mg base fK (k+1) f fd ps (kQ K (aN ps.length N.length b)):=by
 refine F.ok S (λW H Q E h=>?_) (λbO A outer s H W Q E V h=>?_)
 ·obtain⟨w,U,rfl,S,Y,h⟩:=h
  rw[<- Y.length];unfold aN at h;split at h
  ·assumption
  ·exact h.elim
 ·obtain⟨w,U,rfl,S,Y,h⟩:=h
  refine⟨_,hb bO A outer s w.H E V,?_⟩;unfold aN at h;split at h
  ·rename_i T
   rw[<- T] at h;refine⟨w,_,rfl,S,Y.env N.length,(Out.ak h).mono λO R M X Z=>?_⟩
   cases R with
   |nx env=>intro L _;exact aI X Z _ rfl
   |rt d=>have q:=aI X Z;exact q
   |bk env=>exact Z.elim
   |ct env=>exact Z.elim
  ·exact h.elim
mutual
noncomputable def py:D->acZ
 | .ax=>.none
 | .bl b=>.bool b
 | .int i=>.int i
 | .str x=>.str x
 | .tup Z=>.tuple (bW Z)
 | .lst Z=>.list (bW Z)
 | .bA Y=>.dict (Y.map λp=>(vM p.1,PyData.int p.2))
 | .ai _=>.none
 | .ty _=>.none
 | .bV _=>.none
 | .exc _ _=>.none
 | .cN _ _ _=>.none
noncomputable def bW:List D->List acZ
 | []=>[]
 |d::Z=>py d::bW Z
end
mutual
noncomputable def plain:D->Bool
 | .ax=>true
 | .bl _=>true
 | .int _=>true
 | .str _=>true
 | .tup Z=>iJ Z
 | .lst Z=>iJ Z
 | .bA _=>true
 | .ai _=>false
 | .ty _=>false
 | .bV _=>false
 | .exc _ _=>false
 | .cN _ _ _=>false
noncomputable def iJ:List D->Bool
 | []=>true
 |d::Z=>plain d&&iJ Z
end
mutual
noncomputable def lay:D->Bool
 | .ax=>true
 | .bl _=>true
 | .int _=>true
 | .str x=>acI x
 | .tup Z=>cU Z
 | .lst Z=>cU Z
 | .bA _=>false
 | .ai _=>false
 | .ty _=>false
 | .bV _=>false
 | .exc _ _=>false
 | .cN _ _ _=>false
noncomputable def cU:List D->Bool
 | []=>true
 |d::Z=>lay d&&cU Z
end
mutual
noncomputable def dep:D->Nat
 | .tup Z=>c8 Z+1
 | .lst Z=>c8 Z+1
 | .bA Y=>1
 | .ax=>0
 | .bl _=>0
 | .int _=>0
 | .str _=>0
 | .ai _=>0
 | .ty _=>0
 | .bV _=>0
 | .exc _ _=>0
 | .cN _ _ _=>0
noncomputable def c8:List D->Nat
 | []=>0
 |d::Z=>max (dep d) (c8 Z)
end
mutual
noncomputable def beq:D->D->Bool
 | .ax,.ax=>true
 | .bl a,.bl b=>a==b
 | .bl a,.int j=>(if a then 1 else 0)==j
 | .int i,.bl b=>i==(if b then 1 else 0)
 | .int i,.int j=>i==j
 | .str x,.str y=>x==y
 | .tup Z,.tup Y=>eD Z Y
 | .lst Z,.lst Y=>eD Z Y
 |_,_=>false
noncomputable def eD:List D->List D->Bool
 | [],[]=>true
 |x::Z,y::Y=>beq x y&&eD Z Y
 |_,_=>false
end
mutual
theorem oX:∀(d:D),lay d=true->plain d=true
 | .ax,_=>rfl
 | .bl _,_=>rfl
 | .int _,_=>rfl
 | .str _,_=>rfl
 | .tup Z,h=>by simp only[lay,plain] at h |-;exact oV Z h
 | .lst Z,h=>by simp only[lay,plain] at h |-;exact oV Z h
 | .bA _,h=>by simp[lay] at h
 | .ai _,h=>by simp[lay] at h
 | .ty _,h=>by simp[lay] at h
 | .bV _,h=>by simp[lay] at h
 | .exc _ _,h=>by simp[lay] at h
 | .cN _ _ _,h=>by simp[lay] at h
theorem oV:∀(ds:List D),cU ds=true->iJ ds=true
 | [],_=>rfl
 |d::ds,h=>by
  simp only[cU,iJ,È] at h |-;exact⟨oX d h.1,oV ds h.2⟩
end
mutual
theorem mH:∀(d:D),lay d=true->(py d).canLay0=true/\(py d).depth=dep d
 | .ax,_=>⟨rfl,by simp[py,dep,PyData.depth]⟩
 | .bl _,_=>⟨rfl,by simp[py,dep,PyData.depth]⟩
 | .int _,_=>⟨rfl,by simp[py,dep,PyData.depth]⟩
 | .str _,h=>⟨h,by simp[py,dep,PyData.depth]⟩
 | .tup Z,h=>by
  obtain⟨Y,X⟩:=uD Z (by simpa [lay] using h);simp only[py,dep,PyData.depth,PyData.canLay0];exact⟨Y,by rw[X]⟩
 | .lst Z,h=>by
  obtain⟨Y,X⟩:=uD Z (by simpa [lay] using h);simp only[py,dep,PyData.depth,PyData.canLay0];exact⟨Y,by rw[X]⟩
 | .bA _,h=>by simp[lay] at h
 | .ai _,h=>by simp[lay] at h
 | .ty _,h=>by simp[lay] at h
 | .bV _,h=>by simp[lay] at h
 | .exc _ _,h=>by simp[lay] at h
 | .cN _ _ _,h=>by simp[lay] at h
theorem uD:∀(ds:List D),cU ds=true->PyData.canLayAll0 (bW ds)=true/\Ļ (bW ds)=c8 ds
 | [],_=>⟨rfl,rfl⟩
 |d::ds,h=>by
  simp only[cU,È] at h;obtain⟨a1,a2⟩:=mH d h.1;obtain⟨Z,Y⟩:=uD ds h.2;simp only[bW,c8,PyData.canLayAll0,Ļ,a1,Z,a2,Y,đ,Ě]
end
mutual
theorem u7:∀(d e:D),lay d=true->lay e=true->ĳ (py d) (py e)=beq d e
 | .tup Z,.tup Y,h,g=>by
  simp only[py,beq,ĳ];exact Bv Z Y (by simpa [lay] using h) (by simpa [lay] using g)
 | .lst Z,.lst Y,h,g=>by
  simp only[py,beq,ĳ];exact Bv Z Y (by simpa [lay] using h) (by simpa [lay] using g)
 | .ax,e,_,g=>by cases e<;>simp_all [py,beq,ĳ,lay]
 | .bl _,e,_,g=>by cases e<;>simp_all [py,beq,ĳ,lay]
 | .int _,e,_,g=>by cases e<;>simp_all [py,beq,ĳ,lay]
 | .str _,e,_,g=>by cases e<;>simp_all [py,beq,ĳ,lay]
 | .tup _,.ax,_,_=>by simp[py,beq,ĳ]
 | .tup _,.bl _,_,_=>by simp[py,beq,ĳ]
 | .tup _,.int _,_,_=>by simp[py,beq,ĳ]
 | .tup _,.str _,_,_=>by simp[py,beq,ĳ]
 | .tup _,.lst _,_,_=>by simp[py,beq,ĳ]
 | .lst _,.ax,_,_=>by simp[py,beq,ĳ]
 | .lst _,.bl _,_,_=>by simp[py,beq,ĳ]
 | .lst _,.int _,_,_=>by simp[py,beq,ĳ]
 | .lst _,.str _,_,_=>by simp[py,beq,ĳ]
 | .lst _,.tup _,_,_=>by simp[py,beq,ĳ]
 | .bA _,_,h,_=>by simp[lay] at h
 | .ai _,_,h,_=>by simp[lay] at h
 | .ty _,_,h,_=>by simp[lay] at h
 | .bV _,_,h,_=>by simp[lay] at h
 | .exc _ _,_,h,_=>by simp[lay] at h
 | .cN _ _ _,_,h,_=>by simp[lay] at h
 |_,.bA _,_,h=>by simp[lay] at h
 |_,.ai _,_,h=>by simp[lay] at h
 |_,.ty _,_,h=>by simp[lay] at h
 |_,.bV _,_,h=>by simp[lay] at h
 |_,.exc _ _,_,h=>by simp[lay] at h
 |_,.cN _ _ _,_,h=>by simp[lay] at h
theorem Bv:∀(ds es:List D),cU ds=true->cU es=true->PyData.eqvAll (bW ds) (bW es)=eD ds es
 | [],[],_,_=>rfl
 | [],_::_,_,_=>rfl
 |_::_,[],_,_=>rfl
 |d::ds,e::es,h,g=>by
  simp only[cU,È] at h g;simp only[bW,eD,PyData.eqvAll,u7 d e h.1 g.1,Bv ds es h.2 g.2]
end
mutual
theorem DV.py:∀{d:D} {v:V},DV K w d v->plain d=true->L2.DV K (λ_=>False) w.H (DI.py d) v
 | .ax,_,h,_=>h
 | .bl _,_,h,_=>h
 | .int _,_,h,_=>h
 | .str _,_,h,_=>h
 | .tup X,v,h,p=>by
  simp only[DV] at h;obtain⟨a,Y,e,Z,r⟩:=h;simp only[DI.py,L2.DV];exact⟨a,Y,e,Z,aq.py r (by simpa [plain] using p)⟩
 | .lst X,v,h,p=>by
  simp only[DV] at h;obtain⟨a,Y,e,Z,r⟩:=h;simp only[DI.py,L2.DV];exact⟨a,Y,e,not_false,Z.2,aq.py r (by simpa [plain] using p)⟩
 | .bA W,v,h,p=>by
  simp only[DV] at h;obtain⟨a,e,U,Z⟩:=h;simp only[DI.py,L2.DV];exact⟨a,_,e,not_false,Z,W,rfl,rfl⟩
 | .ai _,_,_,p=>by simp[plain] at p
 | .ty _,_,_,p=>by simp[plain] at p
 | .bV _,_,_,p=>by simp[plain] at p
 | .exc _ _,_,_,p=>by simp[plain] at p
 | .cN _ _ _,_,_,p=>by simp[plain] at p
theorem aq.py:∀{ds:List D} {vs:List V},aq K w ds vs->iJ ds=true->L2.aq K (λ_=>False) w.H (DI.bW ds) vs
 | [],_,h,_=>h
 |d::ds,vs,h,p=>by
  simp only[aq] at h;obtain⟨v,r,e,Z,Y⟩:=h;simp only[iJ,È] at p;exact⟨v,r,e,DV.py Z p.1,aq.py Y p.2⟩
end
noncomputable def res (d:D) (s:ae):D:=match d with
 | .ai k=>match s[k]? with
  |some (.lst Z)=>.lst Z
  |_=>d
 |_=>d
theorem DV.res (S:aL K w) (h:DV K w d v) (p:plain (DI.res d w.aD)=true):L2.DV K (λ_=>False) w.H (DI.py (DI.res d w.aD)) v:=by
 cases d with
 |ai k =>
  unfold DI.res at p |-;simp only at p |-
  split at p<;>rename_i Z
  ·rename_i V
   obtain⟨a,e1,rfl⟩:=h;obtain⟨Y,X,W⟩:=S.cell k a _ e1 Z;simp only[DI.py,L2.DV];exact⟨a,Y,rfl,not_false,X,W.py (by simpa [plain] using p)⟩
  ·simp[plain] at p
 |_=>exact h.py p
noncomputable def i7:D->Bool
 | .str _=>true
 |_=>false
def XF (h:i7 d=true):∃x,d=.str x:=by cases d<;>first|exact⟨_,rfl⟩|cases h
def gk (x y:D):Option Bool:=if (i7 x&&i7 y)=true then some (beq x y) else if (lay x&&lay y&&decide (min (dep x) (dep y)<=100))=true then some (beq x y) else none
def bH (x y:D) (s:ae):Res D:=match gk (res x s) (res y s) with
 |some b=>ok (.bl b) s
 |none=>none
def dB (x y:D) (s:ae):Res D:=match gk (res x s) (res y s) with
 |some b=>ok (.bl (!b)) s
 |none=>none
def Kv (S:aL K w) (hx:DV K w x v) (hy:DV K w y u) (h:gk (res x w.aD) (res y w.aD)=some b) :
  (Eu v u=true/\decide (v=u)=b)\/∃(d e:acZ),L2.DV K (λ_=>False) w.H d v/\L2.DV K (λ_=>False) w.H e u/\d.canLay0=true/\e.canLay0=true/\min d.depth e.depth<=100/\ĳ d e=b:=by
 have str:∀{d:D} {v:V},i7 (res d w.aD)=true->DV K w d v->∃x,res d w.aD=.str x/\v=.str x:=λ{d v} hs W=>by
  obtain⟨x,e⟩:=XF hs
  cases d with
  |str y=>cases e;exact⟨x,rfl,W⟩
  |ai k =>
   unfold res at e;simp only at e
   split at e<;>cases e
  |_=>cases e
 unfold gk at h;split at h
 ·rename_i hs
  rw[È] at hs;obtain⟨a,U,rfl⟩:=str hs.1 hx;obtain⟨c,T,rfl⟩:=str hs.2 hy;rw[U,T] at h;exact .inl ⟨rfl,by rw[<- adw h];exact BW⟩
 split at h
 ·rename_i X
  right;simp only[È,Í] at X;obtain⟨⟨Z,Y⟩,R⟩:=X;obtain⟨Q,P⟩:=mH _ Z;obtain⟨O,N⟩:=mH _ Y;exact⟨_,_,hx.res S (oX _ Z),hy.res S (oX _ Y),Q,O,by rw[P,N];exact R,by rw[u7 _ _ Z Y];exact adw h⟩
 ·cases h
section
variable {X:Cx} {Ξ:Wd->aQ->Prop}
def dR (hr:bC k X.A):bp X (ě .Eq) (rO X.K Ξ bH):=by
 intro W s σ H x y v u Q I V U zzz;obtain⟨w,J,G,rfl,S,T,R,h⟩:=zzz;unfold bH at h;split at h
 ·rename_i b P
  rcases Kv S T R P with ⟨Z,Y⟩ | ⟨d,e,Z,Y,O,N,M,L⟩
  ·exact YR W s σ w.H x y v u Q I V U ⟨Z,by rw[Y];exact aI S h _ rfl⟩
  exact Xu hr W s σ w.H x y v u Q I V U ⟨d,e,_,Z,Y,O,N,M,by simp only[Ã,î];rw[L];exact aI S h _ rfl⟩
 ·exact h.elim
def lS (hr:bC k X.A):bp X (ě .NotEq) (rO X.K Ξ dB):=by
 intro W s σ H x y v u Q I V U zzz;obtain⟨w,J,G,rfl,S,T,R,h⟩:=zzz;unfold dB at h;split at h
 ·rename_i b P
  rcases Kv S T R P with ⟨Z,Y⟩ | ⟨d,e,Z,Y,O,N,M,L⟩
  ·exact YS W s σ w.H x y v u Q I V U ⟨Z,by rw[Y];exact aI S h _ rfl⟩
  exact Xv hr W s σ w.H x y v u Q I V U ⟨d,e,_,Z,Y,O,N,M,by simp only[ï];rw[L];exact aI S h _ rfl⟩
 ·exact h.elim
end
end DI
namespace DI
open PySem L2
def bq (r:Option D) (s:ae):Res D:=match r with
 |some d=>ok d s
 |none=>none
def ff (h:Out K Ξ w (bq r w.aD) k):∃d,r=some d/\Out K Ξ w (ok d w.aD) k:=by
 unfold bq at h;split at h
 ·exact⟨_,rfl,h⟩
 ·exact h.elim
noncomputable def gp (xs ys:List D):Bool:=decide (xs.length+ys.length<=Ø)
def lU:D->D->Option D
 | .int i,.int j=>some (.int (i+j))
 | .tup Z,.tup Y=>if gp Z Y=true then some (.tup (Z++Y)) else none
 | .lst Z,.lst Y=>if gp Z Y=true then some (.lst (Z++Y)) else none
 | .str x,.str y=>if decide (x.length+y.length<=Ø)=true then some (.str (x++y)) else none
 |_,_=>none
def bX (x y:D) (s:ae):Res D:=bq (lU (res x s) (res y s)) s
noncomputable def Ng:D->D->Option D
 | .int i,.int j=>some (.int (i-j))
 |_,_=>none
def su (x y:D) (s:ae):Res D:=bq (Ng x y) s
noncomputable def vz (i j:Int):Bool:=(decide (-(2 ^ 64)<i)&&decide (i<2 ^ 64))||(decide (-(2 ^ 64)<j)&&decide (j<2 ^ 64))
def EO:D->D->Option D
 | .int i,.int j=>if vz i j=true then some (.int (i*j)) else none
 | .tup Z,.int k=>if (!Z.isEmpty&&decide (1<=k)&&decide (Z.length*k.toNat<=Ø))=true then some (.tup (Ï k.toNat Z).flatten) else none
 | .lst Z,.int k=>if (decide (-(2 ^ 63)<=k)&&decide (k<2 ^ 63)&&decide (Z.length*k.toNat<=Ø))=true then some (.lst (Ï k.toNat Z).flatten) else none
 |_,_=>none
def fO (x y:D) (s:ae):Res D:=bq (EO x y) s
noncomputable def ER:D->D->Option D
 | .int i,.int j=>if decide (0<j)=true then some (.int (i % j)) else none
 |_,_=>none
def ku (x y:D) (s:ae):Res D:=bq (ER x y) s
noncomputable def ES:D->D->Option D
 | .int i,.int j=>if (decide (0<j)&&decide (j<1073741824))=true then some (.int (i / j)) else none
 |_,_=>none
def pQ (x y:D) (s:ae):Res D:=bq (ES x y) s
noncomputable def ET:D->D->Option D
 | .int i,.int j=>if (decide (0<=j)&&decide (j<=1000000)&&decide (i.natAbs<2 ^ 64))=true then some (.int (i ^ j.toNat)) else none
 |_,_=>none
def vA (x y:D) (s:ae):Res D:=bq (ET x y) s
noncomputable def Nh:D->Option D
 | .int i=>some (.int (-i))
 |_=>none
def iq (x:D) (s:ae):Res D:=bq (Nh x) s
theorem aq.flat (h:aq K w ds vs):∀n:Nat,aq K w (Ï n ds).flatten (Ï n vs).flatten
 |0=>rfl
 |n+1=>by
  rw[Ř,Ř,δ,δ];exact aq.append h (aq.flat h n)
def jh (S:aL K w) (h:DV K w d v) (e:res d w.aD=.lst ds):∃a xs,v=.ref a/\w.H a=some (.lst xs)/\aq K w ds xs:=by
 unfold res at e;split at e
 ·rename_i k
  split at e
  ·rename_i V Z
   cases e;obtain⟨a,e1,rfl⟩:=h;obtain⟨xs,Y,X⟩:=S.cell k a _ e1 Z;exact⟨a,xs,rfl,Y,X⟩
  ·cases e
 ·subst e
  simp only[DV] at h;obtain⟨a,xs,e,W,r⟩:=h;exact⟨a,xs,e,W.2,r⟩
def fg (h:res d s=e) (hl:∀ds,e≠.lst ds):d=e:=by
 unfold res at h;split at h
 ·split at h
  ·exact absurd h.symm (hl _)
  ·exact h
 ·exact h
section
variable {X:Cx} {Ξ:Wd->aQ->Prop}
def qa (S:aL K w) (ao:aq K w ds vs) (h:Out K Ξ w (ok (D.tup ds) w.aD) λw' d=>∀v,DV K w' d v->Q v w'.H):om K w.H vs Q:=λa Z e Y =>
 h (w.same Z) (Fw.same e).le (S.same e) rfl (.ref a) ⟨a,vs,rfl,Y,(Fw.same e).le.all ao⟩
def vV {K:ĥ} {w:Wd} {ds:List D} {vs:List V} {Q:VK} (S:aL K w) (ao:aq K w ds vs) (h:Out K Ξ w (ok (D.lst ds) w.aD) λw' d=>∀v,DV K w' d v->Q v w'.H):∀p,w.H p=none->Q (.ref p) (upd w.H p (.lst vs)):=λp Y =>
 h (w.grow p (.lst vs)) (Fw.grow Y).le (S.grow Y) rfl (.ref p) ⟨p,vs,rfl,⟨(show ¬ w.Z p from pC S Y),cW⟩,(Fw.grow Y).le.all ao⟩
def XG {K:ĥ} {w:Wd} {ds:List D} {vs:List V} {Q:VK} (S:aL K w) (ao:aq K w ds vs) (h:Out K Ξ w (ok (D.tup ds) w.aD) λw' d=>∀v,DV K w' d v->Q v w'.H):∀p,w.H p=none->Q (.ref p) (upd w.H p (.tup vs)):=λp Z =>
 h (w.grow p (.tup vs)) (Fw.grow Z).le (S.grow Z) rfl (.ref p) ⟨p,vs,rfl,bz.of cW,(Fw.grow Z).le.all ao⟩
def fz:bp X (ś .Add) (rO X.K Ξ bX):=by
 intro T s σ H x y v u Q I R P zzz;obtain⟨w,J,G,rfl,S,Z,Y,h⟩:=zzz;obtain⟨d,e,h⟩:=ff h;unfold lU at e;split at e
 ·rename_i i j e1 e2
  rw[fg e1 (by intro _ z;cases z)] at Z;rw[fg e2 (by intro _ z;cases z)] at Y;cases e;cases Z;cases Y;exact Xb T s σ w.H _ _ v u Q I R P ⟨i,j,rfl,rfl,aI S h _ rfl⟩
 ·rename_i M L e1 e2
  rw[fg e1 (by intro _ z;cases z)] at Z;rw[fg e2 (by intro _ z;cases z)] at Y;split at e
  ·rename_i W
   cases e;simp only[DV] at Z Y;obtain⟨a,as,rfl,O,V⟩:=Z;obtain⟨b,bs,rfl,N,U⟩:=Y;exact Vl T s σ w.H _ _ v u Q I R P ⟨a,b,as,bs,rfl,rfl,O,N,by rw[<- V.length,<- U.length];exact ċ W,qa S (V.append U) h⟩
  ·cases e
 ·rename_i M L e1 e2
  split at e
  ·rename_i W
   cases e;obtain⟨a,as,rfl,O,V⟩:=jh S Z e1;obtain⟨b,bs,rfl,N,U⟩:=jh S Y e2;exact Xq T s σ w.H _ _ v u Q I R P ⟨a,b,as,bs,rfl,rfl,O,N,by rw[<- V.length,<- U.length];exact ċ W,vV S (V.append U) h⟩
  ·cases e
 ·rename_i i j e1 e2
  rw[fg e1 (by intro _ z;cases z)] at Z;rw[fg e2 (by intro _ z;cases z)] at Y;split at e
  ·rename_i W
   cases e;cases Z;cases Y;exact Qx T s σ w.H _ _ v u Q I R P ⟨i,j,rfl,rfl,ċ W,aI S h _ rfl⟩
  ·cases e
 ·cases e
def DG:bp X (ś .Sub) (rO X.K Ξ su):=by
 intro Z s σ H x y v u Q I Y W zzz;obtain⟨w,T,R,rfl,S,V,U,h⟩:=zzz;obtain⟨d,e,h⟩:=ff h;unfold Ng at e;split at e
 ·rename_i i j
  cases e;cases V;cases U;exact Xc Z s σ w.H _ _ v u Q I Y W ⟨i,j,rfl,rfl,aI S h _ rfl⟩
 ·cases e
def mQ:bp X (ś .Mult) (rO X.K Ξ fO):=by
 intro V s σ H x y v u Q I U T zzz;obtain⟨w,M,L,rfl,S,Y,R,h⟩:=zzz;obtain⟨d,e,h⟩:=ff h;unfold EO at e;split at e
 ·rename_i i j
  split at e
  ·rename_i Z
   cases e;cases Y;cases R;refine Xd V s σ w.H _ _ v u Q I U T ⟨i,j,rfl,rfl,?_,aI S h _ rfl⟩;unfold zA;simpa [vz] using Z
  ·cases e
 ·rename_i O k
  split at e
  ·rename_i Z
   cases e;cases R;simp only[È,Í] at Z;simp only[DV] at Y;obtain⟨a,as,rfl,P,W⟩:=Y;have N:=W.length;refine Vx V s σ w.H _ _ v u Q I U T ⟨a,as,k,rfl,rfl,P,?_,Z.1.2,by rw[<- N];exact Z.2,qa S (W.flat _) h⟩;intro z;subst z
   cases O with
   |nil=>simp at Z
   |cons _ _=>cases N
  ·cases e
 ·rename_i O k
  split at e
  ·rename_i Z
   cases e;cases R;simp only[È,Í] at Z;simp only[DV] at Y;obtain⟨a,as,rfl,P,W⟩:=Y;exact Xr V s σ w.H _ _ v u Q I U T ⟨a,k,as,rfl,rfl,P.2,Z.1.1,Z.1.2,by rw[<- W.length];exact Z.2,vV S (W.flat _) h⟩
  ·cases e
 ·cases e
def n6:bp X (ś .Mod) (rO X.K Ξ ku):=by
 intro Z s σ H x y v u Q I Y W zzz;obtain⟨w,R,P,rfl,S,V,U,h⟩:=zzz;obtain⟨d,e,h⟩:=ff h;unfold ER at e;split at e
 ·rename_i i j
  split at e
  ·rename_i T
   cases e;cases V;cases U;exact Xe Z s σ w.H _ _ v u Q I Y W ⟨i,j,rfl,rfl,ċ T,aI S h _ rfl⟩
  ·cases e
 ·cases e
def zm:bp X (ś .FloorDiv) (rO X.K Ξ pQ):=by
 intro Y s σ H x y v u Q I W V zzz;obtain⟨w,R,P,rfl,S,U,T,h⟩:=zzz;obtain⟨d,e,h⟩:=ff h;unfold ES at e;split at e
 ·rename_i i j
  split at e
  ·rename_i Z
   simp only[È,Í] at Z;cases e;cases U;cases T;exact U5 Y s σ w.H _ _ v u Q I W V ⟨i,j,rfl,rfl,Z,aI S h _ rfl⟩
  ·cases e
 ·cases e
def Mr:bp X (ś .Pow) (rO X.K Ξ vA):=by
 intro Y s σ H x y v u Q I W V zzz;obtain⟨w,R,P,rfl,S,U,T,h⟩:=zzz;obtain⟨d,e,h⟩:=ff h;unfold ET at e;split at e
 ·rename_i i j
  split at e
  ·rename_i Z
   simp only[È,Í] at Z;cases e;cases U;cases T;exact Xf Y s σ w.H _ _ v u Q I W V ⟨i,j,rfl,rfl,⟨Z.1.1,Z.1.2,Z.2⟩,aI S h _ rfl⟩
  ·cases e
 ·cases e
def sv:wz X (unaryOp .USub) (rU X.K Ξ iq):=by
 intro Z s σ H x v Q I Y zzz;obtain⟨w,V,rfl,S,W,h⟩:=zzz;obtain⟨d,e,h⟩:=ff h;unfold Nh at e;split at e
 ·rename_i i
  cases e;cases W;exact Xg Z s σ w.H _ v Q I Y ⟨i,rfl,aI S h _ rfl⟩
 ·cases e
noncomputable def sT (p:Int->Int->Bool):D->D->Option D
 | .int i,.int j=>some (.bl (p i j))
 |_,_=>none
def ot (x y:D) (s:ae):Res D:=bq (sT (λi j=>decide (i<=j)) x y) s
def mW (x y:D) (s:ae):Res D:=bq (sT (λi j=>decide (j<i)) x y) s
def vW (x y:D) (s:ae):Res D:=bq (sT (λi j=>decide (j<=i)) x y) s
def vX:bp X (ě .LtE) (rO X.K Ξ ot):=by
 intro Z s σ H x y v u Q I Y W zzz;obtain⟨w,T,R,rfl,S,V,U,h⟩:=zzz;obtain⟨d,e,h⟩:=ff h;unfold sT at e;split at e
 ·rename_i i j
  cases e;cases V;cases U;exact YT Z s σ w.H _ _ v u Q I Y W ⟨i,j,rfl,rfl,aI S h _ rfl⟩
 ·cases e
def zL:bp X (ě .Gt) (rO X.K Ξ mW):=by
 intro Z s σ H x y v u Q I Y W zzz;obtain⟨w,T,R,rfl,S,V,U,h⟩:=zzz;obtain⟨d,e,h⟩:=ff h;unfold sT at e;split at e
 ·rename_i i j
  cases e;cases V;cases U;exact YU Z s σ w.H _ _ v u Q I Y W ⟨i,j,rfl,rfl,aI S h _ rfl⟩
 ·cases e
def Ni:bp X (ě .GtE) (rO X.K Ξ vW):=by
 intro Z s σ H x y v u Q I Y W zzz;obtain⟨w,T,R,rfl,S,V,U,h⟩:=zzz;obtain⟨d,e,h⟩:=ff h;unfold sT at e;split at e
 ·rename_i i j
  cases e;cases V;cases U;exact YV Z s σ w.H _ _ v u Q I Y W ⟨i,j,rfl,rfl,aI S h _ rfl⟩
 ·cases e
def ig (d i:D) (s:ae):Option D:=match res d s,i with
 | .lst Z,.int i=>c9 Z i
 | .tup Z,.int i=>c9 Z i
 | .bV Y,.int i=>(c9 Y i).map D.int
 | .str x,.int i=>if decide (x.length<=Ø)=true then (c9 x.cps.toList i).map λc=>.str ⟨#[c]⟩ else none
 |_,_=>none
def ar (x y:D) (s:ae):Res D:=bq (ig x y s) s
theorem aq.at (h:aq K w ds vs) (e:c9 ds i=some d):∃v,c9 vs i=some v/\DV K w d v:=by
 unfold c9 at e |-;rw[h.length] at e
 cases hi:e9 vs.length i with
 |none=>rw[hi] at e;cases e
 |some j =>
  rw[hi] at e;exact h.get' j d e
def aaQ:wH X (rO X.K Ξ ar):=by
 rintro value slice T s σ H x y v u Q I R P ⟨w,B,A,rfl,S,Z,O,h⟩ hs;obtain⟨d,e,N⟩:=ff h;clear h;unfold ig at e;split at e
 ·rename_i D i e1
  cases O;obtain⟨a,M,rfl,W,L⟩:=jh S Z e1;obtain⟨z,J,G⟩:=L.at e;exact Kc value slice T s σ w.H _ _ v u Q I R P ⟨a,M,i,z,rfl,rfl,bh.of W,J,aI S N _ G⟩ hs
 ·rename_i D i e1
  cases O;rw[fg e1 (by intro _ z;cases z)] at Z;simp only[DV] at Z;obtain⟨a,M,rfl,W,L⟩:=Z;obtain⟨z,J,G⟩:=L.at e;exact Xm value slice T s σ w.H _ _ v u Q I R P ⟨a,M,i,z,rfl,rfl,W,J,aI S N _ G⟩ hs
 ·rename_i U i e1
  cases O;rw[fg e1 (by intro _ z;cases z)] at Z;simp only[DV] at Z;obtain⟨a,rfl,W⟩:=Z
  cases Y:c9 U i with
  |none=>rw[Y] at e;cases e
  |some n =>
   rw[Y] at e;cases e;refine Kc value slice T s σ w.H _ _ v u Q I R P ⟨a,U.map V.int,i,.int n,rfl,rfl,W.sq,?_,aI S N _ rfl⟩ hs;unfold c9 at Y |-;rw[Â]
   cases E:e9 U.length i with
   |none=>rw[E] at Y;cases Y
   |some j =>
    rw[E] at Y;show (U.map V.int)[j]?=some (.int n);rw[è,show U[j]?=some n from Y];rfl
 ·rename_i z i e1
  cases O;rw[fg e1 (by intro _ z;cases z)] at Z;cases Z;split at e
  ·rename_i C
   cases F:c9 z.cps.toList i with
   |none=>rw[F] at e;cases e
   |some c =>
    rw[F] at e;cases e;exact Xn value slice T s σ w.H _ _ v u Q I R P ⟨z,i,c,rfl,rfl,ċ C,F,aI S N _ rfl⟩ hs
  ·cases e
 ·cases e
def aT (ha:PE X a (tE X.K Ξ f)) (hb:PE X b (tE X.K Ξ g)) (hs:Kb b:=by intro _ _;rfl):PE X (.Subscript a b pos) (tE X.K Ξ (e2 ar f g)):=cb (Y4 aaQ ha hb hs) yB
def qc (d:D) (s:ae):Option D:=match res d s with
 | .lst Z=>some (.int Z.length)
 | .tup Z=>some (.int Z.length)
 | .bV Y=>some (.int Y.length)
 | .str x=>if decide (x.length<=Ø)=true then some (.int x.length) else none
 |_=>none
def bN (ds:List D) (s:ae):Res D:=match ds with
 | [d]=>bq (qc d s) s
 |_=>none
def lu (h:aq K w [d] vs):∃v,vs=[v]/\DV K w d v:=by
 obtain⟨v,r,rfl,Z,Y⟩:=h;have e:r=[]:=Y;subst e;exact⟨v,rfl,Z⟩
def CP (h:aq K w [d,e] vs):∃v u,vs=[v,u]/\DV K w d v/\DV K w e u:=by
 obtain⟨v,r,rfl,Z,h⟩:=h;obtain⟨u,rfl,Y⟩:=lu h;exact⟨v,u,rfl,Z,Y⟩
def dZ:cT X (.builtin "len") (rC X.K Ξ bN):=by
 intro U s σ H T R Q I r zzz;obtain⟨w,M,rfl,S,Y,h⟩:=zzz;unfold bN at h;split at h
 ·obtain⟨v,rfl,Z⟩:=lu Y
  obtain⟨d,e,h⟩:=ff h;unfold qc at e;split at e
  ·rename_i P e1
   cases e;obtain⟨a,T,rfl,W,Y⟩:=jh S Z e1;exact AU U s σ w.H _ R Q I r ⟨a,T,rfl,.inl (bh.of W),by rw[<- Y.length];exact aI S h _ rfl⟩
  ·rename_i P e1
   cases e;rw[fg e1 (by intro _ z;cases z)] at Z;simp only[DV] at Z;obtain⟨a,T,rfl,W,Y⟩:=Z;exact AU U s σ w.H _ R Q I r ⟨a,T,rfl,.inr W,by rw[<- Y.length];exact aI S h _ rfl⟩
  ·rename_i O e1
   cases e;rw[fg e1 (by intro _ z;cases z)] at Z;simp only[DV] at Z;obtain⟨a,rfl,W⟩:=Z;exact AU U s σ w.H _ R Q I r ⟨a,O.map V.int,rfl,.inl W.sq,by rw[Â];exact aI S h _ rfl⟩
  ·rename_i z e1
   rw[fg e1 (by intro _ z;cases z)] at Z;cases Z;split at e
   ·rename_i N
    cases e;exact Pr U s σ w.H _ R Q I r ⟨z,rfl,ċ N,aI S h _ rfl⟩
   ·cases e
  ·cases e
 ·exact h.elim
noncomputable def gJ:List D->Option (List Bool)
 | []=>some []
 | .bl b::Z=>(gJ Z).map λr=>b::r
 |_::_=>none
theorem CQ:∀{ds:List D} {bs:List Bool},gJ ds=some bs->ds=bs.map D.bl
 | [],bs,h=>by cases h;rfl
 | .bl b::ds,bs,h=>by
  simp only[gJ] at h
  cases Z:gJ ds with
  |none=>rw[Z] at h;cases h
  |some r=>rw[Z] at h;cases h;rw[CQ Z];rfl
 | .ax::_,_,h=>by cases h
 | .int _::_,_,h=>by cases h
 | .str _::_,_,h=>by cases h
 | .tup _::_,_,h=>by cases h
 | .lst _::_,_,h=>by cases h
 | .bA _::_,_,h=>by cases h
 | .ai _::_,_,h=>by cases h
 | .ty _::_,_,h=>by cases h
 | .bV _::_,_,h=>by cases h
 | .exc _ _::_,_,h=>by cases h
 | .cN _ _ _::_,_,h=>by cases h
def Kw:gJ (bs.map D.bl)=some bs:=by
 induction bs with
 |nil=>rfl
 |cons b bs ih=>simp only[Î,gJ,ih,abn]
def mY (ds:List D) (s:ae):Res D:=match ds with
 | [d]=>match res d s with
  | .lst Z=>bq ((gJ Z).map λbs=>.bl (bs.all id)) s
  |_=>none
 |_=>none
def ou (ds:List D) (s:ae):Res D:=match ds with
 | [d]=>match res d s with
  | .lst Z=>bq ((gJ Z).map λbs=>.bl (bs.any id)) s
  |_=>none
 |_=>none
def sx (hc:X.calm=true):cT X (.builtin "all") (rC X.K Ξ mY):=by
 intro V s σ H U T Q I r zzz;obtain⟨w,O,rfl,S,Z,h⟩:=zzz;unfold mY at h;split at h
 ·obtain⟨v,rfl,R⟩:=lu Z
  split at h
  ·rename_i P e1
   obtain⟨d,e,h⟩:=ff h
   cases Y:gJ P with
   |none=>rw[Y] at e;cases e
   |some bs =>
    rw[Y] at e;cases e;obtain⟨a,U,rfl,W,Z⟩:=jh S R e1;rw[CQ Y] at Z;rw[Z.Ca] at W;exact Tr hc V s σ w.H _ T Q I r ⟨a,bs,rfl,bh.of W,aI S h _ rfl⟩
  ·exact h.elim
 ·exact h.elim
def DH (hc:X.calm=true):cT X (.builtin "any") (rC X.K Ξ ou):=by
 intro V s σ H U T Q I r zzz;obtain⟨w,O,rfl,S,Z,h⟩:=zzz;unfold ou at h;split at h
 ·obtain⟨v,rfl,R⟩:=lu Z
  split at h
  ·rename_i P e1
   obtain⟨d,e,h⟩:=ff h
   cases Y:gJ P with
   |none=>rw[Y] at e;cases e
   |some bs =>
    rw[Y] at e;cases e;obtain⟨a,U,rfl,W,Z⟩:=jh S R e1;rw[CQ Y] at Z;rw[Z.Ca] at W;exact Ts hc V s σ w.H _ T Q I r ⟨a,bs,rfl,bh.of W,aI S h _ rfl⟩
  ·exact h.elim
 ·exact h.elim
def eU (ds:List D) (s:ae):Res D:=match ds with
 | [d]=>match res d s with
  | .lst Z=>ok (.tup Z) s
  | .tup Z=>ok (.tup Z) s
  |_=>none
 |_=>none
def lh:cT X (.type "tuple") (rC X.K Ξ eU):=by
 intro U s σ H Y T Q I r zzz;obtain⟨w,O,rfl,S,W,h⟩:=zzz;unfold eU at h;split at h
 ·obtain⟨v,rfl,Z⟩:=lu W
  split at h
  ·rename_i R e1
   obtain⟨a,Y,rfl,V,W⟩:=jh S Z e1;exact Hw U s σ w.H _ T Q I r ⟨a,Y,rfl,.inl ⟨bh.of V,XG S W h⟩⟩
  ·rename_i R e1
   rw[fg e1 (by intro _ z;cases z)] at Z;have P:=Z;simp only[DV] at Z;obtain⟨a,Y,rfl,V,W⟩:=Z;exact Hw U s σ w.H _ T Q I r ⟨a,Y,rfl,.inr ⟨V,aI S h _ P⟩⟩
  ·exact h.elim
 ·exact h.elim
end
def mR (n:Nat) (x:D) (ds:List D):Bool:=lay x&&cU ds&&decide (dep x<=n)
def inD (x:D) (ds:List D):Option Bool:=if mR 100 x ds=true then some (ds.any λy=>beq y x) else none
def mS (d:D) (s:ae):Option (List D):=match res d s with
 | .lst Z=>some Z
 | .tup Z=>some Z
 |_=>none
def di (x y:D) (s:ae):Res D:=match mS y s with
 |some Z=>bq ((inD x Z).map D.bl) s
 |none=>none
def gX (x y:D) (s:ae):Res D:=match mS y s with
 |some Z=>bq ((inD x Z).map λb=>D.bl (!b)) s
 |none=>none
def Jx (S:aL K w) (h:DV K w d v) (e:mS d w.aD=some ds):∃a xs,v=.ref a/\(w.H a=some (.lst xs)\/bz K w.H a xs)/\aq K w ds xs:=by
 unfold mS at e;split at e
 ·rename_i X e1
  cases e;obtain⟨a,xs,rfl,Z,Y⟩:=jh S h e1;exact⟨a,xs,rfl,.inl Z,Y⟩
 ·rename_i X e1
  cases e;rw[fg e1 (by intro _ z;cases z)] at h;simp only[DV] at h;obtain⟨a,xs,rfl,Z,Y⟩:=h;exact⟨a,xs,rfl,.inr Z,Y⟩
 ·cases e
section
variable {X:Cx} {Ξ:Wd->aQ->Prop} {π:List (ä×Obj)} {σ:St} {s:Å}
theorem CS (lx:lay x=true):∀{ds:List D},cU ds=true->((bW ds).any λy=>ĳ y (py x))=ds.any λy=>beq y x
 | [],_=>rfl
 |d::ds,h=>by
  simp only[cU,È] at h;simp only[bW,ab2,u7 d x h.1 lx,CS lx h.2]
def LF (h:inD x ds=some b):lay x=true/\cU ds=true/\dep x<=100/\(ds.any λy=>beq y x)=b:=by
 unfold inD mR at h;split at h
 ·rename_i Z
  simp only[È,Í] at Z;exact⟨Z.1.1,Z.1.2,Z.2,adw h⟩
 ·cases h
def hZ (hr:bC k X.A):bp X (ě .In) (rO X.K Ξ di):=by
 intro π s σ H x y v u Q I J T zzz;obtain⟨w,W,B,rfl,S,G,F,h⟩:=zzz;unfold di at h;split at h
 ·rename_i Z E
  obtain⟨d,e,h⟩:=ff h
  cases V:inD W Z with
  |none=>rw[V] at e;cases e
  |some b =>
   rw[V] at e;cases e;obtain⟨U,Y,z,D⟩:=LF V;obtain⟨R,C⟩:=mH _ U;obtain⟨P,t⟩:=uD _ Y;obtain⟨bs,O⟩:=(G.py (oX _ U)).reads I J;have N:X.A.units+1+min (Ļ (bW Z)) (py W).depth<acg:=by
    have:=hr.un;rw[C];omega
   obtain⟨a,M,rfl,ha,L⟩:=Jx S F E;have fin:EP X π σ Q (.bool ((bW Z).any λy=>ĳ y (py W))) s:=⟨.bl b,w.H,I,by rw[CS U Y,D];rfl,aI S h _ rfl⟩
   rcases ha with ha|ha
   ·obtain⟨cs,rc⟩:=(show L2.DV X.K (λ_=>False) w.H (.list (bW Z)) (.ref a) by simp only[L2.DV];exact⟨a,M,rfl,not_false,ha,L.py (oV _ Y)⟩).reads I T
    exact SeqAt.in_list_reads rc O P R N fin
   ·obtain⟨cs,rc⟩:=(show L2.DV X.K (λ_=>False) w.H (.tuple (bW Z)) (.ref a) by simp only[L2.DV];exact⟨a,M,rfl,ha,L.py (oV _ Y)⟩).reads I T
    exact SeqAt.in_tuple_reads rc O P R N fin
 ·exact h.elim
def yC (hr:bC k X.A):bp X (ě .NotIn) (rO X.K Ξ gX):=by
 intro π s σ H x y v u Q I J T zzz;obtain⟨w,W,B,rfl,S,G,F,h⟩:=zzz;unfold gX at h;split at h
 ·rename_i Z E
  obtain⟨d,e,h⟩:=ff h
  cases V:inD W Z with
  |none=>rw[V] at e;cases e
  |some b =>
   rw[V] at e;cases e;obtain⟨U,Y,z,D⟩:=LF V;obtain⟨R,C⟩:=mH _ U;obtain⟨P,t⟩:=uD _ Y;obtain⟨bs,O⟩:=(G.py (oX _ U)).reads I J;have N:X.A.units+1+min (Ļ (bW Z)) (py W).depth<acg:=by
    have:=hr.un;rw[C];omega
   obtain⟨a,M,rfl,ha,L⟩:=Jx S F E;have fin:EP X π σ Q (.bool (!(bW Z).any λy=>ĳ y (py W))) s:=⟨.bl (!b),w.H,I,by rw[CS U Y,D];rfl,aI S h _ rfl⟩
   rcases ha with ha|ha
   ·obtain⟨cs,rc⟩:=(show L2.DV X.K (λ_=>False) w.H (.list (bW Z)) (.ref a) by simp only[L2.DV];exact⟨a,M,rfl,not_false,ha,L.py (oV _ Y)⟩).reads I T
    exact SeqAt.notIn_list_reads rc O P R N fin
   ·obtain⟨cs,rc⟩:=(show L2.DV X.K (λ_=>False) w.H (.tuple (bW Z)) (.ref a) by simp only[L2.DV];exact⟨a,M,rfl,ha,L.py (oV _ Y)⟩).reads I T
    exact SeqAt.notIn_tuple_reads rc O P R N fin
 ·exact h.elim
def tP (K:ĥ) (Ξ:Wd->aQ->Prop) (f:adq (Option Int)):TO:=fun σ H Q=>∃w env,w.H=H/\aL K w/\bQ K w env σ/\Out K Ξ w (f env w.aD) λZ i=>Q i Z.H
def i8:adq (Option Int):=λ_ s=>ok none s
def iT (f:adq D):adq (Option Int):=λenv s=>ak (f env s) λd s=>match d with
 | .int i=>ok (some i) s
 |_=>none
variable {e a b:ľ} {lo hi:Option ľ} {pos p2 p3 p4:Pos} {f g:adq D}
def LG (h:PO X lo t) (i:∀ σ H Q,t' σ H Q->t σ H Q):PO X lo t':=λπ s σ H Q I Z=>h π s σ H Q I (i σ H Q Z)
def zM:PO X none (tP X.K Ξ i8):=LG Ve fun σ H Q Z=>by
 obtain⟨w,env,Y,S,W,h⟩:=Z;subst Y;exact aI S h
def zo (he:PE X e (tE X.K Ξ f)):PO X (some e) (tP X.K Ξ (iT f)):=LG (Vf he) fun σ H Q Y=>by
 obtain⟨w,env,W,S,V,h⟩:=Y;subst W;refine⟨w,env,rfl,S,V,(Out.ak h).mono λR d P U Z v T=>?_⟩
 cases d with
 |int i=>exact⟨i,T,aI U Z⟩
 |_=>exact Z.elim
noncomputable def cutD (xs:List D) (lo hi:Option Int):List D:=(xs.drop (HT.aU xs.length 0 lo)).take (HT.aU xs.length xs.length hi-HT.aU xs.length 0 lo)
def lA (d:D) (lo hi:Option Int) (s:ae):Res D:=match res d s with
 | .tup Z=>ok (.tup (cutD Z lo hi)) s
 | .lst Z=>ok (.lst (cutD Z lo hi)) s
 |_=>none
def i9 (f:adq D) (l h:adq (Option Int)):adq D:=λenv s=>ak (f env s) λd s=>ak (l env s) λlo s=>ak (h env s) λhi s=>lA d lo hi s
def rSl (K:ĥ) (Ξ:Wd->aQ->Prop):V->Option Int->Option Int->Hp->VK->Prop:=λx lo hi H Q=>∃w Z,w.H=H/\aL K w/\DV K w Z x/\Out K Ξ w (lA Z lo hi w.aD) λY d=>∀v,DV K Y d v->Q v Y.H
def XH:wG X (rSl X.K Ξ):=by
 intro π s σ H x v U T lo hi R Q I P hs O pu zzz;obtain⟨w,M,rfl,S,Y,h⟩:=zzz;unfold lA at h;split at h
 ·rename_i N e1
  rw[fg e1 (by intro _ z;cases z)] at Y;simp only[DV] at Y;obtain⟨a,W,rfl,V,Z⟩:=Y;refine Vk π s σ w.H _ v U T lo hi R Q I P hs O pu ⟨a,W,rfl,V,qa S ?_ h⟩;unfold cutD kA;rw[Z.length];exact(Z.drop _).take _
 ·rename_i N e1
  obtain⟨a,W,rfl,V,Z⟩:=jh S Y e1;refine Vh π s σ w.H _ v U T lo hi R Q I P hs O pu ⟨a,W,rfl,bh.of V,vV S ?_ h⟩;unfold cutD kA;rw[Z.length];exact(Z.drop _).take _
 ·exact h.elim
def zN (he:PE X e (tE X.K Ξ f)) (hl:PO X lo (tP X.K Ξ fl)) (hu:PO X hi (tP X.K Ξ fh)):PE X (.Subscript e (.Slice lo hi none p2) pos) (tE X.K Ξ (i9 f fl fh)) :=
 cb (To XH he hl hu) fun σ H Q V=>by
  obtain⟨w,env,U,S,Z,h⟩:=V;subst U;exact⟨w,env,rfl,S,Z,(Out.ak h).mono λT d Y R P v O=>⟨T,env,rfl,R,Z.le Y,(Out.ak P).mono λN i W M L=>⟨N,env,rfl,M,Z.le (Y.trans W),(Out.ak L).mono λJ j I G F=>⟨J,d,rfl,G,(W.trans I) _ _ O,F⟩⟩⟩⟩
def ia (d x:D) (s:ae):Res D:=match d with
 | .ai k=>match s[k]? with
  |some (.lst Z)=>if decide (Z.length<Ø)=true then ok .ax (s.set k (.lst (Z++[x]))) else none
  |_=>none
 |_=>none
noncomputable def iU (d:D) (s:ae):Bool:=match d with
 | .ai k=>match s[k]? with
  |some (.lst _)=>true
  |_=>false
 |_=>false
def gr (f g:adq D):adq D:=λenv s=>ak (f env s) λd s=>if iU d s=true then ak (g env s) λx s=>ia d x s else none
def VF (S:aL K w) (dv:DV K w d v) (h:iU d w.aD=true):∃k a ds xs,d=.ai k/\v=.ref a/\w.ρ[k]?=some a/\w.aD[k]?=some (.lst ds)/\w.H a=some (.lst xs)/\aq K w ds xs:=by
 unfold iU at h;split at h
 ·rename_i k
  split at h
  ·rename_i ds Z
   obtain⟨a,e1,rfl⟩:=dv;obtain⟨xs,Y,X⟩:=S.cell k a _ e1 Z;exact⟨k,a,ds,xs,rfl,rfl,e1,Z,Y,X⟩
  ·cases h
 ·cases h
def XI (S:aL K w) (dv:DV K w d v) (du:DV K w y u) (h:Out K Ξ w (ia d y w.aD) q):∃a xs,v=.ref a/\w.H a=some (.lst xs)/\xs.length<Ø/\∃w',w'.H=upd w.H a (.lst (xs++[u]))/\q w' .ax:=by
 unfold ia at h;split at h
 ·rename_i k
  split at h
  ·rename_i Z Y
   split at h
   ·rename_i V
    obtain⟨a,e1,rfl⟩:=dv;obtain⟨xs,U,X⟩:=S.cell k a _ e1 Y;have W:(Cell.lst Z)≠.dead:=by intro z;cases z
    have le:=(Fw.put (K:=K) (o:=.lst (xs++[u])) (c:=.lst (Z++[y])) S e1 Y W).le;refine⟨a,xs,rfl,U,by rw[<- X.length];exact ċ V,w.put k a (.lst (xs++[u])) (.lst (Z++[y])),rfl,?_⟩;exact h _ le (S.zI e1 Y W ⟨_,cW,le.all (X.append (aq.one du))⟩) rfl
   ·exact h.elim
  ·exact h.elim
 ·exact h.elim
def lK {o:ľ} {apos dI:Pos} (ho:PE X o (tE X.K Ξ f)) (ha:PE X a (tE X.K Ξ g))
  (Dy:aby o "append" X.env (ţ o X.env)=ţ o X.env:=by rfl)
  (Ez:((ũ dI (ß [a] X.env)).all (λx=>!x.1)&&(ac7 dI (abl [] X.env)).all (λx=>x.1.isSome)
   && decide (([a]:List ľ).length+([]:List Keyword).length+(if ([]:List Keyword).isEmpty then 0 else 1)<30))=true:=by rfl)
  (Dz:(apos.endLine==dI.line)=true:=by rfl) (hs:ß [a] X.env=(false,ţ a X.env)::ß [] X.env:=by rfl) (CJ:(ũ dI (ß [] X.env)).any (·.1)=false:=by rfl) :
  PE X (.Call (.Attribute o "append" apos) [a] [] dI) (tE X.K Ξ (gr f g)) :=
 cb (Y6 PySem.F.plainAttrs_list PySem.F.slot_list_append PySem.F.type_list_append RK ho (nO ha nW hs) Dy Ez Dz hs CJ) fun σ H Q T=>by
  obtain⟨w,env,Z,S,W,h⟩:=T;subst Z;refine⟨w,env,rfl,S,W,(Out.ak h).mono λR d P V Y v U=>?_⟩;split at Y
  ·rename_i O
   obtain⟨k,p,t,N,rfl,rfl,e1,e2,M,s⟩:=VF V U O;refine⟨.inl ⟨rfl,N,bh.of M⟩,R,env,rfl,V,W.le P,(Out.ak Y).mono λr y L J I u G=>?_⟩;obtain⟨E,D,C,B,A,q,Z,z⟩:=XI J (L _ _ U) G I;refine⟨E,D,u,C,rfl,B,A,?_⟩;rw[<- Z];exact z _ rfl
  ·exact Y.elim
def lV (d i x:D) (s:ae):Option ae:=match d,i with
 | .ai k,.int n=>match s[k]? with
  |some (.lst Z)=>(e9 Z.length n).map λj=>s.set k (.lst (Z.set j x))
  |_=>none
 |_,_=>none
def ow (f o i:adq D):adq Fl:=λenv s=>ak (f env s) λx s=>ak (o env s) λd s=>ak (i env s) λn s=>match lV d n x s with
 |some Z=>ok (.nx env) Z
 |none=>none
def XJ (S:aL K w) (dv:DV K w d v) (dn:DV K w i n) (du:DV K w x u) (h:lV d i x w.aD=some s'):∃a xs k j,v=.ref a/\n=.int k/\w.H a=some (.lst xs)/\e9 xs.length k=some j/\∃w',w'.H=upd w.H a (.lst (xs.set j u))/\w'.aD=s'/\Le K w w'/\aL K w':=by
 unfold lV at h;split at h
 ·rename_i k m
  split at h
  ·rename_i Z Y
   cases X:e9 Z.length m with
   |none=>rw[X] at h;cases h
   |some j =>
    rw[X] at h;cases h;obtain⟨a,e1,rfl⟩:=dv;obtain⟨xs,U,W⟩:=S.cell k a _ e1 Y;have V:(Cell.lst Z)≠.dead:=by intro z;cases z
    have le:=(Fw.put (K:=K) (o:=.lst (xs.set j u)) (c:=.lst (Z.set j x)) S e1 Y V).le;exact⟨a,xs,m,j,rfl,dn,U,by rw[<- W.length];exact X,w.put k a (.lst (xs.set j u)) (.lst (Z.set j x)),rfl,rfl,le,S.zI e1 Y V ⟨_,cW,le.all (W.set du j)⟩⟩
  ·cases h
 ·cases h
def DJ (he:PE X e (tE X.K Ξ f)) (ho:PE X o (tE X.K Ξ fo)) (hi:PE X i (tE X.K Ξ fi))
 (ha:∀v,adp (.Subscript o i lW) X.env v=(do
   let ov <- abj [v] (ţ o X.env)
   let iv <- abj [v,ov] (ţ i X.env)
   abO lW
   abj [v,ov,iv] (setItem ov iv v)
   release [v,ov,iv] []):=by intro _;rfl)
 (hs:abv [.Subscript o i lW] e pos.line X.env=pure false:=by rfl) (hw:abw [.Subscript o i lW] e X.env=pure none:=by rfl)
 (h1:(Ž [.Subscript o i lW] X.env).map (·.2)=[adp (.Subscript o i lW) X.env]:=by rfl):PS X (.Assign [.Subscript o i lW] e pos) (tS X.K Ξ (ow f fo fi)) :=
 jP (Ln he (W6 ho hi set_list ha) hs hw h1) λt σ H Q=>by
  obtain⟨w,env,W,S,Z,h⟩:=Q;subst W;refine⟨w,env,rfl,S,Z,(Out.ak h).mono λP x V O h1 u N=>?_⟩;refine⟨P,env,rfl,O,Z.le V,(Out.ak h1).mono λM d U L J v I=>?_⟩;refine⟨M,env,rfl,L,Z.le (V.trans U),(Out.ak J).mono λG n T F Y m E=>?_⟩
  cases R:lV d n x G.aD with
  |none=>rw[R] at Y;exact Y.elim
  |some s =>
   rw[R] at Y;obtain⟨a,D,k,j,e1,e2,C,B,A,W,z,le,y⟩:=XJ F (T _ _ I) E ((U.trans T) _ _ N) R;refine⟨a,D,k,j,e1,e2,C,B,?_⟩;rw[<- W];exact Y A le y z σ (Z.le (V.trans (U.trans (T.trans le))))
end
def kd (d:D) (s:ae):Option Kn:=match res d s with
 | .ax=>some .ax
 | .bl _=>some .bl
 | .int _=>some .int
 | .str _=>some .str
 | .tup _=>some .tup
 | .lst _=>some .lst
 | .bA _=>some .bA
 |_=>none
def Zm (S:aL K w) (h:DV K w d v) (e:kd d w.aD=some k):tI K w.H v k:=by
 unfold kd at e
 split at e<;>rename_i e1<;>first | (cases e;done) | (try cases e)
 ·rw[fg e1 (by intro _ z;cases z)] at h;cases h;trivial
 ·rw[fg e1 (by intro _ z;cases z)] at h;cases h;trivial
 ·rw[fg e1 (by intro _ z;cases z)] at h;cases h;trivial
 ·rw[fg e1 (by intro _ z;cases z)] at h;cases h;trivial
 ·rw[fg e1 (by intro _ z;cases z)] at h
  simp only[DV] at h;obtain⟨a,Y,rfl,Z,_⟩:=h;exact⟨Y,Z⟩
 ·obtain⟨a,Y,rfl,Z,_⟩:=jh S h e1
  exact⟨Y,bh.of Z⟩
 ·rw[fg e1 (by intro _ z;cases z)] at h
  simp only[DV] at h;obtain⟨a,rfl,_,Z⟩:=h;exact⟨_,Z⟩
noncomputable def DK (T:String):Bool:=T=="int"||T=="bool"||T=="str"||T=="tuple"||T=="list"
def fR (ds:List D) (s:ae):Res D:=match ds with
 | [d,.ty T]=>if DK T=true then bq ((kd d s).map λk=>.bl (oj k T)) s else none
 |_=>none
section
variable {X:Cx} {Ξ:Wd->aQ->Prop} {e a b:ľ} {es:List ľ} {pos:Pos} {f g:adq D} {fa:adq (List D)}
def mT:cT X (.builtin "isinstance") (rC X.K Ξ fR):=by
 intro Z s σ H M Y Q I r zzz;obtain⟨w,L,rfl,S,R,h⟩:=zzz;unfold fR at h;split at h
 ·rename_i d T
  obtain⟨v,u,rfl,P,O⟩:=CP R;have N:u=.ty T:=O;subst N;split at h
  ·rename_i U
   obtain⟨J,e,h⟩:=ff h
   cases V:kd d w.aD with
   |none=>rw[V] at e;cases e
   |some k =>
    rw[V] at e;cases e;have W:=Zm S P V;simp only[DK,ab5,beq_iff_eq] at U
    rcases U with (((rfl|rfl)|rfl)|rfl)|rfl
    ·exact Pt Z s σ w.H _ Y Q I r ⟨v,k,rfl,W,aI S h _ rfl⟩
    ·exact O1 Z s σ w.H _ Y Q I r ⟨v,k,rfl,W,aI S h _ rfl⟩
    ·exact Pu Z s σ w.H _ Y Q I r ⟨v,k,rfl,W,aI S h _ rfl⟩
    ·exact OQ Z s σ w.H _ Y Q I r ⟨v,k,rfl,W,aI S h _ rfl⟩
    ·exact O2 Z s σ w.H _ Y Q I r ⟨v,k,rfl,W,aI S h _ rfl⟩
  ·exact h.elim
 ·exact h.elim
def mZ (hv:ć x=some (.type T)) (hg:Gl X x) (hm:X.mg x=none) (hn:x≠"__name__":=by decide) (hd:(x==("__debug__":Str))=false:=by decide):PE X (.Name x pos) (tE X.K Ξ (eC (.ty T))):=vv (v:=.ty T) (U0 hg hm hv rfl hn hd) λ_=>rfl
def cq (g:∃t,X.mg x=some (.int i t)) (hg:Gl X x) (hd:(x==("__debug__":Str))=false:=by decide):PE X (.Name x pos) (tE X.K Ξ (eC (.int i))):=by
 obtain⟨t,e⟩:=g;exact vv (v:=.int i) (UZ hg e ⟨t,rfl⟩ hd) λ_=>rfl
noncomputable def lL:List D->Option (List Int)
 | []=>some []
 | .int i::Z=>(lL Z).map λr=>i::r
 |_::_=>none
theorem yo:∀{ds:List D} {ns:List Int},lL ds=some ns->ds=ns.map D.int
 | [],ns,h=>by cases h;rfl
 | .int b::ds,ns,h=>by
  simp only[lL] at h
  cases Z:lL ds with
  |none=>rw[Z] at h;cases h
  |some r=>rw[Z] at h;cases h;rw[yo Z];rfl
 | .ax::_,_,h=>by cases h
 | .bl _::_,_,h=>by cases h
 | .str _::_,_,h=>by cases h
 | .tup _::_,_,h=>by cases h
 | .lst _::_,_,h=>by cases h
 | .bA _::_,_,h=>by cases h
 | .ai _::_,_,h=>by cases h
 | .ty _::_,_,h=>by cases h
 | .bV _::_,_,h=>by cases h
 | .exc _ _::_,_,h=>by cases h
 | .cN _ _ _::_,_,h=>by cases h
def Be:lL (ns.map D.int)=some ns:=by
 induction ns with
 |nil=>rfl
 |cons b bs ih=>simp only[Î,lL,ih,abn]
noncomputable def lX (i:Int):List Int->List Int
 | []=>[i]
 |j::r=>if i<j then i::j::r else if i=j then j::r else j::lX i r
def dE:List Int->List Int
 | []=>[]
 |i::r=>lX i (dE r)
theorem Bw:∀{l:List Int},k∈lX i l↔k=i\/k∈l
 | []=>by simp[lX]
 |j::r=>by
  unfold lX;split
  ·simp
  ·split
   ·rename_i h;subst h;simp
   ·rw[É,Bw,É]
    constructor
    ·rintro (h|h|h)
     ·exact .inr (.inl h)
     ·exact .inl h
     ·exact .inr (.inr h)
    ·rintro (h|h|h)
     ·exact .inr (.inl h)
     ·exact .inl h
     ·exact .inr (.inr h)
theorem HN:∀{l:List Int},l.Pairwise (· < ·)->(lX i l).Pairwise (· < ·)
 | [],_=>by simp[lX]
 |j::r,h=>by
  obtain⟨Z,Y⟩:=Ă.mp h;unfold lX;split
  ·rename_i X
   refine Ă.mpr ⟨λk hk=>?_,h⟩
   rcases É.mp hk with rfl|hk
   ·exact X
   ·have:=Z k hk;omega
  ·split
   ·exact h
   ·refine Ă.mpr ⟨λk hk=>?_,HN Y⟩
    rcases Bw.mp hk with rfl|hk
    ·omega
    ·exact Z k hk
theorem mw:∀{l:List Int},k∈dE l↔k∈l
 | []=>by simp[dE]
 |i::r=>by simp[dE,Bw,mw]
theorem xD:∀(l:List Int),(dE l).Pairwise (· < ·)
 | []=>List.Pairwise.nil
 |i::r=>HN (xD r)
theorem AS:∀{l m:List Int},l.Pairwise (· < ·)->m.Pairwise (· < ·)->(∀k,k∈l↔k∈m)->l=m
 | [],[],_,_,_=>rfl
 | [],j::m,_,_,h=>by have:=(h j).mpr Ñ;cases this
 |i::l,[],_,_,h=>by have:=(h i).mp Ñ;cases this
 |i::l,j::m,W,V,h=>by
  obtain⟨Y,U⟩:=Ă.mp W;obtain⟨X,T⟩:=Ă.mp V;have e:i=j:=by
   rcases É.mp ((h i).mp Ñ) with e|e
   ·exact e
   ·rcases É.mp ((h j).mpr Ñ) with e'|e'
    ·exact e'.symm
    ·have:=X i e;have:=Y j e';omega
  subst e;congr 1;refine AS U T λk=>?_;constructor
  ·intro Z
   rcases É.mp ((h k).mp (Ò _ Z)) with e|e
   ·subst e;have:=Y k Z;omega
   ·exact e
  ·intro Z
   rcases É.mp ((h k).mpr (Ò _ Z)) with e|e
   ·subst e;have:=X k Z;omega
   ·exact e
def yg (l:List Int):(dE l).length<=l.length:=by
 induction l with
 |nil=>exact adv _
 |cons x l ih =>
  have:(dE (x::l)).length<=(dE l).length+1:=by
   show (lX x (dE l)).length<=_;generalize dE l=m
   induction m with
   |nil=>exact adv _
   |cons y m Z =>
    unfold lX;split
    ·simp
    ·split
     ·simp
     ·simp only[ê];omega
  simp only[ê];omega
def Jy (ns:List Int):(ns.foldl PyProof.Rows.step_dedup []).length<=(dE ns).length:=sub_len (A0 ns [] ż) λk Z=>mw.mpr ((IK ns k).mp Z)
def rF (d:D) (s:ae):Res D:=match d with
 | .lst Y=>match lL Y with
  |some Z=>if decide ((dE Z).length<64)=true then ok (.lst ((dE Z).map D.int)) s else none
  |none=>none
 |_=>none
def QX {p p2 ib:Pos} (ha:PE X a (tE X.K Ξ f)) (hc:X.calm=true) (hg:Gl X "sorted") (hm:X.mg "sorted"=none) (hv:ć "sorted"=some (.builtin "sorted")) (kR:Gl X "set") (wY:X.mg "set"=none) (FP:ć "set"=some (.type "set"))
  (he:ß [a] X.env=(false,ţ a X.env)::ß [] X.env:=by rfl) (bU:(ũ ib (ß [] X.env)).any (·.1)=false:=by rfl)
  (qC:ß [.Call (.Name "set" p2) [a] [] ib] X.env=(false,ţ (.Call (.Name "set" p2) [a] [] ib) X.env)::ß [] X.env:=by rfl) (EU:(ũ pos (ß [] X.env)).any (·.1)=false:=by rfl) :
  PE X (.Call (.Name "sorted" p) [.Call (.Name "set" p2) [a] [] ib] [] pos) (tE X.K Ξ (e1 rF f)) :=
 cb (Bp (HA hc) hg hm hv (nO (yf (QS hc) kR wY FP (nO ha nW he) (by decide) (by decide) he bU) nW qC) (by decide) (by decide) qC EU) fun σ H Q J=>by
  obtain⟨w,env,I,S,G,h⟩:=J;subst I;refine⟨w,env,rfl,S,G,(Out.ak h).mono λU d A F W v P=>?_⟩;unfold rF at W;split at W
  ·rename_i z
   split at W
   ·rename_i Y E
    split at W
    ·rename_i T
     have T:=ċ T;simp only[DV] at P;obtain⟨p,y,rfl,O,N⟩:=P;rw[yo E] at N;rw[N.Br] at O;have D:=Ņ (Jy Y) T;refine⟨p,Y,rfl,O.sq,by omega,λq M=>?_⟩;refine⟨q,Y,rfl,cW,D,λl x C hs B=>?_⟩;have e:=AS hs (xD Y) λk=>(B k).trans mw.symm;subst e;have R:(U.grow q (.ext (iw X.prog X.w q Y))).H l=none:=C;have L:=F.grow (o:=.ext (iw X.prog X.w q Y)) M;exact W ((U.grow q (.ext (iw X.prog X.w q Y))).grow l (.lst ((dE Y).map V.int))) ((Fw.grow M).le.trans (Fw.grow R).le) (L.grow R) rfl (.ref l) ⟨l,_,rfl,⟨(show ¬ (U.grow q (.ext (iw X.prog X.w q Y))).Z l from pC L R),cW⟩,aq.ints _⟩
    ·exact W.elim
   ·exact W.elim
  ·exact W.elim
def uE (d:D) (s:ae):Res D:=match d with
 | .tup Y=>match lL Y with
  |some Z=>if decide (Z.length<64)=true then ok (.lst ((dE Z).map D.int)) s else none
  |none=>none
 |_=>none
def QY {p p2 ib:Pos} (ha:PE X a (tE X.K Ξ f)) (hc:X.calm=true) (hg:Gl X "sorted") (hm:X.mg "sorted"=none) (hv:ć "sorted"=some (.builtin "sorted")) (kR:Gl X "set") (wY:X.mg "set"=none) (FP:ć "set"=some (.type "set"))
  (he:ß [a] X.env=(false,ţ a X.env)::ß [] X.env:=by rfl) (bU:(ũ ib (ß [] X.env)).any (·.1)=false:=by rfl)
  (qC:ß [.Call (.Name "set" p2) [a] [] ib] X.env=(false,ţ (.Call (.Name "set" p2) [a] [] ib) X.env)::ß [] X.env:=by rfl) (EU:(ũ pos (ß [] X.env)).any (·.1)=false:=by rfl) :
  PE X (.Call (.Name "sorted" p) [.Call (.Name "set" p2) [a] [] ib] [] pos) (tE X.K Ξ (e1 uE f)) :=
 cb (Bp (HA hc) hg hm hv (nO (yf (QT hc) kR wY FP (nO ha nW he) (by decide) (by decide) he bU) nW qC) (by decide) (by decide) qC EU) fun σ H Q J=>by
  obtain⟨w,env,I,S,G,h⟩:=J;subst I;refine⟨w,env,rfl,S,G,(Out.ak h).mono λU d B F W v P=>?_⟩;unfold uE at W;split at W
  ·rename_i A
   split at W
   ·rename_i Y E
    split at W
    ·rename_i T
     have T:=ċ T;simp only[DV] at P;obtain⟨p,z,rfl,O,N⟩:=P;rw[yo E] at N;rw[N.Br] at O;refine⟨p,Y,rfl,O,by omega,λq M=>?_⟩;refine⟨q,Y,rfl,cW,Ņ (Ú (Jy Y) (yg Y)) T,λl y D hs C=>?_⟩;have e:=AS hs (xD Y) λk=>(C k).trans mw.symm;subst e;have R:(U.grow q (.ext (iw X.prog X.w q Y))).H l=none:=D;have L:=F.grow (o:=.ext (iw X.prog X.w q Y)) M;exact W ((U.grow q (.ext (iw X.prog X.w q Y))).grow l (.lst ((dE Y).map V.int))) ((Fw.grow M).le.trans (Fw.grow R).le) (L.grow R) rfl (.ref l) ⟨l,_,rfl,⟨(show ¬ (U.grow q (.ext (iw X.prog X.w q Y))).Z l from pC L R),cW⟩,aq.ints _⟩
    ·exact W.elim
   ·exact W.elim
  ·exact W.elim
def ox (i j:Nat) (fa:adq (List D)):adq Fl:=λenv s=>ak (fa env s) λZ s=>match Z with
 | [x,y]=>ok (.nx ((env.set i (some x)).set j (some y))) s
 |_=>none
def u9 (i j:Nat) {x y:Str} {px py pt:Pos} {kt k2 iD} (hc:X.calm=true) (hN:X.N.Nodup) (ha:PA X [a,b] (tA X.K Ξ fa)) (hi:X.N[i]?=some x:=by rfl) (hj:X.N[j]?=some y:=by rfl) (eZ:i≠j:=by decide)
  (hx:X.env.scope.names.lookup x=some .local:=by rfl) (hy:X.env.scope.names.lookup y=some .local:=by rfl)
  (hw:abw [.Tuple [.Name x px,.Name y py] kt pt] (.Tuple [a,b] k2 iD) X.env=pure (some [x,y]):=by rfl)
  (hs:abv [.Tuple [.Name x px,.Name y py] kt pt] (.Tuple [a,b] k2 iD) pos.line X.env=pure false:=by rfl) :
  PS X (.Assign [.Tuple [.Name x px,.Name y py] kt pt] (.Tuple [a,b] k2 iD) pos) (tS X.K Ξ (ox i j fa)):=jP (W8 hc hN hi hj eZ hx hy ha hw hs) λO σ H W=>by
 obtain⟨w,env,V,S,Y,h⟩:=W;subst V;refine⟨w,env,rfl,S,Y,(Out.ak h).mono λM L U T Z J R=>?_⟩;split at Z
 ·obtain⟨v,u,rfl,Q,P⟩:=CP R
  exact⟨v,u,rfl,aI T Z _ (((Y.le U).set Q i).set P j)⟩
 ·exact Z.elim
end
end DI
namespace L2
open PySem PySem.Spec PyProof.Rows
structure DS (Y:Cx) (D:ä) (π:List (ä×Obj)):Prop where
 loc:D≠Y.env.locals
 fs:D∉Y.fs
 new:Y.cY.heap.objs.size<=D
 cell:∀x c,Y.env.cells.lookup x=some c->c≠D
 pin:∀p∈Y.pn++π,p.1≠D
structure qE (Y:Cx) (D:ä) (nt:Nat) (caps:St) (π:List (ä×Obj)) (o:St) (H:Hp) (s:Å) (acc:List V):Prop where
 inv:Inv Y π (o++caps) H s
 len:o.length=nt
 lst:∃ys,s.heap.PlainList D ys/\Vals acc ys.toList
 free:H D=none
 l7:acc.length<=Ø
noncomputable abbrev jX:=St->Hp->List V->(St->List V->Hp->Prop)->Prop
def vY (Y:Cx) (D:ä) (nt:Nat) (caps:St) (c:Code) (m:Sem PySem.Fin) (ta:jX):Prop :=
 ∀(X:List (ä×Obj)) (o:St) (H:Hp) (s:Å) (Z:List V) (Q:St->List V->Hp->Prop),DS Y D X->qE Y D nt caps X o H s Z->ta (o++caps) H Z Q ->
  á (í Y.prog Y.w) Y.A m (λfn S=>fn=.again c/\∃W U T,qE Y D nt caps X W U S T/\Q (W++caps) T U) (λ_ _=>False) s
def CA (J:It) (g:TG) (tf:TT) (ta:jX) (τ:St) (acc:List V) (H:Hp) (Q:St->List V->Hp->Prop):Prop:=∃W:Nat->Nat->St->List V->Hp->Prop,(∃m,W 0 m τ acc H) /\
 ∀i m τ acc Z,W i m τ acc Z->(J.stop i Z/\Q τ acc Z) \/
  (J.go i Z/\∃N:St->List V->Hp->Prop,(∀ X U T,N X U T->∃S,S < m/\W (i+1) S X U T) /\
   ∀x R,J.tF i Z x R->g x τ R fun Y O=>tf Y O λb P=>if b=true then ta Y P acc N else N Y acc P)
def Ms (te:TE):jX:=fun Y H Z Q=>Z.length+1<=Ø/\te Y H λv X=>Q Y (Z++[v]) X
def Mu (wi:TI) (g:TG) (tf:TT) (ta:jX):jX:=fun Y H Z Q=>wi Y H λJ X=>CA J g tf ta Y Z X Q
section
variable {Y:Cx} {D:ä} {nt:Nat} {caps:St}
def DS.obj (ds:DS Y D π) (B:qE Y D nt caps π o H s acc):∃oD ys nn,s.heap.get? D=some oD/\oD={ cls:=.type "list",data:=.seq ys nn }/\Vals acc ys.toList/\Inv Y (π++[(D,oD)]) (o++caps) H s:=by
 obtain⟨ys,⟨nn,Z⟩,rv⟩:=B.lst;refine⟨_,ys,nn,Z,rfl,rv,B.inv.mz λp X=>?_⟩
 rcases ñ.mp X with z|z
 ·exact B.inv.pin p (Ê _ z)
 ·have e:p=(D,{ cls:=.type "list",data:=.seq ys nn }):=by simpa using z
  subst e;exact⟨Z,B.free,ds.loc,ds.fs,λv z=>by cases z⟩
def Bx (hx:Y.xe=λ_ _=>False) (hE:PE Y el te):vY Y D nt caps c ((do let _ <- call (.builtin "list.append") [.ref D,<- ţ el Y.env]:Sem Unit) >>= λ_=>again c) (Ms te):=by
 intro S o H s W Q Z B h;obtain⟨P,h⟩:=h;obtain⟨O,V,nn,x,N,rv,I⟩:=Z.obj B;have q:=hE _ s _ H _ I h;rw[hx] at q;refine À (À (aJ q λy X M=>?_));obtain⟨v,U,R,L,K⟩:=M;have pD:=R.pin (D,O) (Ê _ (Ê _ (by simp)));have J:X.heap.PlainList D V:=⟨nn,by rw[<- N];exact pD.1⟩;have T:V.size<=Ø:=by
  have e:=rv.length;simp only[Ą] at e;omega
 refine À (wpAny_list_append_plain (hsz:=T) J λG F E=>Ä (Ä ⟨rfl,?_⟩));have C:Inv Y S (o++caps) U X:=R.ke
 have A:Inv Y S (o++caps) U { X with heap:=G,toks:=X.toks }:=C.turned (it:=D) (λb o z e=>(E.2 b z).trans e) pD.2.1 Z.loc (.inr Z.new) Z.cell Z.pin
 refine⟨o,U,W++[v],⟨A,B.len,⟨V.push y,F,?_⟩,pD.2.1,by rw[Ð];simpa using P⟩,K⟩;rw[acv];exact Vals.append rv (.cons L .nil)
def Ib (hx:Y.xe=λ_ _=>False) (hc:Y.calm=true)
 (T:Turn Y.prog Y.w Y.K tg J fp it tn) (st0:tn 0 s.heap) (hf:∀b∈fp,dh Y π H b) (ny:D∉fp) (hG:PG Y tg g) (gH:oH g nt) (hF:PF Y tests tf) (hA:vY Y D nt caps (.compLoop e d (.ref it) (.ref D) Y.env) act ta) (ds:DS Y D π) (B:qE Y D nt caps π o H s acc) (hq:(Code.compLoop e d (.ref it) (.ref D) Y.env).quiet=true)
 (aaR:∀(M:Model) (A:Ĉ) (Q':Fin->Å->Prop) (E':Ç->Å->Prop) (s':Å),á (í Y.prog Y.w) A (compTurn e d (.ref it) (.ref D) Y.env) Q' (λ_ _=>False) s'->á (í Y.prog Y.w) (A.under (.compLoop e d (.ref it) (.ref D) Y.env)) ((í Y.prog Y.w).den (.compLoop e d (.ref it) (.ref D) Y.env)) Q' E' s')
 (ht:compTurn e d (.ref it) (.ref D) Y.env=(do
   abO p0
   match <- ſ (.ref it) with
   |none=>pure (.done .next)
   |some v =>
    Ū tg (.ref it) v
    adp tg Y.env v
    let mut ok:=true
    for c in tests do
     if ok then ok <- isTrue c Y.env (ţ c Y.env)
    if ok then act else again (.compLoop e d (.ref it) (.ref D) Y.env)))
 (h:CA J g tf ta (o++caps) acc H Q) :
  Ź (í Y.prog Y.w) Y.A (.compLoop e d (.ref it) (.ref D) Y.env) (λr s'=>r=.ok .next/\∃o' H' js,qE Y D nt caps π o' H' s' js/\Q (o'++caps) js H') s:=by
 obtain⟨W,⟨m0,w0⟩,turn⟩:=h;have F:∀{H':Hp} {pl:List (ä×Obj)},(∀b∈fp,H' b=none)->(∀p∈pl,p.1∉fp)->∀b∈fp,dh Y (π++pl) H' b:=λ{H' pl} hn X b Z=>by
  obtain⟨_,f1,qF,f3,f4,f5⟩:=hf b Z;refine⟨hn b Z,f1,qF,f3,f4,λp wZ=>?_⟩
  rcases ñ.mp wZ with z|z
  ·exact f5 p (þ _ z)
  ·rcases ñ.mp z with z|z
   ·exact f5 p (Ê _ z)
   ·exact λe=>X p z (e ▸ Z)
 refine codeAny_loop hq (λn s'=>∃i acc o H',qE Y D nt caps π o H' s' acc/\tn i s'.heap/\(∀b∈fp,H' b=none)/\W i n (o++caps) acc H') (λn s3 hJ=>?_) m0 ⟨0,acc,o,H,B,st0,λb Z=>(hf b Z).1,w0⟩;obtain⟨i,acc,o3,O,U,kH,oA,w3⟩:=hJ;refine aaR (í Y.prog Y.w) _ _ _ _ ?_;rw[ht];obtain⟨N,L,nn,ho,eo,E,w6⟩:=ds.obj U;have C:∀p∈[(D,N)],p.1∉fp:=λp X=>by
  have e:p=(D,N):=by simpa using X
  subst e;exact ny
 have tR:∀{pl:List (ä×Obj)} {R:St} {H':Hp} {s':Å},Inv Y (π++[(D,N)]++pl) R H' s'->s'.heap.PlainList D L/\H' D=none:=λ{pl R H' s'} I=>by
  have q:=I.pin (D,N) (Ê _ (þ _ (Ê _ (by simp))));exact⟨⟨nn,by rw[<- eo];exact q.1⟩,q.2.1⟩
 refine À (μ (À ?_))
 rcases turn i n _ acc O w3 with ⟨stop,q⟩ | ⟨go,N',hN,step⟩
 ·have y:=T.done Y rfl rfl rfl hc i _ s3 _ O (λ_ _=>False) w6 (F oA C) kH stop
  refine aJ y λr s4 P=>?_;obtain⟨t,I4⟩:=P;subst t;obtain⟨FV,n4⟩:=tR (pl:=[]) (by simpa using I4);exact Ä ⟨rfl,o3,O,acc,⟨I4.ke,U.len,⟨L,FV,E⟩,n4,U.l7⟩,q⟩
 ·have y:=T.item Y rfl rfl rfl hc i _ s3 _ O (λ_ _=>False) w6 (F oA C) kH go
  refine aJ y λr s4 P=>?_;obtain⟨u,t,P⟩:=P;subst t;refine À (aJ P λ_ s5 h5=>?_);obtain⟨x,m,I5,r5,y5,l,wx⟩:=h5;have wy:=I5.pinned (F wx C) (T.obj _ _ l);have q5:=hG _ s5 _ m x u _ wy r5 (gH x o3 _ m _ U.len (step x m y5));rw[hx] at q5;refine À (aJ q5 λ_ s6 h6=>?_);obtain⟨tU,H6,I6,⟨k,w9,zO⟩,q6⟩:=h6;have V:=hF _ s6 tU H6 _ I6 q6;rw[hx] at V;refine À (aJ V λb s7 h7=>?_);obtain⟨j,G,V⟩:=h7;subst zO;obtain⟨Ap,n7⟩:=tR G;have f:Inv Y (π++nV fp s5.heap) (k++caps) j s7:=G.mz λp X=>by
   rcases ñ.mp X with z|z
   ·exact G.pin p (Ê _ (þ _ (þ _ z)))
   ·exact G.pin p (Ê _ (Ê _ z))
  have vZ:∀{R:St} {H':Hp} {s':Å},Inv Y (π++nV fp s5.heap) R H' s'->tn (i+1) s'.heap/\∀b∈fp,H' b=none:=λ{R H' s'} I=>by
   refine⟨T.keep _ _ _ l λb Z o e=>(I.pin (b,o) (Ê _ (Ê _ (rm Z e)))).1,λb Z=>?_⟩;obtain⟨o,e,_⟩:=T.obj _ _ l b Z;exact(I.pin (b,o) (Ê _ (Ê _ (rm Z e)))).2.1
  cases b with
  |false =>
   rw[å Ö] at V;obtain⟨a,hm,w7⟩:=hN _ _ _ V;obtain⟨t7,f7⟩:=vZ f;exact Ä ⟨rfl,a,hm,i+1,acc,k,j,⟨f.ke,w9,⟨L,Ap,E⟩,n7,U.l7⟩,t7,f7,w7⟩
  |true =>
   rw[Þ rfl] at V;have ds':DS Y D (π++nV fp s5.heap):=⟨ds.loc,ds.fs,ds.new,ds.cell,λp X=>by
    rcases ñ.mp X with z|z
    ·exact ds.pin p (þ _ z)
    ·rcases ñ.mp z with z|z
     ·exact ds.pin p (Ê _ z)
     ·exact λe=>ny (e ▸ (Iu z).1)⟩
   refine aJ (hA _ k j s7 acc N' ds' ⟨f,w9,⟨L,Ap,E⟩,n7,U.l7⟩ V) λfn s8 h8=>?_;obtain⟨efn,o8,H8,aaS,S,q8⟩:=h8;subst efn;obtain⟨a,hm,w8⟩:=hN _ _ _ q8;obtain⟨t8,f8⟩:=vZ S.inv;exact⟨rfl,a,hm,i+1,aaS,o8,H8,⟨S.inv.ke,S.len,S.lst,S.free,S.l7⟩,t8,f8,w8⟩
end
def LH (A:Ĉ) (Q':Fin->Å->Prop) (E':Ç->Å->Prop) (s':Å)
 (h:á (í P w) A (compTurn (.ListComp el gens sc ps) d gA av ce) Q' (λ_ _=>False) s'):á (í P w) (A.under (.compLoop (.ListComp el gens sc ps) d gA av ce)) ((í P w).den (.compLoop (.ListComp el gens sc ps) d gA av ce)) Q' E' s':=by
 show á _ A ((compTurn (.ListComp el gens sc ps) d gA av ce).onRaise (λx=>do noteFrame x ce;theTreesLotGoes x)) _ _ s'
 exact wpAny_noted (ķ h (λ_ _ q=>q) λ_ _ z=>z.elim)
def T8 (hd:gens[d]?=some ⟨target,iter,ifs,0⟩)
 (h0:Ź (í P w) A (.compLoop (.ListComp el gens sc ps) d it acc env) R s)
 (h:á (í P w) A (pyIter it) (λjH s'=>Ź (í P w) A (.compLoop (.ListComp el gens sc ps) d jH acc env) R s') (λ_ _=>False) s) :
  Ź (í P w) A (.compStart (.ListComp el gens sc ps) d it acc env) R s:=by
 refine ab6 ?_
 show á _ _ ((compStart (.ListComp el gens sc ps) d it acc env).onRaise (λx=>do noteFrame x env;abO theWindowsPlace)) _ _ s
 refine wpAny_notedAt ?_;have Z:(clausesOf (.ListComp el gens sc ps))[d]?=some ⟨target,iter,ifs,0⟩:=hd;unfold compStart;rw[Z];show á _ _ (ask >>= _) _ _ s;refine À (Ŵ (wpAny_ite ?_));split
 ·first
   |exact À (Ä (Ä (ö rfl h0)))
   |exact Ä (ö rfl h0)
 ·refine À (Ų ?_)
  show á _ _ (abO iter.pos >>= _) _ _ s;exact À (μ (À (ķ h (λjH s' Y=>Ä (ö rfl Y)) λ_ _ x=>x.elim)))
section
variable {Y:Cx} {D:ä} {nt:Nat} {caps:St}
def yp {el tg src:ľ} {gens:List Comprehension} {sc:acf} {ps:Pos} {tests:List ľ} {d:Nat} {wi:TI} {g:TG} {tf:TT} {ta:jX} {act:ä->Sem PySem.Fin} {c:Code} (hx:Y.xe=λ_ _=>False) (hc:Y.calm=true) (hd:gens[d]?=some ⟨tg,src,tests,0⟩)
  (hi:PI Y tg src wi) (hG:PG Y tg g) (gH:oH g nt) (hF:PF Y tests tf) (hA:∀it:ä,vY Y D nt caps (.compLoop (.ListComp el gens sc ps) d (.ref it) (.ref D) Y.env) (act it) ta)
  (ht:∀it:ä,compTurn (.ListComp el gens sc ps) d (.ref it) (.ref D) Y.env=(do
   abO src.pos
   match <- ſ (.ref it) with
   |none=>pure (.done .next)
   |some v =>
    Ū tg (.ref it) v
    adp tg Y.env v
    let mut ok:=true
    for c in tests do
     if ok then ok <- isTrue c Y.env (ţ c Y.env)
    if ok then act it else again (.compLoop (.ListComp el gens sc ps) d (.ref it) (.ref D) Y.env)))
  (hs:∀x,ý src Y.env x=pure x) :
  vY Y D nt caps c (do
   let x <- ţ src Y.env
   abO src.pos
   let x <- ý src Y.env x
   let _ <- runOwn (.compStart (.ListComp el gens sc ps) d (<- abj [x] (pyIter x)) (.ref D) Y.env) Y.env
   again c) (Mu wi g tf ta):=by
 intro X o H s Z Q W B h;obtain⟨V,N,nn,i,M,rv,I⟩:=W.obj B;have q:=hi _ s _ H _ I h;rw[hx] at q;refine À (aJ q λv f L=>À (μ ?_));rw[hs];refine À (Ä (À (Ġ (aJ L λa K G=>?_))));obtain⟨it,U,tn,J,S,e,R,T,P,f2,ca⟩:=G;subst e;have pD:=R.pin (D,V) (Ê _ (Ê _ (by simp)));have F:D∉U:=λz=>(f2 D z).2.2.2.2.2 (D,V) (Ê _ (Ê _ (by simp))) rfl;have E:∀b∈U,dh Y X S b:=λb C=>by
  obtain⟨a1,a2,y,w,u,t⟩:=f2 b C;refine⟨a1,a2,y,w,u,λp n=>t p ?_⟩
  rcases ñ.mp n with z|z
  ·exact þ _ z
  ·exact Ê _ (þ _ z)
 have m:qE Y D nt caps X o S K Z:=⟨R.ke,B.len,⟨N,⟨nn,by rw[<- M];exact pD.1⟩,rv⟩,pD.2.1,B.l7⟩;have loop:=Ib (e:=.ListComp el gens sc ps) (d:=d) hx hc T P E F hG gH hF (hA it) W m rfl (λ_ A l k O h=>LH A l k O h) (ht it) ca;refine À (wpAny_runOwn ?_);refine ŝ (T8 hd loop (T.self _ _ _ _ _ P loop)) λr O j=>?_;obtain⟨e,q⟩:=j;subst e;exact Ä ⟨rfl,q⟩
end
def CT (wi:TI) (nt:Nat) (cap:List Nat) (g:TG) (tf:TT) (ta:jX):TE:=fun σ H Q=>wi σ H λJ X=>CA J g tf ta (Ï nt none++mM cap σ) [] X λ_ Z Y=>∀D,Y D=none->Q (.ref D) (upd Y D (.lst Z))
section
variable {X:Cx}
def By {el tg src:ľ} {tests:List ľ} {rest:List Comprehension} {sc:acf} {ps:Pos} {N:List Str} {nt:Nat} {cap:List Nat} {wi:TI} {g:TG} {tf:TT} {ta:jX} {act:Env->ä->ä->Sem PySem.Fin} (hc:X.calm=true) (S:nX X sc N nt cap) (gH:oH g nt) (hi:PI X tg src wi)
  (hY:∀(cl:List (Str×ä)) (C:ä) (s:Å) (H:Hp) (ex:List ä) (pn:List (ä×Obj)),PG (cL X N sc cl C s H ex pn) tg g/\PF (cL X N sc cl C s H ex pn) tests tf/\∀D caps it,vY (cL X N sc cl C s H ex pn) D nt caps (.compLoop (.ListComp el (⟨tg,src,tests,0⟩::rest) sc ps) 0 (.ref it) (.ref D) (š sc cl C X.env)) (act (š sc cl C X.env) D it) ta)
  (ht:∀(it D:ä) (ce:Env),compTurn (.ListComp el (⟨tg,src,tests,0⟩::rest) sc ps) 0 (.ref it) (.ref D) ce=(do
   abO src.pos
   match <- ſ (.ref it) with
   |none=>pure (.done .next)
   |some v =>
    Ū tg (.ref it) v
    adp tg ce v
    let mut ok:=true
    for c in tests do
     if ok then ok <- isTrue c ce (ţ c ce)
    if ok then act ce D it else again (.compLoop (.ListComp el (⟨tg,src,tests,0⟩::rest) sc ps) 0 (.ref it) (.ref D) ce)))
  (hs:∀x,ý src X.env x=pure x:=by intro _;rfl):PE X (.ListComp el (⟨tg,src,tests,0⟩::rest) sc ps) (CT wi nt cap g tf ta):=by
 intro π s σ H Q I h;obtain⟨cl,vB,j⟩:=CK (env:=X.env) (sc:=sc) λn F=>I.ok.has n (S.frees _ F rfl).2;rw[eval_ListComp];refine abY (use:=none) rfl hs vB S.kind S.names (aJ (hi π s σ H _ I h) λxv s1 h1=>aJ h1 λgA Z h2=>?_);obtain⟨it,R,tn,J,E,e,U,T,i,f2,ca⟩:=h2;subst e;refine ą (wpAny_newFunctionEnv S.yO (by intro y hy;simp at hy) (λh3 B L=>?_) S.kind);dsimp only at B L |-;generalize f:Z.heap.objs.size=D at B L |-;generalize a:Z.heap.push { cls:=.type "list",dict:=none,data:=.seq ([]:List Ç).toArray }=G at B L |-;generalize FX:G.objs.size=C at B L |-;have hC:C=D+1:=by rw[<- FX,<- a,û,f]
 have qH:D≠C:=by omega
 have P:Z.heap.objs.size<=D:=abk f;have t:Z.heap.objs.size<=C:=by omega
 have old:∀b o,Z.heap.get? b=some o->h3.get? b=some o:=λb o e=>L.extBut b o (à (Ì (Ó e) t)) (Á _ (a ▸ Á _ e));have sP:h3.PlainList D #[]:=⟨_,L.extBut _ _ qH (Á _ (a ▸ f ▸ Ë _ rfl))⟩;have jC:∀b∈R,b<Z.heap.objs.size:=λb O=>by
  obtain⟨o,e,_⟩:=T.obj _ _ i b O;exact Ó e
 have IB:=U.block (t':=Z.toks+([]:List (Str×Ç)).length) S j f2 jC old t ⟨_,B⟩;have FY:D∉fH X.stack:=λz=>by
  rcases É.mp (U.mF D z) with e|e
  ·exact absurd (Ì U.lt P) (by rw[e];exact ú _)
  ·exact U.vK P e
 have ny:D∉R:=λz=>absurd (Ì (jC D z) P) (ú _);have CU:∀x c,cl.lookup x=some c->c≠D:=λx c e z=>by
  obtain⟨v,o,ho,_⟩:=U.cell x c ((j x c).mp e).2;exact absurd (Ì (Ó ho) (by rw[z];exact P)) (ú _)
 have DL:∀p∈X.pn++π,p.1≠D:=λp hp z=>absurd (Ì (Ó (U.pin p hp).1) (by rw[z];exact P)) (ú _);have fin:∀(s':Å) (τ:St) (W:Hp) (acc:List V) (M:Array Ç),Inv (cL X N sc cl C Z E R (X.pn++π)) [] τ W s'->s'.heap.PlainList D M->Vals acc M.toList->W D=none->acc.length<=Ø->(∀D,W D=none->Q (.ref D) (upd W D (.lst acc))) ->
   compPost (í X.prog X.w) X.A X.xe none (EP X π σ Q) (.ref D) C (.ok .next) s':=by
  intro s' τ W acc M K pl rv F hz q;obtain⟨m,hm,_⟩:=id K.loc;refine⟨m,hm,λl sb=>?_⟩;have EV:bT X.prog X.w W l:=K.aE.but K.free sb;obtain⟨n,ho⟩:=pl;have gw:l.get? D=some { cls:=.type "list",data:=.seq M n }:=(sb.2 D qH).trans ho;have new:cR X.prog X.w (upd W D (.lst acc)) l D (.lst acc):=⟨hz,M.toList,n,rv,by simpa using gw⟩;have u:=(K.base.but t sb).adopt (o:=.lst acc) P F
  refine⟨.ref D,upd W D (.lst acc),U.Du (s':={ s' with heap:=l }) (ch:=R) K.os u (EV.adopt F new) K.bare (λb O=>?_),rfl,q D F⟩
  obtain⟨_,f1,_,f3,f4,f5⟩:=f2 b O;exact⟨f3,f1,f4,f5⟩
 have nA:∀b∈R,dh (cL X N sc cl C Z E R (X.pn++π)) [] E b:=λb O=>by
  obtain⟨f0,f1,qF,f3,f4,f5⟩:=f2 b O;refine⟨f0,à (Ì (jC b O) t),λz=>?_,.inl O,λx c e=>f4 x c ((j x c).mp e).2,λp wZ=>?_⟩
  ·rcases É.mp (U.mF b z) with e|e
   ·exact f1 e
   ·exact qF e
  ·exact f5 p (by simpa using wZ)
 obtain⟨FZ,F0,hA1⟩:=hY cl C Z E R (X.pn++π);have loop:=Ib (Y:=cL X N sc cl C Z E R (X.pn++π)) (D:=D) (nt:=nt) (caps:=mM cap σ) (e:=.ListComp el (⟨tg,src,tests,0⟩::rest) sc ps) (d:=0) (π:=[]) (o:=Ï nt none) (acc:=[]) rfl hc T
  (T.keep _ _ _ i λb _ o e=>old b o e) nA ny FZ gH F0 (hA1 D _ it) ⟨qH,FY,P,CU,λp hp=>DL p (by simpa using hp)⟩ ⟨IB,by simp,⟨#[],sP,.nil⟩,U.aE.fresh P,ü _⟩ rfl (λ_ A Q' E' s' h=>LH A Q' E' s' h) (ht it D _) ca
 have Mv:=ŝ loop (R':=compPost (í X.prog X.w) X.A X.xe none (EP X π σ Q) (.ref D) C) λr s' hr=>by
  obtain⟨e,o',W,js,k,q'⟩:=hr;subst e;obtain⟨M,pl,rv⟩:=k.lst;exact fin s' _ W js M k.inv pl rv k.free k.l7 q'
 exact codeAny_compStart_list Mv (T.self _ _ _ _ _ (T.keep _ _ _ i λb _ o e=>old b o e) Mv)
end
end L2
namespace DI
open PySem L2
def mq:ć "isinstance"=some (.builtin "isinstance"):=by decide +kernel
def DM:ć "int"=some (.type "int"):=by decide +kernel
def XM:ć "bool"=some (.type "bool"):=by decide +kernel
def gY:ć "tuple"=some (.type "tuple"):=by decide +kernel
def XN:ć "list"=some (.type "list"):=by decide +kernel
def Mw:ć "set"=some (.type "set"):=by decide +kernel
def sy:ć "all"=some (.builtin "all"):=by decide +kernel
def DN:ć "any"=some (.builtin "any"):=by decide +kernel
def ee:ć "len"=some (.builtin "len"):=by decide +kernel
def rZ:ć "repr"=some (.builtin "repr"):=by decide +kernel
def Zn:ć "max"=some (.builtin "max"):=by decide +kernel
def yq:ć "sorted"=some (.builtin "sorted"):=by decide +kernel
structure Gd (K:ĥ) (mg:Str->Option Ç) (x:Str) (st:ado) (ps:List Str) (f:ä) (fd:ő):Prop where
 mg:mg x=some (.ref f)
 fn:oG K x x st f fd
 b:Binds K fd ps []
def Zo {P:ó} {w:Ĕ} {K:ĥ} {mg:Str->Option Ç} {base:œ} {k:Nat} {f:ä} {fd:ő} {ps:List Str} {g:List D->ae->Res D} (h:∀ds s,g ds s=none):dH P w K mg base fK k f fd ps (kQ K g) :=
 ⟨λY H Q E Z=>by obtain⟨w,ds,_,_,_,q⟩:=Z;rw[h] at q;exact q.elim,λA outer s H args X Y Q E _ _ _ _ Z=>by obtain⟨w,ds,_,_,_,q⟩:=Z;rw[h] at q;exact q.elim⟩
def zp (K:ĥ):Sp:=λY H Q _=>∃(a:ä) (Z:List Int),Y=[.ref a]/\bh K H a (Z.map V.int)/\Z.length<=63/\∀X,Q (.bl true) X
def XO (F:dH P w K mg base fK k f fd [x] (kQ K g))
 (h:∀ns:List Int,ns.length<=63->∃s,g [.bV ns] []=some (.ok (.bl true),s)):dH P w K mg base fK k f fd [x] (zp K):=F.imp λV H Q E ⟨a,ns,e,hS,Y,q⟩=>by
 subst e;obtain⟨s,hs⟩:=h ns Y;have X:∀b,¬ (⟨[],[],H⟩:Wd).Z b:=λb ⟨k,c,e1,_,_⟩=>by simp at e1
 refine⟨⟨[],[],H⟩,[.bV ns],rfl,⟨rfl,ż,λk a e=>by simp at e,λk a c e=>by simp at e⟩,aq.one ⟨a,rfl,?_⟩,?_⟩
 ·rcases hS with hS|hS
  ·exact .inl ⟨X a,hS⟩
  ·exact .inr hS
 ·show Out K bI _ (g [.bV ns] []) _
  rw[hs];intro U _ _ _ v W;have e:v=.bl true:=W;subst e;exact q _
def fX (g:D->Env->Option Env) (t:adq Bool) (act:adq (List D)) (lQ:Env):List D->ae->Res (List D)
 | [],s=>ok [] s
 |d::Z,s=>match g d lQ with
  |none=>none
  |some env=>ak (ne (t env s)) λb s=>if b=true then ak (ne (act env s)) λY s=>ak (fX g t act lQ Z s) λX s=>ok (Y++X) s
   else fX g t act lQ Z s
def emit (f:adq D):adq (List D):=λenv s=>ak (f env s) λx s=>ok [x] s
def more (it:adq (List D)) (g:D->Env->Option Env) (t:adq Bool) (act:adq (List D)):adq (List D):=λenv s=>ak (it env s) λZ s=>fX g t act env Z s
def va (nt:Nat) (cap:List Nat) (it:adq (List D)) (g:D->Env->Option Env) (t:adq Bool) (act:adq (List D)):adq D:=λenv s =>
 ak (it env s) λY s=>ak (ne (fX g t act (Ï nt none++dP cap env) Y s)) λZ s=>gZ Z (ok (.lst Z) s)
def Sl (g:D->Env->Option Env) (sl:List Nat):Prop:=∀d env Z,g d env=some Z->Z.length=env.length/\∀i,i∉sl->Z[i]?=env[i]?
def uL (i:Nat):Sl (gN i) [i]:=λd env Z h=>by
 have e:env.set i (some d)=Z:=adw h;subst e;refine⟨ġ ..,λj Y=>?_⟩;rw[ç (λz=>Y (by simp[z]))]
theorem Mx:∀(is:List Nat) (ds:List D) (env aA:Env),hW (is.map gN) ds env=some aA->aA.length=env.length/\∀i,i∉is->aA[i]?=env[i]?
 | [],[],env,aA,h=>by
  have e:env=aA:=adw h;rw[e];exact⟨rfl,λ_ _=>rfl⟩
 | [],_::_,_,_,h=>by cases h
 |_::_,[],_,_,h=>by cases h
 |j::is,d::ds,env,aA,h=>by
  have Z:hW (is.map gN) ds (env.set j (some d))=some aA:=h;obtain⟨Y,X⟩:=Mx is ds _ aA Z;refine⟨by rw[Y,ġ],λi hi=>?_⟩;rw[X i (λz=>hi (Ò _ z)),ç (λz=>hi (by rw[z];exact Ñ ..))]
def yM (is:List Nat):Sl (gT (is.map gN)) is:=λd env Z h=>by
 cases d with
 |tup Y=>exact Mx is Y env Z h
 |_=>cases h
def len_same {g:D->Env->Option Env} {sl:List Nat} {d:D} {env aA:Env} (hs:Sl g sl) (hg:g d env=some aA):aA.length=env.length:=(hs d env aA hg).1
def f9 (sl:List Nat) (env:Env):Prop:=∀i∈sl,∀d,env[i]?≠some (some d)
def bQ.back {K:ĥ} {w:Wd} {env aA:Env} {σ:St} {g:D->Env->Option Env} {sl:List Nat} {d:D} (hs:Sl g sl) (hf:f9 sl env) (hg:g d env=some aA) (hl:env.length=σ.length) (h:bQ K w aA σ):bQ K w env σ :=
 ⟨hl,λi x e=>by
  by_cases hi:i∈sl
  ·exact absurd e (hf i hi x)
  ·exact h.val i x (by rw[(hs d env aA hg).2 i hi];exact e)⟩
def sA (K:ĥ) (Pre:Env->Prop) (ta:jX) (act:adq (List D)):Prop:=∀(w:Wd) (env:Env) (U:St) (Y:List V) (Z W:List D) (T:ae) (Q:St->List V->Hp->Prop),Pre env->aL K w->bQ K w env U->aq K w Z Y ->
 act env w.aD=some (.ok W,T)->Y.length+W.length<=Ø->(∀X S R,Le K w X->aL K X->X.aD=T->bQ K X env S->aq K X (Z++W) R->Q S R X.H)->ta U w.H Y Q
def rG {α β:Type} {r:Res α} {k:α->ae->Res β} {b:β} {s':ae} (h:ak r k=some (.ok b,s')):∃a s,r=some (.ok a,s)/\k a s=some (.ok b,s'):=by
 match r,h with
 |some (.ok a,s),h=>exact⟨a,s,rfl,h⟩
def Cd {α:Type} {r:Res α} {a:α} {s:ae} (h:ne r=some (.ok a,s)):r=some (.ok a,s):=by
 match r,h with
 |some (.ok b,Z),h=>exact h
def A1 {K:ĥ} {f:adq D}:sA K (λ_=>True) (Ms (tE K bI f)) (emit f):=by
 intro w env W Z Y J I Q _ S X V h U T;obtain⟨x,H,R,P⟩:=rG h;cases P;refine⟨by simpa using U,w,env,rfl,S,X,?_⟩;rw[R];intro O le N M v L;exact T O W (Z++[v]) le N M (X.le le) (aq.append (le.all V) (aq.one L))
def Bf {K:ĥ} {Pre:Env->Prop} {g0:TG} {g:D->Env->Option Env} {nt:Nat} {sl:List Nat} {t:adq Bool} {act:adq (List D)} {ta:jX} {env:Env} {w1:Wd} {J:It} {ds xs accD:List D} {s':ae} {τ:St} {acc:List V} {Q:St->List V->Hp->Prop}
  (T:Tg K g0 g nt) (hs:Sl g sl) (hf:f9 sl env) (hp:∀d aA,g d env=some aA->Pre aA) (hA:sA K Pre ta act) (hJ:nv K w1 J ds) (S1:aL K w1) (eo:bQ K w1 env τ) (da:aq K w1 accD acc)
  (h:fX g t act env ds w1.aD=some (.ok xs,s')) (hl:acc.length+xs.length<=Ø) (hQ:∀w' cO vs,Le K w1 w'->aL K w'->w'.aD=s'->bQ K w' env cO->aq K w' (accD++xs) vs->Q cO vs w'.H) :
  CA J g0 (tT K bI t) ta τ acc w1.H Q:=by
 refine⟨λi m τ acc r=>m=ds.length-i/\i<=ds.length/\∃w' accD xs,w'.H=r/\Le K w1 w'/\aL K w'/\bQ K w' env τ/\aq K w' accD acc/\fX g t act env (ds.drop i) w'.aD=some (.ok xs,s')/\acc.length+xs.length<=Ø /\
   (∀Z cO vs,Le K w' Z->aL K Z->Z.aD=s'->bQ K Z env cO->aq K Z (accD++xs) vs->Q cO vs Z.H),
  ⟨ds.length,rfl,ü _,w1,accD,xs,rfl,Le.refl _,S1,eo,da,h,hl,hQ⟩,?_⟩
 intro i m τ acc r zzz;obtain⟨rfl,hi,w',accD,xs,rfl,P,L,p,O,Y,I,G⟩:=zzz;by_cases F:i<ds.length
 ·right
  obtain⟨gH,hy⟩:=(hJ w' P L i).1 _ (Ô F);rw[Ŝ F] at Y;simp only[fX] at Y
  cases X:g ds[i] env with
  |none=>rw[X] at Y;cases Y
  |some S =>
   rw[X] at Y;obtain⟨b,s2,E,N⟩:=rG Y;have E:=Cd E;refine⟨gH,fun τ acc o=>∃w' accD xs,w'.H=o/\Le K w1 w'/\aL K w'/\bQ K w' env τ/\aq K w' accD acc/\fX g t act env (ds.drop (i+1)) w'.aD=some (.ok xs,s')/\acc.length+xs.length<=Ø /\
    (∀Z cO vs,Le K w' Z->aL K Z->Z.aD=s'->bQ K Z env cO->aq K Z (accD++xs) vs->Q cO vs Z.H),fun qw oq o q=>⟨ds.length-(i+1),by omega,rfl,F,q⟩,λx H3 y=>?_⟩
   obtain⟨Z,rfl,U,n,es,dv⟩:=hy x H3 y;refine T.imp _ _ _ _ ⟨Z,env,ds[i],S,rfl,n,p.le U,dv,X,fun l R=>⟨Z,S,rfl,n,R,?_⟩⟩;have k:∀{j:St},j.length=l.length->S.length=j.length:=λe=>by rw[R.len,e]
   have el:env.length=S.length\/True:=.inr trivial;rw[es,E];intro f W c a
   cases b with
   |true =>
    rw[Þ rfl] at N |-;obtain⟨ys,s3,M,h3⟩:=rG N;have M:=Cd M;obtain⟨zs,s4,hz,h4⟩:=rG h3;cases h4;rw[<- a] at M;refine hA f S l acc accD ys s3 _ (hp _ _ X) c (R.le W) ((U.trans W).all O) M (by rw[Ð] at I;omega) λw4 τ4 vs l4 S4 e4 NV Nj=>?_;have lv:=Nj.length;refine⟨w4,accD++ys,zs,rfl,P.trans (U.trans (W.trans l4)),S4,NV.back hs hf X ?_,Nj,by rw[e4];exact hz,?_,λC B A z w v u s=>G C B A (U.trans (W.trans (l4.trans z))) w v u (by rw[<- Ĩ];exact s)⟩
    ·rw[<- NV.len]
     exact(len_same hs X).symm
    ·rw[Ð] at I lv
     have:=O.length;omega
   |false =>
    rw[å Ö] at N |-;exact⟨f,accD,xs,rfl,P.trans (U.trans W),c,(R.le W).back hs hf X (by rw[<- R.len];exact(len_same hs X).symm),(U.trans W).all O,by rw[a];exact N,I,λC B A z w v u s=>G C B A (U.trans (W.trans z)) w v u s⟩
 ·left
  have e:i=ds.length:=by omega
  subst e;rw[acN] at Y;cases Y;exact⟨(hJ w' P L _).2 (adv _),G w' τ acc (Le.refl _) L rfl p (by rw[Ē];exact O)⟩
def xP {K:ĥ} {Pre Pre':Env->Prop} {g0:TG} {g:D->Env->Option Env} {nt:Nat} {sl:List Nat} {it:adq (List D)} {t:adq Bool} {act:adq (List D)} {ta:jX} (T:Tg K g0 g nt) (hs:Sl g sl) (hA:sA K Pre ta act)
  (h1:∀env,Pre' env->f9 sl env) (h2:∀d env aA,Pre' env->g d env=some aA->Pre aA):sA K Pre' (Mu (dD K bI it) g0 (tT K bI t) ta) (more it g t act):=by
 intro w env y V Y x v Q X S W U h R P;obtain⟨u,s,O,N⟩:=rG h;refine⟨w,env,rfl,S,W,?_⟩;rw[O];intro r Z M e1 J L;exact Bf T hs (h1 env X) (λd aA I=>h2 d env aA X I) hA L M (W.le Z) (Z.all U) (by rw[e1];exact N) R λH G F E C B A z=>P H G F (Z.trans E) C B A z
def IP (T:Tg K g0 g nt) (hs:Sl g sl) (xa:∀i∈sl,i<nt) (hA:sA K Pre ta act)
 (hp:∀d caps aA,g d (Ï nt none++caps)=some aA->Pre aA) (σ:St) (H:Hp) (Q:VK) :
  tE K Ξ (va nt cap it g t act) σ H Q->CT (dD K Ξ it) nt cap g0 (tT K bI t) ta σ H Q:=by
 intro zzz;obtain⟨w,env,rfl,S,U,h⟩:=zzz;refine⟨w,env,rfl,S,U,(Out.ak h).mono λR M L I Y J G=>?_⟩
 cases V:fX g t act (Ï nt none++dP cap env) M R.aD with
 |none=>rw[V] at Y;exact Y.elim
 |some r =>
  obtain⟨r,F⟩:=r;rw[V] at Y
  cases r with
  |error x=>exact Y.elim
  |ok P =>
   have Y:Out K Ξ R (gZ P (ok (D.lst P) F)) (λX d=>∀v,DV K X d v->Q v X.H):=Y;obtain⟨E,Y⟩:=pd Y;have C:=(U.le L).block nt cap (Ï nt none) (by simp);refine Bf T hs (λi hi d e=>?_) (λd aA B=>hp d _ aA B) hA G I C (accD:=[]) rfl V (by simpa using E) λX u O A N z s y p W=>?_
   ·rw[ã (by simpa using xa i hi),ĭ,Þ (xa i hi)] at e
    cases e
   ·exact Y (X.grow p (.lst O)) (A.trans (Fw.grow W).le) (N.grow W) z (.ref p) ⟨p,O,rfl,⟨(show ¬ X.Z p from pC N W),cW⟩,(Fw.grow W).le.all y⟩
def f9.of {nt:Nat} {g:D->Env->Option Env} {sl cK:List Nat} (hs:Sl g sl) (hd:∀i∈cK,i<nt/\i∉sl) {d:D} {caps aA:Env} (hg:g d (Ï nt none++caps)=some aA):f9 cK aA:=λi hi x e=>by
 obtain⟨Z,Y⟩:=hd i hi;rw[(hs _ _ _ hg).2 i Y,ã (by simpa using Z),ĭ,Þ Z] at e;cases e
def f9.on (hs:Sl g sl) (hd:∀i∈cK,i∉sl) (hf:f9 cK env) (hg:g d env=some aA):f9 cK aA:=λi hi x e=>by
 rw[(hs _ _ _ hg).2 i (hd i hi)] at e;exact hf i hi x e
section
variable {X:Cx} {Ξ:Wd->aQ->Prop} {el tg src gK fF tV qd:ľ} {tests iK vd:List ľ} {sc:acf} {ps pos:Pos} {N:List Str} {nt:Nat} {cap:List Nat} {it fL As:adq (List D)} {gd md F6:D->Env->Option Env} {g0 qK NW:TG} {sl cK xb:List Nat} {ft i4 NX:adq Bool} {f:adq D}
abbrev LI (nt:Nat) (cap:List Nat) (it:adq (List D)) (g:D->Env->Option Env) (t:adq Bool) (fL:adq (List D)) (g2:D->Env->Option Env) (t2:adq Bool) (f:adq D):adq D:=va nt cap it g t (more fL g2 t2 (emit f))
abbrev LJ (nt:Nat) (cap:List Nat) (it:adq (List D)) (g:D->Env->Option Env) (t:adq Bool) (fL:adq (List D)) (g2:D->Env->Option Env) (t2:adq Bool) (As:adq (List D)) (g3:D->Env->Option Env) (t3:adq Bool) (f:adq D):adq D:=va nt cap it g t (more fL g2 t2 (more As g3 t3 (emit f)))
noncomputable def apart (nt:Nat) (sl cK:List Nat):Bool:=cK.all (λi=>decide (i<nt)&&!sl.contains i)
def nM (h:apart nt sl cK=true):∀i∈cK,i<nt/\i∉sl:=λi hi=>by
 have:=õ.mp h i hi;simp only[È,Í,ĵ,List.contains_eq_mem,decide_eq_false_iff_not] at this;exact this
noncomputable abbrev EX (e el:ľ) (d:Nat):PySem.Env->ä->ä->Sem PySem.Fin:=λce D it=>(do let _ <- call (.builtin "list.append") [.ref D,<- ţ el ce]:Sem Unit) >>= λ_=>again (.compLoop e d (.ref it) (.ref D) ce)
noncomputable abbrev zP (e src:ľ) (d:Nat):PySem.Env->ä->ä->Sem PySem.Fin:=λce D it=>do
 let x <- ţ src ce
 abO src.pos
 let x <- ý src ce x
 let _ <- runOwn (.compStart e (d+1) (<- abj [x] (pyIter x)) (.ref D) ce) ce
 again (.compLoop e d (.ref it) (.ref D) ce)
def VG (hc:X.calm=true) (S:nX X sc N nt cap) (T:Tg X.K g0 gd nt) (gF:Sl gd sl) (T2:Tg X.K qK md nt) (cF:Sl md cK) (hi:PI X tg src (dD X.K Ξ it))
  (hY:∀(cl:List (Str×ä)) (C:ä) (s:Å) (H:Hp) (ex:List ä) (pn:List (ä×Obj)),PG (cL X N sc cl C s H ex pn) tg g0/\PF (cL X N sc cl C s H ex pn) tests (tT X.K bI ft)/\PI (cL X N sc cl C s H ex pn) gK fF (dD X.K bI fL)/\PG (cL X N sc cl C s H ex pn) gK qK/\PF (cL X N sc cl C s H ex pn) iK (tT X.K bI i4)/\PE (cL X N sc cl C s H ex pn) el (tE X.K bI f))
  (oJ:apart nt sl cK=true:=by rfl) (oK:apart nt [] sl=true:=by rfl)
  (hs:∀x,ý src X.env x=pure x:=by intro _;rfl) (xc:∀ce x,ý fF ce x=pure x:=by intro _ _;rfl):PE X (.ListComp el [⟨tg,src,tests,0⟩,⟨gK,fF,iK,0⟩] sc ps) (tE X.K Ξ (LI nt cap it gd ft fL md i4 f)) :=
 cb (By (act:=zP (.ListComp el [⟨tg,src,tests,0⟩,⟨gK,fF,iK,0⟩] sc ps) fF 0) hc S T.jF hi (λcl C s H ex pn=>by
   obtain⟨y1,y2,y3,y4,y5,W⟩:=hY cl C s H ex pn;exact⟨y1,y2,λD Z it=>yp (d:=1) (act:=λY=>EX (.ListComp el [⟨tg,src,tests,0⟩,⟨gK,fF,iK,0⟩] sc ps) el 1 _ D Y) rfl hc rfl y3 y4 T2.jF y5 (λY=>Bx rfl W) (λ_=>rfl) (xc _)⟩) (λ_ _ _=>rfl) hs)
  (IP (Pre:=f9 cK) T gF (λi hi=>(nM oK i hi).1) (xP T2 cF A1 (λ_ h=>h) (λ_ _ _ _ _=>trivial)) λd Z U V=>f9.of gF (nM oJ) V)
def VH (hc:X.calm=true) (S:nX X sc N nt cap) (T:Tg X.K g0 gd nt) (gF:Sl gd sl) (T2:Tg X.K qK md nt) (cF:Sl md cK) (T3:Tg X.K NW F6 nt) (hs3:Sl F6 xb) (hi:PI X tg src (dD X.K Ξ it))
  (hY:∀(cl:List (Str×ä)) (C:ä) (s:Å) (H:Hp) (ex:List ä) (pn:List (ä×Obj)),PG (cL X N sc cl C s H ex pn) tg g0/\PF (cL X N sc cl C s H ex pn) tests (tT X.K bI ft)/\PI (cL X N sc cl C s H ex pn) gK fF (dD X.K bI fL)/\PG (cL X N sc cl C s H ex pn) gK qK/\PF (cL X N sc cl C s H ex pn) iK (tT X.K bI i4) /\
   PI (cL X N sc cl C s H ex pn) tV qd (dD X.K bI As)/\PG (cL X N sc cl C s H ex pn) tV NW/\PF (cL X N sc cl C s H ex pn) vd (tT X.K bI NX)/\PE (cL X N sc cl C s H ex pn) el (tE X.K bI f))
  (oJ:apart nt sl cK=true:=by rfl) (h13:apart nt sl xb=true:=by rfl) (h23:apart nt cK xb=true:=by rfl) (oK:apart nt [] sl=true:=by rfl)
  (hs:∀x,ý src X.env x=pure x:=by intro _;rfl) (xc:∀ce x,ý fF ce x=pure x:=by intro _ _;rfl) (hf3:∀ce x,ý qd ce x=pure x:=by intro _ _;rfl):PE X (.ListComp el [⟨tg,src,tests,0⟩,⟨gK,fF,iK,0⟩,⟨tV,qd,vd,0⟩] sc ps) (tE X.K Ξ (LJ nt cap it gd ft fL md i4 As F6 NX f)) :=
 cb (By (act:=zP (.ListComp el [⟨tg,src,tests,0⟩,⟨gK,fF,iK,0⟩,⟨tV,qd,vd,0⟩] sc ps) fF 0) hc S T.jF hi (λcl C s H ex pn=>by
   obtain⟨y1,y2,y3,y4,y5,V,U,R,Q⟩:=hY cl C s H ex pn;exact⟨y1,y2,λD Z it=>yp (d:=1) (act:=λW=>zP (.ListComp el [⟨tg,src,tests,0⟩,⟨gK,fF,iK,0⟩,⟨tV,qd,vd,0⟩] sc ps) qd 1 _ D W) rfl hc rfl y3 y4 T2.jF y5 (λW=>yp (d:=2) (act:=λfL=>EX (.ListComp el [⟨tg,src,tests,0⟩,⟨gK,fF,iK,0⟩,⟨tV,qd,vd,0⟩] sc ps) el 2 _ D fL) rfl hc rfl V U T3.jF R (λfL=>Bx rfl Q) (λ_=>rfl) (hf3 _)) (λ_=>rfl) (xc _)⟩) (λ_ _ _=>rfl) hs)
  (IP (Pre:=λenv=>f9 cK env/\f9 xb env) T gF (λi hi=>(nM oK i hi).1) (xP T2 cF (xP (Pre':=f9 xb) T3 hs3 A1 (λ_ h=>h) (λ_ _ _ _ _=>trivial)) (λ_ h=>h.1) (λd env P h Y=>f9.on cF (λi hi=>(nM h23 i hi).2) h.2 Y)) λd Z P Y=>⟨f9.of gF (nM oJ) Y,f9.of gF (nM h13) Y⟩)
end
end DI
namespace L2
open PySem PySem.Spec PyProof.Rows
noncomputable abbrev Cx.fU (X:Cx):Cx:={ X with A:=X.A.in1,xe:=λ_ _=>False }
theorem Inv.fU {X:Cx} {π:List (ä×Obj)} {σ:St} {H:Hp} {s:Å} (I:Inv X π σ H s):Inv X.fU π σ H s :=
 ⟨⟨I.ok.mod,I.ok.kind,I.ok.glob,I.ok.blt,I.ok.above,I.ok.inj,I.ok.has,I.ok.ql,I.ok.hd,I.ok.frames,I.ok.qm,I.ok.zX,I.ok.bs,I.ok.iA,I.ok.lO,I.ok.sL,I.ok.iR,I.ok.ni⟩,I.os,I.bare,I.base,I.loc,I.cell,I.free,I.iL,I.pin,I.aE,I.len⟩
def Inv.aaT {X:Cx} {π:List (ä×Obj)} {σ:St} {H:Hp} {s:Å} (I:Inv X.fU π σ H s):Inv X π σ H s :=
 ⟨⟨I.ok.mod,I.ok.kind,I.ok.glob,I.ok.blt,I.ok.above,I.ok.inj,I.ok.has,I.ok.ql,I.ok.hd,I.ok.frames,I.ok.qm,I.ok.zX,I.ok.bs,I.ok.iA,I.ok.lO,I.ok.sL,I.ok.iR,I.ok.ni⟩,I.os,I.bare,I.base,I.loc,I.cell,I.free,I.iL,I.pin,I.aE,I.len⟩
def EY (X:Cx) (kv:Ç) (rk:V->Hp->VK->Prop):Prop :=
 ∀(Z:List (ä×Obj)) (s:Å) (σ:St) (H:Hp) (x:V) (v:Ç) (Q:VK),Inv X Z σ H s->RelV x v->rk x H Q->á (í X.prog X.w) X.A (call kv [v]) (EP X Z σ Q) X.xe s
def xf (K:ĥ) (l:ä) (all:List V) (rk:V->Hp->VK->Prop) (rc:R2):List V->V->V->Hp->VK->Prop
 | [],Z,_,H,Q=>bh K H l all/\Q Z H
 |x::Y,Z,X,H,Q=>bh K H l all/\rk x H λk U=>rc k X U λz W=>∃b,z=.bl b/\if b=true then xf K l all rk rc Y x k W Q else xf K l all rk rc Y Z X W Q
def EZ (K:ĥ) (l:ä) (all:List V) (rk:V->Hp->VK->Prop) (rc:R2) (dv:V) (H:Hp) (Q:VK):Prop:=bh K H l all/\match all with
 | []=>Q dv H
 |x::Z=>rk x H λk Y=>xf K l all rk rc Z x k Y Q
def LK (X:Cx) (π:List (ä×Obj)) (σ:St) (Q:VK) (r:Result) (s':Å):Prop:=match r with
 | .ok (.ret v)=>EP X π σ Q v s'
 | .ok _=>False
 | .error e=>X.xe e s'
def R3 {X:Cx} {l I S:ä} {kS:String} {kw:List (Str×Ç)} {all:List V} {π:List (ä×Obj)} {σ:St} {rk:V->Hp->VK->Prop} {rc:R2} {Q:VK} (hc:X.calm=true) (xg:l≠I) (qL:S≠I) (NY:S≠l) (hK:EY X.fU (.builtin kS) rk) (hC:bp X.fU (ě .Gt) rc) :
  ∀(rest:List V) (j:Nat) (s:Å) (H:Hp) (vb kb:V) (ub uk:Ç) (c:Nat),all.drop j=rest->j<=all.length->Inv X.fU π σ H s->dh X π H S->dh X π H I->s.heap.get? S=some { cls:=.type "list",dict:=none,data:=.seq #[ub,uk] c,slots:=#[] }->s.heap.IsListIter I l j->RelV vb ub->RelV kb uk ->
   xf X.K l all rk rc rest vb kb H Q->Ź (í X.prog X.w) X.A (.builtin "max.loop" ⟨[.ref I,.builtin kS,.ref S],kw⟩) (LK X π σ Q) s:=by
 have a:(toString "max"++toString ".loop":String)="max.loop":=by decide
 intro rest
 induction rest with
 |nil =>
  intro j s H vb kb ub uk c hd NZ T Y Z J hit y rk' h;obtain⟨u,h⟩:=h;have hj:j=all.length:=Nat.le_antisymm NZ (by simpa using hd);subst hj;obtain⟨its,rv,t,hz⟩:=T.list u;have r:X.A.in1.handled=none:=T.ok.hd hc;have W:=Walks.list (prog:=X.prog) (w:=X.w) (A:=X.A.in1) r I l xg its.toArray;have R:its.toArray.size=all.length:=by rw[Û];exact rv.length.symm
  refine ı ack ?_;rw[Ń Ň _];show á _ X.A.in1 (seqItems? (.ref S) >>= _) _ _ _;refine À (Ĵ J rfl ?_);show á _ X.A.in1 (tryCatch (ſ (.ref I)) _ >>= _) _ _ _;refine À (abK (W.done _ _ _ ⟨by rw[R];exact hit,t.isList⟩ λh' E G=>?_));have q:=G S _ (by simpa using qL) J
  have D:Inv X.fU π σ H { s with heap:=h',toks:=E }:=T.turned (it:=I) (λb o P e=>G b o (by simpa using P) e) Z.1 Z.2.1 Z.2.2.2.1 Z.2.2.2.2.1 Z.2.2.2.2.2
  show á _ X.A.in1 (updateSeq S (λ_=>#[]) >>= _) _ _ _;refine À ?_;refine aca q rfl (À (abS (Ä ?_)));have n:=D.turned (h':=h'.update S (Ŀ λ_=>(#[]:Array Ç))) (t':=E) (it:=S) (λb o P e=>(ģ _ _ (ŕ P)).trans e) Y.1 Y.2.1 Y.2.2.2.1 Y.2.2.2.2.1 Y.2.2.2.2.2;exact⟨vb,H,n.aaT,y,h⟩
 |cons x rest ih =>
  intro j s H vb kb ub uk c hd NZ T Y Z J hit y N0 h;obtain⟨u,h⟩:=h;have C:all[j]?=some x:=by
   have:=Ķ (λl=>l[0]?) hd;simpa using this
  have fJ:all.drop (j+1)=rest:=by
   have:=Ķ (List.drop 1) hd;simpa [List.drop_drop] using this
  obtain⟨its,rv,t,hz⟩:=T.list u;have r:X.A.in1.handled=none:=T.ok.hd hc;have W:=Walks.list (prog:=X.prog) (w:=X.w) (A:=X.A.in1) r I l xg its.toArray;have R:its.toArray.size=all.length:=by rw[Û];exact rv.length.symm
  refine ı ack ?_;rw[Ń Ň _];show á _ X.A.in1 (seqItems? (.ref S) >>= _) _ _ _;refine À (Ĵ J rfl ?_);show á _ X.A.in1 (tryCatch (ſ (.ref I)) _ >>= _) _ _ _;refine À (abK (W.item j _ _ _ (by rw[R];exact(Æ.mp C).1) ⟨hit,t.isList⟩ λv h' E hP E1 G=>?_));obtain⟨U,oB,rx⟩:=rv.get C;have ev:U=v:=by
   have:its.toArray[j]?=some v:=hP;rw[List.getElem?_toArray,oB] at this;exact adw this
  subst ev;have q:=G S _ (by simpa using qL) J
  have D:Inv X.fU π σ H { s with heap:=h',toks:=E }:=T.turned (it:=I) (λb o P e=>G b o (by simpa using P) e) Z.1 Z.2.1 Z.2.2.2.1 Z.2.2.2.2.1 Z.2.2.2.2.2
  obtain⟨F,F7,qp,m⟩:=id E1.1;have nS:∀v,({ cls:=.type "list",dict:=none,data:=.seq #[ub,uk] c,slots:=#[] }:Obj).data≠.cell v:=λv z=>by cases z
  have nI:∀v,F.data≠.cell v:=λv z=>by rw[m] at z;cases z
  have n:=D.mz (pins':=π++[(S,{ cls:=.type "list",dict:=none,data:=.seq #[ub,uk] c,slots:=#[] }),(I,F)]) λp hp=>by
   rcases ñ.mp hp with z|z
   ·exact D.pin p (Ê _ z)
   ·rcases É.mp z with rfl|z
    ·exact⟨q,Y.1,Y.2.1,Y.2.2.1,nS⟩
    ·rw[Ü.mp z]
     exact⟨F7,Z.1,Z.2.1,Z.2.2.1,nI⟩
  show á _ X.A.in1 (tryCatch (abj [U] (call (.builtin kS) [U])) _ >>= _) _ _ _;refine À (abK (Ġ (ķ (hK _ _ σ H x U _ n rx h) (λO s2 fZ=>?_) λ_ _ z=>z.elim)));obtain⟨k,H2,I3,Au,h⟩:=fZ;show á _ X.A.in1 (tryCatch (abj [U,O] (richCompare .Gt O uk >>= _)) _ >>= _) _ _ _;refine À (abK (Ġ (À (ķ (hC _ s2 σ H2 k kb O uk _ I3 Au N0 h) (λz M i=>?_) λ_ _ z=>z.elim))));obtain⟨zv,L,g,rz,b,eb,h⟩:=i;subst eb;cases rz;refine À (Ġ (ŗ ?_));refine À (abS (Ä ?_));have B:=g.pin (S,{ cls:=.type "list",dict:=none,data:=.seq #[ub,uk] c,slots:=#[] }) (Ê _ (Ê _ (by simp)));have f:=g.pin (I,F) (Ê _ (Ê _ (by simp)));have I5:Inv X.fU π σ L M:=g.ke;have N:dh X π L S:=⟨B.2.1,Y.2⟩;have Av:dh X π L I:=⟨f.2.1,Z.2⟩
  cases b with
  |true =>
   rw[Þ rfl] at h;rw[Þ rfl];refine À ?_;refine aca B.1 rfl (À (abS ?_));rw[a];obtain⟨d,gC⟩:∃d,(M.heap.update S (Ŀ λ_=>#[U,O])).get? S=some { cls:=.type "list",dict:=none,data:=.seq #[U,O] d,slots:=#[] }:=⟨_,Ė _ B.1 rfl⟩
   have I6:Inv X.fU π σ L { M with heap:=M.heap.update S (Ŀ λ_=>#[U,O]),toks:=M.toks }:=I5.turned (t':=M.toks) (it:=S) (λb o P e=>(ģ _ _ (ŕ P)).trans e) N.1 N.2.1 N.2.2.2.1 N.2.2.2.2.1 N.2.2.2.2.2
   exact Ä ⟨υ Ň _,ih (j+1) _ L x k U O d fJ (Æ.mp C).1 I6 N Av gC ⟨F,(ģ _ _ qL).trans f.1,qp,m⟩ rx Au h⟩
  |false =>
   rw[å Ö] at h;rw[å Ö];refine À (abS ?_);rw[a];exact Ä ⟨υ Ň _,ih (j+1) _ L vb kb ub uk c fJ (Æ.mp C).1 I5 N Av B.1 ⟨F,f.1,qp,m⟩ y N0 h⟩
def QZ (a v:Ç):argsOk "max" ⟨[a],[(Ā "key",v)]⟩:=by unfold argsOk;kernel_rfl
def R4 {X:Cx} {l:ä} {kS:String} {all:List V} {π:List (ä×Obj)} {σ:St} {H:Hp} {s:Å} {rk:V->Hp->VK->Prop} {rc:R2} {Q:VK} (hc:X.calm=true) (hK:EY X.fU (.builtin kS) rk) (hC:bp X.fU (ě .Gt) rc)
  (I0:Inv X π σ H s) (bK:all≠[]) (h:EZ X.K l all rk rc .ax H Q):á (í X.prog X.w) X.A (call (.builtin "max") [.ref l] [(Ā "key",.builtin kS)]) (EP X π σ Q) X.xe s:=by
 have r:(toString "max"++toString ".loop":String)="max.loop":=by decide
 obtain⟨hq,h⟩:=h;obtain⟨its,rv,J,hz⟩:=I0.list hq;have q:l<s.heap.objs.size:=by obtain⟨o,n,ho,_⟩:=J;exact Ó ho
 have hh:X.A.in1.handled=none:=I0.fU.ok.hd hc;refine kmk_tree PySem.F.kind_max PySem.F.plain_max PySem.F.entry_max (QZ _ _) ?_;show á _ X.A.in1 (ac2 "max" ["key","default"] 0 ⟨[],[(Ā "key",.builtin kS)]⟩ >>= _) _ _ s;refine À (ξ (show ac2 "max" ["key","default"] 0 ⟨[],[(Ā "key",.builtin kS)]⟩=pure [some (.builtin kS),none] from rfl) ?_);refine À (Ä ?_);refine À (Ō J.isList ?_);refine À (acb ?_ (ü _));rw[r];generalize U:s.heap.objs.size=I at *;have N:(s.heap.push { cls:=.type "list_iterator",data:=.fields #[.ref l,.int 0 0] }).objs.size=I+1:=by rw[<- U];exact û ..
 generalize G:(s.heap.push { cls:=.type "list_iterator",data:=.fields #[.ref l,.int 0 0] }).objs.size=S at *;have m:l≠I:=à q;have E:S≠I:=by rw[N];exact Nat.succ_ne_self _
 have NY:S≠l:=by rw[N];exact ĸ (é q)
 have j:∀b o,s.heap.get? b=some o->((s.heap.push { cls:=.type "list_iterator",data:=.fields #[.ref l,.int 0 0] }).push { cls:=.type "list",dict:=none,data:=.seq #[] 0,slots:=#[] }).get? b=some o:=λb o e=>Á _ (Á _ e);have gI:((s.heap.push { cls:=.type "list_iterator",data:=.fields #[.ref l,.int 0 0] }).push { cls:=.type "list",dict:=none,data:=.seq #[] 0,slots:=#[] }).get? I=some { cls:=.type "list_iterator",data:=.fields #[.ref l,.int 0 0] }:=Á _ (U ▸ Ë _ rfl);have g:((s.heap.push { cls:=.type "list_iterator",data:=.fields #[.ref l,.int 0 0] }).push { cls:=.type "list",dict:=none,data:=.seq #[] 0,slots:=#[] }).get? S=some { cls:=.type "list",dict:=none,data:=.seq #[] 0,slots:=#[] }:=G ▸ Ë _ rfl;have nI:H I=none:=I0.aE.fresh (abk U);have nS:H S=none:=I0.aE.fresh (by rw[N];exact Ú (abk U) (ł _));have Z:dh X π H I:=I0.oh (abk U) nI;have M:dh X π H S:=I0.oh (by rw[N];exact Ú (abk U) (ł _)) nS;have I1:=I0.fU.kept (t':=s.toks) j;refine Ä ⟨υ Ň _,?_⟩;show Ź (í X.prog X.w) X.A (.builtin "max.loop" ⟨[.ref I,.builtin kS,.ref S],[]⟩) (LK X π σ Q) _;have W:=Walks.list (prog:=X.prog) (w:=X.w) (A:=X.A.in1) hh I l m its.toArray;have D:its.toArray.size=all.length:=by rw[Û];exact rv.length.symm
 have hit:Heap.IsListIter ((s.heap.push { cls:=.type "list_iterator",data:=.fields #[.ref l,.int 0 0] }).push { cls:=.type "list",dict:=none,data:=.seq #[] 0,slots:=#[] }) I l 0:=⟨_,gI,rfl,rfl⟩;have C:Heap.IsList ((s.heap.push { cls:=.type "list_iterator",data:=.fields #[.ref l,.int 0 0] }).push { cls:=.type "list",dict:=none,data:=.seq #[] 0,slots:=#[] }) l its.toArray:=J.isList.at λo e=>j l o e;refine ı ack ?_;rw[Ń Ň _];show á _ X.A.in1 (seqItems? (.ref S) >>= _) _ _ _;refine À (Ĵ g rfl ?_);show á _ X.A.in1 (tryCatch (ſ (.ref I)) _ >>= _) _ _ _
 cases all with
 |nil =>
  exact absurd rfl bK
 |cons x rest =>
  refine À (abK (W.item 0 _ _ _ (by rw[D];simp) ⟨hit,C⟩ λv h' tW hP E1 f=>?_));obtain⟨Y,oB,d⟩:=rv.get (i:=0) (x:=x) rfl;have ev:Y=v:=by
   have:its.toArray[0]?=some v:=hP;rw[List.getElem?_toArray,oB] at this;exact adw this
  subst ev;have xh:=f S _ (by simpa using E) g;have c:=I1.turned (h':=h') (t':=tW) (it:=I) (λb o B e=>f b o (by simpa using B) e) Z.1 Z.2.1 Z.2.2.2.1 Z.2.2.2.2.1 Z.2.2.2.2.2;obtain⟨L,F7,qp,a⟩:=id E1.1;have cS:∀v,({ cls:=.type "list",dict:=none,data:=.seq #[] 0,slots:=#[] }:Obj).data≠.cell v:=λv z=>by cases z
  have cI:∀v,L.data≠.cell v:=λv z=>by rw[a] at z;cases z
  have I3:=c.mz (pins':=π++[(S,{ cls:=.type "list",dict:=none,data:=.seq #[] 0,slots:=#[] }),(I,L)]) λp hp=>by
   rcases ñ.mp hp with z|z
   ·exact c.pin p (Ê _ z)
   ·rcases É.mp z with rfl|z
    ·exact⟨xh,M.1,M.2.1,M.2.2.1,cS⟩
    ·rw[Ü.mp z]
     exact⟨F7,Z.1,Z.2.1,Z.2.2.1,cI⟩
  show á _ X.A.in1 (tryCatch (abj [Y] (call (.builtin kS) [Y])) _ >>= _) _ _ _;refine À (abK (Ġ (ķ (hK _ _ σ H x Y _ I3 d h) (λP T fZ=>?_) λ_ _ z=>z.elim)));obtain⟨k,O,y,Au,h⟩:=fZ;have u:=y.pin (S,{ cls:=.type "list",dict:=none,data:=.seq #[] 0,slots:=#[] }) (Ê _ (Ê _ (by simp)));have pI:=y.pin (I,L) (Ê _ (Ê _ (by simp)));have I5:Inv X.fU π σ O T:=y.ke;have R:dh X π O S:=⟨u.2.1,M.2⟩;have Av:dh X π O I:=⟨pI.2.1,Z.2⟩;show á _ X.A.in1 (updateSeq S (λ_=>#[Y,P]) >>= _) _ _ _;refine À ?_;refine aca u.1 rfl ?_;rw[r];obtain⟨t,gC⟩:∃t,(T.heap.update S (Ŀ λ_=>#[Y,P])).get? S=some { cls:=.type "list",dict:=none,data:=.seq #[Y,P] t,slots:=#[] }:=⟨_,Ė _ u.1 rfl⟩
  have I6:Inv X.fU π σ O { T with heap:=T.heap.update S (Ŀ λ_=>#[Y,P]),toks:=T.toks }:=I5.turned (t':=T.toks) (it:=S) (λb o B e=>(ģ _ _ (ŕ B)).trans e) R.1 R.2.1 R.2.2.2.1 R.2.2.2.2.1 R.2.2.2.2.2
  exact Ä ⟨υ Ň _,R3 hc m E NY hK hC rest 1 _ O x k Y P t rfl (by simp) I6 R Av gC ⟨L,(ģ _ _ E).trans pI.1,qp,a⟩ d Au h⟩
end L2
namespace HT
open PySem PyProof.Rows
def E2 (A:Ĉ) (s:Å) (y x:Ç) (b:Bool):Prop:=∀(prog:ó) (w:Ĕ) (E:Ç->Å->Prop) (Q:Ç->Å->Prop),Q (.bool b) s->á (í prog w) A (richCompare .Lt y x) Q E s
inductive jj (A:Ĉ) (s:Å):List Ç->List Ç->Bool->Prop where
 |nn:jj A s [] [] false
 |nc (y:Ç) (ys:List Ç):jj A s [] (y::ys) true
 |cn (x:Ç) (xs:List Ç):jj A s (x::xs) [] false
 |eq {x y:Ç} {xs ys:List Ç} {b:Bool}:SeqAt.EqAt A s x y true->jj A s xs ys b->jj A s (x::xs) (y::ys) b
 |lt {x y:Ç} {xs ys:List Ç} {b:Bool}:SeqAt.EqAt A s x y false->E2 A s x y b->jj A s (x::xs) (y::ys) b
section
open PySem.SeqAt
open PySem.AutoSeq1 (wpAny_loadPart')
open PySem.MeetsSeq PySem.MeetsSeq2 PySem.MeetsSeq3
def Q0 (l b:ä) (items nY:Array Ç) (n n2:Nat) (dd oF:Option ä) (sl cK:Array (Option Ç)) (nB:Bool) :
  Meets (Ť.«tuple.__lt__» ⟨[.ref l,.ref b],[]⟩)
   (λA R s=>s.heap.get? l=some { cls:=.type "tuple",dict:=dd,data:=.seq items n,slots:=sl }/\s.heap.get? b=some { cls:=.type "tuple",dict:=oF,data:=.seq nY n2,slots:=cK } /\
    jj A.in1 s items.toList nY.toList nB/\R (.ok (.ret (.bool nB))) s) :=
 .of_wp λprog w A R s h=>by
  obtain⟨M,g,d,L,os⟩:=s;obtain⟨J,I,H,h⟩:=h;have f2:=AutoSeq1.sub_tuple_tuple
  wp_walk using abq J,abq I,wpAny_forIn_list _ (λrest b W=>b.1=none/\W=⟨M,g,d,L,os⟩/\∃(X ws:List Ç),rest=X.zip ws /\
   jj A.in1 ⟨M,g,d,L,os⟩ X ws nB/\X.length+nY.size=ws.length+items.size) _
  case turn =>
   rintro ⟨y,x⟩ rest b W ⟨V,rfl,X,ws,Y,U,Z⟩
   cases U with
   |nn=>cases Y
   |nc _ _=>cases Y
   |cn _ _=>cases Y
   |eq T S =>
    rw[ņ] at Y
    injection Y with Q K
    injection Q with P O
    subst P O;simp only[ê] at Z;refine À (T prog w _ _ ?_)
    wp_walk
    exact⟨rfl,rfl,_,_,K,S,by omega⟩
   |lt T S =>
    rw[ņ] at Y
    injection Y with Q K
    injection Q with P O
    subst P O;refine À (T prog w _ _ ?_);have N:=S prog w
    wp_walk using N
    exact⟨_,rfl,by simpa using h⟩
  case fin =>
   rintro ⟨F,E⟩ W ⟨V,rfl,X,ws,Y,U,Z⟩;simp only at V;subst V;have G:nB=decide (items.size<nY.size):=by
    cases U with
    |nn=>simp only[Ć] at Z;exact(æ (by omega)).symm
    |nc _ _=>simp only[Ć,ê] at Z;exact(Õ (by omega)).symm
    |cn _ _=>simp only[Ć,ê] at Z;exact(æ (by omega)).symm
    |eq _ _=>rw[ņ] at Y;cases Y
    |lt _ _=>rw[ņ] at Y;cases Y
   rw[G] at h
   wp_walk
   exact⟨_,rfl,by simpa [Builtin.Tuple.tupleCompareSizes] using h⟩
  case h =>
   exact⟨rfl,rfl,items.toList,nY.toList,rfl,H,by simp only[Ą];omega⟩
end
open PySem.SeqAt PySem.MeetsSeq
section
variable {prog:ó} {w:Ĕ} {A:Ĉ} {E:Ç->Å->Prop} {s:Å}
def Kx (hl:IsTup s.heap l items) (hb:IsTup s.heap b nY) (hA:∀A':Ĉ,A'.units<=A.units+4->jj A' s items.toList nY.toList nB)
 (hu:A.units<acg) (h:Q (.bool nB) s):á (í prog w) A (richCompare .Lt (.ref l) (.ref b)) Q E s:=by
 obtain⟨⟨cls,U,data,T⟩,Z,Y,n,X⟩:=id hl;obtain⟨⟨O,S,data2,R⟩,W,V,P,hd2⟩:=id hb;simp only at Y X V hd2;subst Y X V hd2;refine richCompare_meets_room (op:=.Lt) ⟨_,Z,rfl⟩ ⟨_,W,rfl⟩ PySem.F.slot_tuple_lt PySem.F.entry_tuple_lt (PySem.F.args_tuple_lt_2 _ _) (Q0 l b items nY n P U S T R nB)
  ⟨Z,W,hA _ ?_,show Value.bool nB≠Value.notImplemented/\Q (.bool nB) s from ⟨(λx=>nomatch x),h⟩⟩ hu
 show A.units+1<=A.units+4;omega
end
end HT
namespace DI
open PySem L2 HT
mutual
noncomputable def je:D->D->Option Bool
 | .int i,.int j=>some (decide (i<j))
 | .str x,.str y=>some (decide (x.cps.toList<y.cps.toList))
 | .tup Z,.tup Y=>jv Z Y
 |_,_=>none
noncomputable def jv:List D->List D->Option Bool
 | [],[]=>some false
 | [],_::_=>some true
 |_::_,[]=>some false
 |x::Z,y::Y=>if beq x y=true then jv Z Y else je x y
end
section
variable {X:Cx} {Ξ:Wd->aQ->Prop} {π:List (ä×Obj)} {σ:St} {s:Å} {w:Wd}
def Zp (I:Inv X π σ w.H s) (A:Ĉ) (lx:lay x=true) (ly:lay y=true) (hu:A.units+dep x<acg) (hx:DV X.K w x v) (hy:DV X.K w y u) (rx:RelV v vx) (ry:RelV u vy):SeqAt.EqAt A s vx vy (beq x y):=by
 obtain⟨as,Z⟩:=(hx.py (oX _ lx)).reads I rx;obtain⟨bs,Y⟩:=(hy.py (oX _ ly)).reads I ry;obtain⟨W,V⟩:=mH _ lx;obtain⟨U,T⟩:=mH _ ly;have:=SeqAt.eqAt_reads _ _ A s vx vy as bs Z Y W U (by rw[V];omega);rw[u7 _ _ lx ly] at this;exact this
mutual
theorem Mz (I:Inv X π σ w.H s):∀(A:Ĉ) (x y:D) (b:Bool) (v u:V) (vx vy:Ç),je x y=some b->lay x=true->lay y=true->A.units+5*dep x+5<acg->DV X.K w x v->DV X.K w y u->RelV v vx->RelV u vy->E2 A s vx vy b
 |A,.int i,.int j,b,v,u,vx,vy,h,_,_,_,Z,Y,W,U=>by
  cases h;cases Z;cases Y;obtain⟨t,rfl⟩:=W;obtain⟨T,rfl⟩:=U;intro prog w E Q q;exact Jn A s i t j T prog w E Q q
 |A,.str i,.str j,b,v,u,vx,vy,h,_,_,R,Z,Y,W,U=>by
  cases h;cases Z;cases Y;obtain⟨t,rfl⟩:=W;obtain⟨T,rfl⟩:=U;intro prog w E Q q;exact(PyProof.Rows.lt_str q:á (í prog w) A (ě .Lt (.str i t) (.str j T)) Q E s)
 |A,.tup P,.tup O,b,v,u,vx,vy,h,N,M,R,Z,Y,W,U=>by
  simp only[je] at h;simp only[DV] at Z Y;obtain⟨a,as,rfl,L,J⟩:=Z;obtain⟨c,cs,rfl,G,S⟩:=Y;cases W;cases U;obtain⟨its,F,C,_⟩:=I.tuple L;obtain⟨B,z,r,_⟩:=I.tuple G;intro prog n E Q q;simp only[dep] at R;exact Kx C r (λp o=>by
   have:=LL I p P O b as cs its B h (by simpa [lay] using N) (by simpa [lay] using M) (by omega) J S F z;simpa using this) (by omega) q
 |_,.ax,_,_,_,_,_,_,h,_,_,_,_,_,_,_=>by cases h
 |_,.bl _,_,_,_,_,_,_,h,_,_,_,_,_,_,_=>by cases h
 |_,.lst _,_,_,_,_,_,_,h,_,_,_,_,_,_,_=>by cases h
 |_,.bA _,_,_,_,_,_,_,h,_,_,_,_,_,_,_=>by cases h
 |_,.ai _,_,_,_,_,_,_,h,_,_,_,_,_,_,_=>by cases h
 |_,.ty _,_,_,_,_,_,_,h,_,_,_,_,_,_,_=>by cases h
 |_,.bV _,_,_,_,_,_,_,h,_,_,_,_,_,_,_=>by cases h
 |_,.exc _ _,_,_,_,_,_,_,h,_,_,_,_,_,_,_=>by cases h
 |_,.cN _ _ _,_,_,_,_,_,_,h,_,_,_,_,_,_,_=>by cases h
 |_,.int _,.ax,_,_,_,_,_,h,_,_,_,_,_,_,_=>by cases h
 |_,.int _,.bl _,_,_,_,_,_,h,_,_,_,_,_,_,_=>by cases h
 |_,.int _,.str _,_,_,_,_,_,h,_,_,_,_,_,_,_=>by cases h
 |_,.int _,.tup _,_,_,_,_,_,h,_,_,_,_,_,_,_=>by cases h
 |_,.int _,.lst _,_,_,_,_,_,h,_,_,_,_,_,_,_=>by cases h
 |_,.int _,.bA _,_,_,_,_,_,h,_,_,_,_,_,_,_=>by cases h
 |_,.int _,.ai _,_,_,_,_,_,h,_,_,_,_,_,_,_=>by cases h
 |_,.int _,.ty _,_,_,_,_,_,h,_,_,_,_,_,_,_=>by cases h
 |_,.int _,.bV _,_,_,_,_,_,h,_,_,_,_,_,_,_=>by cases h
 |_,.int _,.exc _ _,_,_,_,_,_,h,_,_,_,_,_,_,_=>by cases h
 |_,.int _,.cN _ _ _,_,_,_,_,_,h,_,_,_,_,_,_,_=>by cases h
 |_,.str _,.ax,_,_,_,_,_,h,_,_,_,_,_,_,_=>by cases h
 |_,.str _,.bl _,_,_,_,_,_,h,_,_,_,_,_,_,_=>by cases h
 |_,.str _,.int _,_,_,_,_,_,h,_,_,_,_,_,_,_=>by cases h
 |_,.str _,.tup _,_,_,_,_,_,h,_,_,_,_,_,_,_=>by cases h
 |_,.str _,.lst _,_,_,_,_,_,h,_,_,_,_,_,_,_=>by cases h
 |_,.str _,.bA _,_,_,_,_,_,h,_,_,_,_,_,_,_=>by cases h
 |_,.str _,.ai _,_,_,_,_,_,h,_,_,_,_,_,_,_=>by cases h
 |_,.str _,.ty _,_,_,_,_,_,h,_,_,_,_,_,_,_=>by cases h
 |_,.str _,.bV _,_,_,_,_,_,h,_,_,_,_,_,_,_=>by cases h
 |_,.str _,.exc _ _,_,_,_,_,_,h,_,_,_,_,_,_,_=>by cases h
 |_,.str _,.cN _ _ _,_,_,_,_,_,h,_,_,_,_,_,_,_=>by cases h
 |_,.tup _,.ax,_,_,_,_,_,h,_,_,_,_,_,_,_=>by cases h
 |_,.tup _,.bl _,_,_,_,_,_,h,_,_,_,_,_,_,_=>by cases h
 |_,.tup _,.int _,_,_,_,_,_,h,_,_,_,_,_,_,_=>by cases h
 |_,.tup _,.str _,_,_,_,_,_,h,_,_,_,_,_,_,_=>by cases h
 |_,.tup _,.lst _,_,_,_,_,_,h,_,_,_,_,_,_,_=>by cases h
 |_,.tup _,.bA _,_,_,_,_,_,h,_,_,_,_,_,_,_=>by cases h
 |_,.tup _,.ai _,_,_,_,_,_,h,_,_,_,_,_,_,_=>by cases h
 |_,.tup _,.ty _,_,_,_,_,_,h,_,_,_,_,_,_,_=>by cases h
 |_,.tup _,.bV _,_,_,_,_,_,h,_,_,_,_,_,_,_=>by cases h
 |_,.tup _,.exc _ _,_,_,_,_,_,h,_,_,_,_,_,_,_=>by cases h
 |_,.tup _,.cN _ _ _,_,_,_,_,_,h,_,_,_,_,_,_,_=>by cases h
theorem LL (I:Inv X π σ w.H s):∀(A:Ĉ) (xs ys:List D) (b:Bool) (vs us:List V) (ps qs:List Ç),jv xs ys=some b->cU xs=true->cU ys=true->A.units+5*c8 xs+5<acg->aq X.K w xs vs->aq X.K w ys us->Vals vs ps->Vals us qs->jj A s ps qs b
 |A,[],[],b,vs,us,ps,qs,h,_,_,_,W,U,Z,Y=>by
  cases h;cases W;cases U;cases Z;cases Y;exact .nn
 |A,[],y::ys,b,vs,us,ps,qs,h,_,_,_,W,U,Z,Y=>by
  cases h;cases W;cases Z;obtain⟨u,r,rfl,_,_⟩:=U;cases Y;exact .nc _ _
 |A,x::xs,[],b,vs,us,ps,qs,h,_,_,_,W,U,Z,Y=>by
  cases h;cases U;cases Y;obtain⟨u,r,rfl,_,_⟩:=W;cases Z;exact .cn _ _
 |A,x::xs,y::ys,b,vs,us,ps,qs,h,T,S,J,W,U,Z,Y=>by
  obtain⟨v,r,rfl,M,G⟩:=W;obtain⟨u,F,rfl,L,P⟩:=U;simp only[cU,È] at T S;simp only[c8] at J;have E:=ac3 (dep x) (c8 xs);have C:=abN (dep x) (c8 xs)
  cases Z with
  |cons Z O =>
   cases Y with
   |cons Y N =>
    have R:=Zp I A T.1 S.1 (by omega) M L Z Y;simp only[jv] at h;split at h
    ·rename_i Q
     rw[Q] at R;exact .eq R (LL I A xs ys b _ _ _ _ h T.2 S.2 (by omega) G P O N)
    ·rename_i Q
     rw[aba] at Q;rw[Q] at R;exact .lt R (Mz I A x y b _ _ _ _ h T.1 S.1 (by omega) M L Z Y)
end
def jY (x y:D) (s:ae):Res D:=if (lay x&&lay y&&decide (dep x<=30))=true then bq ((je x y).map D.bl) s else none
def sU (hr:bC k X.A):bp X (ě .Lt) (rO X.K Ξ jY):=by
 intro O s σ H x y v u Q I U T zzz;obtain⟨w,W,V,rfl,S,R,P,h⟩:=zzz;unfold jY at h;split at h
 ·rename_i Z
  simp only[È,Í] at Z;obtain⟨d,e,h⟩:=ff h
  cases Y:je W V with
  |none=>rw[Y] at e;cases e
  |some b =>
   rw[Y] at e;cases e;exact Mz I X.A W V b x y v u Y Z.1.1 Z.1.2 (by have:=hr.un;have:=Z.2;have:acg=9900:=rfl;omega) R P U T _ _ _ _ ⟨.bl b,w.H,I,rfl,aI S h _ rfl⟩
 ·exact h.elim
end
end DI
namespace DI
open PySem L2
def qe (kf:D->ae->Res D) (o:D->D->ae->Res D):D->D->List D->ae->Res D
 |b,_,[],s=>ok b s
 |b,k,d::Z,s=>ak (ne (kf d s)) λY s=>ak (ne (o Y k s)) λc s=>match c with
  | .bl true=>qe kf o d Y Z s
  | .bl false=>qe kf o b k Z s
  |_=>none
def MA (kf:D->ae->Res D) (o:D->D->ae->Res D) (dflt:Option D):List D->ae->Res D
 | [],s=>match dflt with
  |some d=>ok d s
  |none=>none
 |d::Z,s=>ak (ne (kf d s)) λk s=>qe kf o d k Z s
def rK (K:ĥ) (kf:D->ae->Res D):V->Hp->VK->Prop:=λx H Q=>∃w Z,w.H=H/\aL K w/\DV K w Z x/\Out K bI w (kf Z w.aD) λY d=>∀v,DV K Y d v->Q v Y.H
theorem CV:∀{ds:List D} {vs:List V} {w:Wd} {b k:D} {vb vk:V},aL K w->LstAt w l all->aq K w ds vs->DV K w b vb->DV K w k vk ->
  Out K Ξ w (qe kf o b k ds w.aD) (λw' d=>∀v,DV K w' d v->Q v w'.H)->xf K l all (rK K kf) (rO K bI o) vs vb vk w.H Q
 | [],vs,w,b,k,vb,vk,S,Y,X,W,U,h=>by
  have e:vs=[]:=X;subst e;exact⟨Y.sq,aI S h _ W⟩
 |d::ds,vs,w,b,k,vb,vk,S,Y,X,W,U,h=>by
  obtain⟨v,r,rfl,R,P⟩:=X;refine⟨Y.sq,w,d,rfl,S,R,(Out.ak h).ne.mono λJ I O G F E N=>⟨J,I,k,rfl,G,N,O _ _ U,(Out.ak F).ne.mono λA c M L T C B=>?_⟩⟩;have Z:=O.trans M
  cases c with
  |bl c =>
   have e:C=.bl c:=B;refine⟨c,e,?_⟩
   cases c with
   |true =>
    rw[Þ rfl];exact CV (Ξ:=Ξ) L (Z.lst _ _ Y) (Z.all P) (Z _ _ R) (M _ _ N) T
   |false =>
    rw[å Ö];exact CV (Ξ:=Ξ) L (Z.lst _ _ Y) (Z.all P) (Z _ _ W) (Z _ _ U) T
  |_=>exact T.elim
def VI (S:aL K w) (hl:DV K w (.lst ds) v) (hd:∀d,dflt=some d->∀w',DV K w' d dv)
 (h:Out K Ξ w (MA kf o dflt ds w.aD) (λw' d=>∀v,DV K w' d v->Q v w'.H)):∃l all,v=.ref l/\(all=[]->dflt≠none)/\EZ K l all (rK K kf) (rO K bI o) dv w.H Q:=by
 simp only[DV] at hl;obtain⟨l,all,rfl,X,Z⟩:=hl;refine⟨l,all,rfl,λe z=>?_,X.sq,?_⟩
 ·subst e z
  have V:ds.length=0:=Z.length
  cases ds with
  |nil=>exact h
  |cons _ _=>cases V
 ·cases ds with
  |nil =>
   have e:all=[]:=Z;subst e
   cases dflt with
   |none=>exact h.elim
   |some d=>exact aI S h _ (hd d rfl w)
  |cons d ds =>
   obtain⟨x,r,rfl,W,U⟩:=Z;exact⟨w,d,rfl,S,W,(Out.ak h).ne.mono λO k Y T R N P=>CV (Ξ:=Ξ) T (Y.lst _ _ X) (Y.all U) (Y _ _ W) P R⟩
def VJ {X:Cx}:EY X.fU (.builtin "len") (rK X.K λd s=>bN [d] s):=by
 intro Z s σ H x v Q I Y zzz;obtain⟨w,W,rfl,S,V,h⟩:=zzz;exact dZ (X:=X.fU) Z s σ w.H [x] [v] Q I (.cons Y .nil) ⟨w,[W],rfl,S,aq.one V,h⟩
def CY (kf:D->ae->Res D) (o:D->D->ae->Res D) (dflt:Option D) (d:D) (s:ae):Res D:=match d with
 | .lst Z=>MA kf o dflt Z s
 |_=>none
abbrev CZ:D->ae->Res D:=CY (λd s=>bN [d] s) mW none
def VL (S:aL K w) (hl:DV K w d v) (hd:∀d,dflt=some d->∀w',DV K w' d dv)
 (h:Out K Ξ w (CY kf o dflt d w.aD) (λw' d=>∀v,DV K w' d v->Q v w'.H)):∃l all,v=.ref l/\(all=[]->dflt≠none)/\EZ K l all (rK K kf) (rO K bI o) dv w.H Q:=by
 unfold CY at h;split at h
 ·exact VI S hl hd h
 ·exact h.elim
section
variable {X:Cx} {Ξ:Wd->aQ->Prop} {e:ľ} {p pos kp1 kp2 Ey ad7:Pos} {f:adq D}
def T9 (he:PE X e (tE X.K Ξ f)) (hc:X.calm=true) (hg:Gl X "max") (hm:X.mg "max"=none) (hgk:Gl X "len") (hmk:X.mg "len"=none)
  (hs:ß [e] X.env=(false,ţ e X.env)::ß [] X.env:=by rfl)
  (heb:ũ pos (ß [e] X.env)=(false,ţ e X.env)::ũ pos (ß [] X.env):=by rfl) (bU:(ũ pos (ß [e] X.env)).any (·.1)=false:=by rfl) :
  PE X (.Call (.Name "max" p) [e] [⟨some "key",.Name "len" Ey,kp1⟩] pos) (tE X.K Ξ (e1 CZ f)):=by
 intro O s σ H Q I zzz;obtain⟨w,env,rfl,S,N,h⟩:=zzz;refine abf (lj I hg hm Zn ?_);have M:=nO he (nW (X:=X)) hs;refine PyProof.Rows.callWith_kw (aJ (M pos O s σ w.H (λT R=>∃v,T=[v]/\∃(Z:Wd) (d:D),Z.H=R/\aL X.K Z/\DV X.K Z d v/\Out X.K Ξ Z (CZ d Z.aD) (λY d=>∀v,DV X.K Y d v->Q v Y.H)) I ⟨w,env,rfl,S,N,(Out.ak h).mono λZ d C W V v dv=>⟨v,rfl,Z,d,rfl,W,dv,V⟩⟩) λB L ⟨T,R,P,J,G⟩=>?_) heb bU
 show á _ _ (evalAll ((do let v <- ţ (.Name "len" Ey) X.env;abO pos;pure v)::(ac7 pos (abl [] X.env)).map (·.2))) _ _ L
 refine wpAny_evalAll_cons (À (lj P hgk hmk ee (À (μ (Ä (wpAny_evalAll_nil ?_))))));obtain⟨v,rfl,Z,d,rfl,W,dv,V⟩:=G;obtain⟨l,all,rfl,F,U⟩:=VL (dv:=.ax) W dv (λd e Y=>by cases e) V;obtain⟨u,rfl,E⟩:=vals1 J;cases E;exact R4 hc VJ (zL (X:=X.fU)) P (λz=>F z rfl) U
end
def uu:List D->ae->Res D:=aN 2 2 (ay (bE (aY (e2 jY (aa 1) (eB bN (af (aa 0) ah)))) (aM (e2 ar (aa 0) (aa 1))) bM) (aM (eC (.int 0))))
def oW:List D->ae->Res D:=aN 1 1 (aM (eB mY (af (cE 2 [] (sS (af (aa 0) (af (i9 (aa 0) (iT (eC (.int 1))) i8) ah))) (gT [gN 0,gN 1]) cy (e2 jY (aa 0) (aa 1))) ah)))
def A2:List D->ae->Res D:=aN 1 1 (aM (cH (eB fR (af (aa 0) (af (eC (.ty "int")) ah))) (cH (sQ (eB fR (af (aa 0) (af (eC (.ty "bool")) ah)))) (e2 vW (aa 0) (eC (.int 0))))))
def mv:List D->ae->Res D:=aN 2 2 (aM (cH (aw A2 (af (aa 0) ah)) (e2 jY (aa 0) (aa 1))))
def rq:List D->ae->Res D:=aN 1 1 (aM (aw mv (af (aa 0) (af (eC (.int (8))) ah))))
def mr:List D->ae->Res D:=aN 1 1 (aM (cH (eB fR (af (aa 0) (af (eC (.ty "tuple")) ah))) (cH (eB mY (af (cE 1 [] (cZ (aa 0)) (gN 0) cy (aw rq (af (aa 0) ah))) ah)) (aw oW (af (aa 0) ah)))))
def xq:List D->ae->Res D:=aN 2 2 (aM (cH (eB fR (af (aa 0) (af (eC (.ty "tuple")) ah))) (cH (tO ot ot (eC (.int 1)) (eB bN (af (aa 0) ah)) (aa 1)) (eB mY (af (cE 1 [] (cZ (aa 0)) (gN 0) cy (aw mr (af (aa 0) ah))) ah)))))
def rA:List D->ae->Res D:=aN 2 2 (aM (eB mY (af (cE 1 [0] (cZ (aa 1)) (gN 0) cy (e2 di (aa 0) (aa 1))) ah)))
end DI
namespace ST
open PySem PySem.W PyProof.Rows
structure Ord (α:Type) where
 lt:α->α->Bool
 tY:∀a,lt a a=false
 tr:∀a b c,lt a b=true->lt b c=true->lt a c=true
 xi:∀a b,lt a b=false->lt b a=false->a=b
section
variable {α:Type} (O:Ord α)
def Ord.le (a b:α):Prop:=O.lt b a=false
variable {O}
def Ord.le_refl (a:α):O.le a a:=O.tY a
def Ord.le_of_lt (h:O.lt a b=true):O.le a b:=by
 unfold Ord.le
 cases Z:O.lt b a with
 |false=>rfl
 |true=>have:=O.tr _ _ _ h Z;rw[O.tY] at this;cases this
def Ord.sC (h:O.le a b) (g:O.le b c):O.le a c:=by
 unfold Ord.le at *
 cases Z:O.lt c a with
 |false=>rfl
 |true =>
  cases Y:O.lt a b with
  |true=>have:=O.tr _ _ _ Z Y;rw[g] at this;cases this
  |false =>
   have e:=O.xi a b Y h;subst e;rw[g] at Z;cases Z
def Ord.MB (h:O.le a b) (g:O.le b a):a=b:=O.xi _ _ g h
end
def ok {β:Type} (c:Nat->Nat->Bool) (n:Nat):KasT β->(β->Prop)->Prop
 | .ret a,Q=>Q a
 | .ask i j k,Q=>i<n/\j<n/\ok c n (k (c i j)) Q
theorem kh {β:Type} {c:Nat->Nat->Bool} {n:Nat} {Q R:β->Prop}:∀{t:KasT β},ok c n t Q->(∀a,Q a->R a)->ok c n t R
 | .ret a,h,i=>i a h
 | .ask _ _ k,h,i=>⟨h.1,h.2.1,kh (t:=k _) h.2.2 i⟩
theorem rR {β γ:Type} {c:Nat->Nat->Bool} {n:Nat} {f:β->KasT γ} {Q:γ->Prop}:∀{t:KasT β},ok c n t (λa=>ok c n (f a) Q)->ok c n (t.bind f) Q
 | .ret _,h=>h
 | .ask _ _ k,h=>⟨h.1,h.2.1,rR (t:=k _) h.2.2⟩
theorem MC {β:Type} {c:Nat->Nat->Bool} {n:Nat} {cmp:Nat->Nat->(Bool->Å->Prop)->Å->Prop} (hc:∀i j C,i<n->j<n->C (c i j) s->cmp i j C s) {Q:β->Å->Prop}:∀{t:KasT β},ok c n t (λa=>Q a s)->t.kasWp cmp Q s
 | .ret _,h=>h
 | .ask _ _ k,h=>hc _ _ _ h.1 h.2.1 (MC hc (t:=k _) h.2.2)
section
variable {α:Type} {O:Ord α} {x:Nat->α} {n:Nat}
noncomputable def ky (x:Nat->α) (p:Array Nat) (i:Nat):α:=x (p.getD i 0)
def Pm (n:Nat) (p:Array Nat):Prop:=p.size=n/\p.toList.Perm (Ù n)
def Up (O:Ord α) (f:Nat->α) (k:Nat):Prop:=∀i j,i<j->j<k->O.le (f i) (f j)
def Dn (O:Ord α) (f:Nat->α) (k:Nat):Prop:=∀i j,i<j->j<k->O.le (f j) (f i)
def Up.more (h:Up O f k) (hk:1<=k) (h1:O.le (f (k-1)) (f k)):Up O f (k+1):=λi j Z X=>by
 by_cases e:j=k
 ·subst e
  by_cases Y:i=j-1
  ·subst Y;exact h1
  ·exact Ord.sC (h i (j-1) (by omega) (by omega)) h1
 ·exact h i j Z (by omega)
def Dn.more (h:Dn O f k) (hk:1<=k) (h1:O.le (f k) (f (k-1))):Dn O f (k+1):=λi j Z X=>by
 by_cases e:j=k
 ·subst e
  by_cases Y:i=j-1
  ·subst Y;exact h1
  ·exact Ord.sC h1 (h i (j-1) (by omega) (by omega))
 ·exact h i j Z (by omega)
def Pm.lt (h:Pm n p) (hi:i<n):p.getD i 0<n:=by
 have hs:i<p.size:=by rw[h.1];exact hi
 have:p[i]∈p.toList:=by simp
 have e:p.getD i 0=p[i]:=by simp[adj,hs]
 rw[e];exact ë.mp (h.2.mem_iff.mp this)
def Pm.rev (h:Pm n p) (i j:Nat):Pm n (kas_rev p i j):=⟨by rw[kas_rev_size];exact h.1,(Array.perm_iff_toList_perm.mp (mirror_perm p i j _)).trans h.2⟩
def Pm.bub (h:Pm n p) (i j:Nat):Pm n (bubble p i j):=⟨by rw[bubble_size];exact h.1,(Array.perm_iff_toList_perm.mp (bubble_perm p i j)).trans h.2⟩
def uM {p q:Array Nat} {i j:Nat} (h:p[i]?=q[j]?):p.getD i 0=q.getD j 0:=by
 rw[Array.getD_eq_getD_getElem?,Array.getD_eq_getD_getElem?,h]
def C0 {p:Array Nat} {i j:Nat} (hj:j<=p.size) (k:Nat):ky x (kas_rev p i j) k=if i<=k/\k<j then ky x p (i+j-1-k) else ky x p k:=by
 have e:=getElem?_mirror_all (i:=i) hj k;unfold ky kas_rev
 split<;>rename_i h
 ·rw[Þ h] at e;rw[uM e]
 ·rw[å h] at e;rw[uM e]
def LM {p:Array Nat} {k d:Nat} (hk:k<p.size) (hd:d<=k) (i:Nat):ky x (bubble p k d) i=if i=k-d then ky x p k else if k-d<i/\i<=k then ky x p (i-1) else ky x p i:=by
 have e:=getElem?_bubble hk d hd i;by_cases h:i=k-d
 ·rw[Þ h] at e |-;exact Ķ x (uM e)
 ·rw[å h] at e |-
  by_cases Z:k-d<i/\i<=k
  ·rw[Þ Z] at e |-;exact Ķ x (uM e)
  ·rw[å Z] at e |-;exact Ķ x (uM e)
def Ky (hj:j<=p.size) (he:∀k,i<=k->k<j->ky x p k=ky x p (j-1)):ky x (kas_rev p i j)=ky x p:=funext λk=>by
 rw[C0 hj];split
 ·rw[he _ (by omega) (by omega),he k (by omega) (by omega)]
 ·rfl
noncomputable abbrev asks (O:Ord α) (x:Nat->α) (i j:Nat):Bool:=O.lt (x i) (x j)
theorem C1 {p:Array Nat} (hp:Pm n p):∀(f m:Nat),1<=m->m+f<=n->Up O (ky x p) m->ok (asks O x) n (kas_asc p f m) λr=>m<=r/\r<=m+f/\Up O (ky x p) r/\(r<m+f->O.lt (ky x p r) (ky x p (r-1))=true)
 |0,m,Y,V,Z=>⟨adv _,adv _,Z,λz=>absurd z (ú _)⟩
 |f+1,m,Y,V,Z=>by
  refine⟨hp.lt (by omega),hp.lt (by omega),?_⟩
  show ok _ _ (if O.lt (ky x p m) (ky x p (m-1))=true then _ else _) _
  cases X:O.lt (ky x p m) (ky x p (m-1)) with
  |true =>
   rw[Þ rfl];exact⟨adv _,by omega,Z,λ_=>X⟩
  |false =>
   rw[å Ö];refine kh (C1 hp f (m+1) (by omega) (by omega) (Z.more Y X)) λr W=>⟨by omega,by omega,W.2.2.1,λz=>W.2.2.2 (by omega)⟩
structure DS (O:Ord α) (x:Nat->α) (n:Nat) (p:Array Nat) (m q:Nat):Prop where
 pm:Pm n p
 q1:q+1<=m
 mn:m<=n
 dn:Dn O (ky x p) m
 bl:∀k,m-(q+1)<=k->k<m->ky x p k=ky x p (m-1)
def DS.turn (D:DS O x n p m q):Pm n (kas_rev p (m-(q+1)) m)/\ky x (kas_rev p (m-(q+1)) m)=ky x p :=
 ⟨D.pm.rev _ _,Ky (by rw[D.pm.1];exact D.mn) D.bl⟩
theorem yD:∀(f:Nat) (p:Array Nat) (m q:Nat),m+f<=n->DS O x n p m q->ok (asks O x) n (kas_desc f p m q) λr=>m<=r.2.1/\DS O x n r.1 r.2.1 r.2.2
 |0,p,m,q,_,D=>⟨adv _,D⟩
 |f+1,p,m,q,P,D=>by
  have q1:=D.q1;refine⟨D.pm.lt (by omega),D.pm.lt (by omega),?_⟩
  show ok _ _ (if O.lt (ky x p m) (ky x p (m-1))=true then _ else _) _
  cases X:O.lt (ky x p m) (ky x p (m-1)) with
  |true =>
   rw[Þ rfl];have one:∀Y,Pm n Y->ky x Y=ky x p->DS O x n Y (m+1) 0:=λY V U=>⟨V,by omega,by omega,by rw[U];exact D.dn.more (by omega) (Ord.le_of_lt X),λk T S=>by rw[show k=m+1-1 by omega]⟩;by_cases W:q > 0
   ·rw[Þ W]
    exact kh (yD f _ (m+1) 0 (by omega) (one _ D.turn.1 D.turn.2)) λr Z=>⟨by omega,Z.2⟩
   ·rw[å W]
    exact kh (yD f _ (m+1) 0 (by omega) (one _ D.pm rfl)) λr Z=>⟨by omega,Z.2⟩
  |false =>
   rw[å Ö];refine⟨D.pm.lt (by omega),D.pm.lt (by omega),?_⟩
   show ok _ _ (if O.lt (ky x p (m-1)) (ky x p m)=true then _ else _) _
   cases R:O.lt (ky x p (m-1)) (ky x p m) with
   |true =>
    rw[Þ rfl];exact⟨adv _,D⟩
   |false =>
    rw[å Ö];have e:ky x p m=ky x p (m-1):=O.xi _ _ X R;refine kh (yD f p (m+1) (q+1) (by omega) ⟨D.pm,by omega,by omega,D.dn.more (by omega) (by rw[e];exact Ord.le_refl _),λk T S=>?_⟩) λr Z=>⟨by omega,Z.2⟩;show _=ky x p m;by_cases Q:k=m
    ·rw[Q]
    ·rw[D.bl k (by omega) (by omega),e]
def Kz {p:Array Nat} {m:Nat} (hp:Pm n p) (h1:1<=m) (hm:m<=n) (hd:Dn O (ky x p) m):ok (asks O x) n (kas_tail3 m n p) λr=>1<=r.1/\r.1<=n/\Pm n r.2/\Up O (ky x r.2) r.1:=by
 refine rR ?_;have Z:Up O (ky x (kas_rev p 0 m)) m:=λi j W Y=>by
  rw[C0 (by rw[hp.1];exact hm),C0 (by rw[hp.1];exact hm),Þ ⟨by omega,by omega⟩,Þ ⟨by omega,Y⟩];exact hd _ _ (by omega) (by omega)
 exact kh (C1 (hp.rev 0 m) (n-m) m h1 (by omega) Z) λr X=>⟨by show 1<=r;omega,by show r<=n;omega,hp.rev 0 m,X.2.2.1⟩
def HP {p:Array Nat} {m:Nat} (hp:Pm n p) (h1:1<=m) (hm:m+1<=n) (hd:Dn O (ky x p) (m+1)):ok (asks O x) n (kas_descPart m n p) λr=>1<=r.1/\r.1<=n/\Pm n r.2/\Up O (ky x r.2) r.1:=by
 refine rR (kh (yD (n-(m+1)) p (m+1) 0 (by omega) ⟨hp,by omega,hm,hd,λk Y X=>by rw[show k=m+1-1 by omega]⟩) λr Z=>?_);obtain⟨W,D⟩:=Z;split
 ·exact Kz D.turn.1 (by have:=D.q1;omega) D.mn (by rw[D.turn.2];exact D.dn)
 ·exact Kz D.pm (by have:=D.q1;omega) D.mn D.dn
def Ua {p:Array Nat} (hp:Pm n p) (hn:1<=n):ok (asks O x) n (kas_count n p) λr=>1<=r.1/\r.1<=n/\Pm n r.2/\Up O (ky x r.2) r.1:=by
 refine rR (kh (C1 hp (n-1) 1 (adv _) (by omega) λi j U X=>by omega) λm S=>?_);obtain⟨Z,Q,Y,R⟩:=S;split
 ·rename_i e
  rw[beq_iff_eq] at e;exact⟨Z,by omega,hp,Y⟩
 ·rename_i e
  have P:m≠n:=λz=>e (by rw[z];exact Ľ n);have hs:=R (by omega);split
  ·refine⟨hp.lt (by omega),hp.lt (by omega),?_⟩
   show ok _ _ (if O.lt (ky x p 0) (ky x p (m-1))=true then _ else _) _
   cases T:O.lt (ky x p 0) (ky x p (m-1)) with
   |true =>
    rw[Þ rfl];exact⟨Z,by omega,hp,Y⟩
   |false =>
    rw[å Ö];have W:∀k,0<=k->k<m->ky x p k=ky x p (m-1):=λk _ V=>by
     have a1:O.le (ky x p k) (ky x p (m-1)):=by
      by_cases e:k=m-1
      ·rw[e];exact Ord.le_refl _
      ·exact Y k (m-1) (by omega) (by omega)
     have a2:O.le (ky x p (m-1)) (ky x p k):=by
      by_cases e:k=0
      ·rw[e];exact T
      ·exact Ord.sC T (Y 0 k (by omega) V)
     exact Ord.MB a1 a2
    have V:=Ky (x:=x) (p:=p) (i:=0) (j:=m) (by rw[hp.1];omega) W;refine HP (hp.rev 0 m) Z (by omega) ?_;rw[V];refine Dn.more (λi j U X=>?_) Z (Ord.le_of_lt hs);rw[W i (by omega) (by omega),W j (by omega) X];exact Ord.le_refl _
  ·refine HP hp Z (by omega) (Dn.more (λi j U X=>by omega) Z (Ord.le_of_lt hs))
theorem Bz (hp:Pm n p) (hk:k<n) (hu:Up O (ky x p) k):∀(f l r:Nat),r-l<=f->l<=r->r<=k->(∀i,i<l->O.le (ky x p i) (ky x p k))->(∀i,r<=i->i<k->O.le (ky x p k) (ky x p i)) ->
  ok (asks O x) n (kas_place p k f l r) λm=>m<=k/\(∀i,i<m->O.le (ky x p i) (ky x p k))/\(∀i,m<=i->i<k->O.le (ky x p k) (ky x p i))
 |0,l,r,X,W,Y,a,b=>⟨by omega,a,λi hi=>b i (by omega)⟩
 |f+1,l,r,X,W,Y,a,b=>by
  unfold kas_place;by_cases h:l ≥ r
  ·rw[Þ h]
   exact⟨by omega,a,λi hi=>b i (by omega)⟩
  ·rw[å h]
   refine⟨hp.lt hk,hp.lt (by omega),?_⟩
   show ok _ _ (if O.lt (ky x p k) (ky x p ((l+r) / 2))=true then _ else _) _
   cases Z:O.lt (ky x p k) (ky x p ((l+r) / 2)) with
   |true =>
    rw[Þ rfl];refine Bz hp hk hu f l ((l+r) / 2) (by omega) (by omega) (by omega) a λi hi V=>?_;by_cases e:i=(l+r) / 2
    ·rw[e];exact Ord.le_of_lt Z
    ·exact Ord.sC (Ord.le_of_lt Z) (hu _ _ (by omega) V)
   |false =>
    rw[å Ö];refine Bz hp hk hu f ((l+r) / 2+1) r (by omega) (by omega) Y (λi hi=>?_) b;by_cases e:i=(l+r) / 2
    ·rw[e];exact Z
    ·exact Ord.sC (hu _ _ (by omega) (by omega)) Z
theorem LN:∀(f:Nat) (p:Array Nat) (k:Nat),Pm n p->k+f=n->Up O (ky x p) k->ok (asks O x) n (kas_bin f p k) λq=>Pm n q/\Up O (ky x q) n
 |0,p,k,Y,X,Z=>⟨Y,by rw[<- X];exact Z⟩
 |f+1,p,k,Y,X,Z=>by
  refine rR (kh (Bz Y (by omega) Z k 0 k (by omega) (ü _) (adv _) (λi hi=>by omega) λi Q W=>by omega) λm P=>?_);obtain⟨Q,W,N⟩:=P;refine LN f _ (k+1) (Y.bub _ _) (by omega) λi j M K=>?_;have V:k<p.size:=by rw[Y.1];omega
  have L:k-(k-m)=m:=by omega
  rw[LM V (by omega),LM V (by omega),L];by_cases U:i=m
  ·rw[Þ U,å (by omega),Þ (by omega)]
   exact N _ (by omega) (by omega)
  ·rw[å U]
   by_cases T:m<i/\i<=k
   ·rw[Þ T,å (by omega),Þ (by omega)]
    exact Z _ _ (by omega) (by omega)
   ·rw[å T]
    by_cases S:j=m
    ·rw[Þ S];exact W _ (by omega)
    ·rw[å S]
     by_cases R:m<j/\j<=k
     ·rw[Þ R]
      by_cases e:i=j-1
      ·rw[e];exact Ord.le_refl _
      ·exact Z _ _ (by omega) (by omega)
     ·rw[å R];exact Z _ _ M (by omega)
def VM (hn:1<=n):ok (asks O x) n (kas_sort n) λq=>Pm n q/\Up O (ky x q) n:=by
 refine rR (kh (Ua (p:=acF (Ù n)) ⟨by simp,by simp⟩ hn) λr X=>?_);obtain⟨W,V,Y,Z⟩:=X;split
 ·rw[Nat.max_eq_left W]
  exact LN _ _ _ Y (by omega) Z
 ·rw[show r.1=n by omega] at Z
  exact⟨Y,Z⟩
end
section
variable {α:Type} {O:Ord α} {x:Nat->α} {prog:ó} {w:Ĕ} {A:Ĉ} {E:Ç->Å->Prop} {s:Å}
def v7 (prog:ó) (w:Ĕ) (A:Ĉ) (O:Ord α) (x:Nat->α) (us:List Ç) (t:Å):Prop :=
 á (í prog w) A (keyKind' us.toArray) (fun Z Y=>Y=t/\∀i j (C:Bool->Å->Prop),i<us.length->j<us.length->C (O.lt (x i) (x j)) t->á (í prog w) A (keyLt' Z (us.getD i Value.none) (us.getD j Value.none)) C (λ_ _=>False) t) (λ_ _=>False) t
def l7 (us:List Ç) (h:us.length<2):(us.toArray.zip us.toArray).map (·.2)=((acF (Ù us.length)).toList.map λi=>us.getD i Value.none).toArray:=by
 rcases us with _ | ⟨u,_ | ⟨v,r⟩⟩
 ·exact Array.toList_inj.mp (by simp)
 ·exact Array.toList_inj.mp (by simp)
 ·(simp at h;omega)
def HC (hb:s.heap.get? b=some (abh "list" us.toArray m)) (hz:us.length<64)
 (hk:2<=us.length->∀h1,(∀c o,c≠b->s.heap.get? c=some o->h1.get? c=some o)->v7 prog w A O x us { s with heap:=h1 })
 (hR:∀(q:Array Nat) h' e,Pm us.length q->Up O (ky x q) us.length->(∀c o,c≠b->s.heap.get? c=some o->h'.get? c=some o)->h'.get? b=some (abh "list" (q.toList.map λi=>us.getD i Value.none).toArray e)->R (.done (.ret .none)) { s with heap:=h' }) :
  á (í prog w) A (Ť.«list.sort» ⟨[.ref b],[]⟩) R E s:=by
 have B:b<s.heap.objs.size:=Ó hb;have line:us.length<=Ø:=by rw[Ÿ];omega
 obtain⟨e1,M⟩:∃e1,(s.heap.update b (Ŀ λ_=>(#[]:Array Ç))).get? b=some (abh "list" #[] e1):=⟨_,get?_update_seq hb λ_=>#[]⟩;generalize U:((s.heap.update b (Ŀ λ_=>(#[]:Array Ç))).push (abh "tuple" us.toArray 0)).push (abh "list" #[] 0)=Z;have X:Z.get? b=some (abh "list" #[] e1):=by rw[<- U];exact Á _ (Á _ M)
 have old:∀c o,c≠b->s.heap.get? c=some o->Z.get? c=some o:=λc o W e=>by
  rw[<- U];exact Á _ (Á _ (by rw[abT _ _ _ _ W];exact e))
 have last:∀(q:Array Nat),Pm us.length q->Up O (ky x q) us.length->R (.done (.ret .none)) { s with heap:=Z.update b (Ŀ λ_=>(q.toList.map λi=>us.getD i Value.none).toArray) }:=λq h1 T =>
  hR q _ _ h1 T (λc o W e=>by rw[abT _ _ _ _ W];exact old c o W e) (get?_update_seq X λ_=>(q.toList.map λi=>us.getD i Value.none).toArray)
 rw[list_sort_plain];refine À (listItems_at hb rfl (À (listUpdate_at hb rfl ?_ (by rw[Û];exact line) (ü _))));refine À (seqEpoch_at M rfl (À (wpAny_newTuple (À (acb (Ġ ?_) (ü _))) (by show us.length<=_;exact line))))
 show á (í prog w) A _ R E { s with heap:=_ }
 rw[U];dsimp only;by_cases Y:us.toArray.size<2
 ·rw[Þ Y,Þ Y]
  refine À (Ä ?_);rw[StateT.run_pure];refine À (Ä ?_);dsimp only;have K:(us.toArray.zip us.toArray).map (·.2)=((acF (Ù us.length)).toList.map λi=>us.getD i Value.none).toArray:=by
   exact l7 us (by rw[<- Û];exact Y)
  refine À (seqEpoch_at X rfl (À (listUpdate_at X rfl ?_ (ü _) ?_)))
  ·simp only[ğ,Ã,î]
   show á _ _ _ _ _ { s with heap:=Z.update b (Ŀ λ_=>(us.toArray.zip us.toArray).map (·.2)) }
   rw[K];refine Ä (last _ ⟨by simp,by simp⟩ λi j y L=>?_);rw[Û] at Y;omega
  ·show ((us.toArray.zip us.toArray).map (·.2)).size<=Ø+1
   simp;omega
 ·rw[å Y,å Y]
  rw[Û] at Y;refine À (ķ (hk (by omega) Z old) (fun J t S=>?_) λ_ _ z=>z.elim);obtain⟨rfl,S⟩:=S
  have tree:(kas_sort us.length).kasWp (kas_ask prog w A J us) (λq t=>t={ s with heap:=Z }/\Pm us.length q/\Up O (ky x q) us.length) { s with heap:=Z } :=
   MC (c:=asks O x) (n:=us.length) (λi j C hi L I=>S i j C hi L I) (kh (VM (by omega)) λq P=>⟨rfl,P⟩)
  refine À (ķ (kat_run (Q:=λV t=>∃q:Array Nat,q.size=us.length/\arrOf V=q.map (kas_item (us.toArray.zip us.toArray))/\failedOf V=none/\t={ s with heap:=Z }/\Pm us.length q/\Up O (ky x q) us.length)
   rfl (by omega) hz (λq V t a1 a2 H G=>⟨q,a1,a2,H,G⟩) tree) ?_ λ_ _ z=>z)
  rintro ⟨⟨⟩,V⟩ t ⟨q,P,N,F,rfl,T,D⟩;dsimp only;rw[kat_snds rfl N];refine À (seqEpoch_at X rfl (À (listUpdate_at X rfl ?_ (ü _) ?_)))
  ·rw[F]
   simp only[ğ,Ã,î];exact Ä (last q T D)
  ·show ((q.toList.map λi=>us.getD i Value.none).toArray).size<=Ø+1
   rw[Û,Â,Ą,P];omega
def R5 (hl:s.heap.IsList l us.toArray) (hz:us.length<64)
 (hk:2<=us.length->∀h1,(∀c o,s.heap.get? c=some o->h1.get? c=some o)->v7 prog w A.in1.in1 O x us { s with heap:=h1 })
 (hQ:∀(q:Array Nat) h' b e,Pm us.length q->Up O (ky x q) us.length->(∀c o,s.heap.get? c=some o->h'.get? c=some o)->s.heap.objs.size<=b->h'.get? b=some (abh "list" (q.toList.map λi=>us.getD i Value.none).toArray e)->Q (.ref b) { s with heap:=h' }) :
  á (í prog w) A (call (.builtin "sorted") [.ref l]) Q E s:=by
 have line:us.length<=Ø:=by rw[Ÿ];omega
 refine abJ kind_sorted plain_sorted entry_sorted (args_sorted1 _) ?_;unfold Ť.«sorted»;refine À (m:=checkCount "sorted" 1 1 _) (Ä (À (collect_list hl (À (acb ?_ line)) line)));generalize X:((s.heap.push (abh "list" #[] 0)).update s.heap.objs.size (Ŀ (·++us.toArray)))=h1;have W:h1.objs.size=s.heap.objs.size+1:=by rw[<- X,Heap.size_update,size_push']
 have U:∀c o,s.heap.get? c=some o->h1.get? c=some o:=λc o e=>by
  have Z:c<s.heap.objs.size:=Ó e;rw[<- X,abT _ _ _ _ (à Z)];exact Á _ e
 show á _ _ _ _ _ { s with heap:=h1.push (abh "list" us.toArray 0) }
 have V:(h1.push (abh "list" us.toArray 0)).get? h1.objs.size=some (abh "list" us.toArray 0):=Ë _ rfl;have old:∀c o,s.heap.get? c=some o->c≠h1.objs.size/\(h1.push (abh "list" us.toArray 0)).get? c=some o:=λc o e=>by
  have Z:c<s.heap.objs.size:=Ó e;exact⟨à (by rw[W];exact é Z),Á _ (U c o e)⟩
 refine À (Ġ (Ď slot_list_sort ⟨_,V,rfl⟩ entry_list_sort (HC V hz (λz h' Y=>hk z h' λc o e=>Y c o (old c o e).1 (old c o e).2) λq h' e T S Y R=>⟨_,rfl,?_⟩) (args_list_sort _)));exact Ä ⟨_,rfl,hQ q h' _ e T S (λc o e=>Y c o (old c o e).1 (old c o e).2) (by show _<=h1.objs.size;rw[W];exact ł _) R⟩
end
open HT
def Ce:∀a:List Int,lexLt a a=false:=λa=>by
 induction a with
 |nil=>rfl
 |cons i r ih=>rw[jM,Þ rfl];exact ih
def XQ:∀a b c:List Int,lexLt a b=true->lexLt b c=true->lexLt a c=true:=λa=>by
 induction a with
 |nil =>
  intro b c h g
  cases b with
  |nil=>cases h
  |cons j s=>cases c with
   |nil=>cases g
   |cons k t=>rfl
 |cons i r ih =>
  intro b c h g
  cases b with
  |nil=>cases h
  |cons j s =>
   cases c with
   |nil=>cases g
   |cons k t =>
    rw[jM] at h g |-;by_cases e1:i=j
    ·subst e1
     rw[Þ rfl] at h;by_cases e2:i=k
     ·rw[Þ e2] at g |-;exact ih s t h g
     ·rw[å e2] at g |-;exact g
    ·rw[å e1] at h
     have h:=ċ h;by_cases e2:j=k
     ·subst e2
      rw[å e1];exact Õ h
     ·rw[å e2] at g
      have g:=ċ g;rw[å (by omega)];exact Õ (by omega)
def VN:∀a b:List Int,lexLt a b=false->lexLt b a=false->a=b:=λa=>by
 induction a with
 |nil =>
  intro b h g
  cases b with
  |nil=>rfl
  |cons j s=>cases h
 |cons i r ih =>
  intro b h g
  cases b with
  |nil=>cases g
  |cons j s =>
   rw[jM] at h g;by_cases e:i=j
   ·subst e
    rw[Þ rfl] at h g;rw[ih s h g]
   ·rw[å e] at h
    rw[å (ŕ e)] at g;have h:=of_decide_eq_false h;have g:=of_decide_eq_false g;omega
section
variable {prog:ó} {w:Ĕ} {A:Ĉ} {E:Ç->Å->Prop} {s:Å}
inductive E3 (h:œ):List Ç->List (List Int)->Prop where
 |nil:E3 h [] []
 |cons {a:ä} {its:Array Ç} {ns:List Int} {us:List Ç} {oP:List (List Int)}:IsTup h a its->aco its.toList ns->E3 h us oP->E3 h (.ref a::us) (ns::oP)
inductive xj:List (Option Ç)->List (List Int)->Prop where
 |nil:xj [] []
 |ax {fs:List (Option Ç)} {oP:List (List Int)}:xj fs oP->xj (none::fs) ([]::oP)
 |one {fs:List (Option Ç)} {oP:List (List Int)} {n:Int} {t:Tok} {r:List Int}:xj fs oP->xj (some (.int n t)::fs) ((n::r)::oP)
noncomputable def ins {α:Type} (O:Ord α) (a:α):List α->List α
 | []=>[a]
 |b::r=>if O.lt b a=true then b::ins O a r else a::b::r
def fB {α:Type} (O:Ord α):List α->List α
 | []=>[]
 |a::r=>ins O a (fB O r)
end
section
variable {α:Type} {O:Ord α}
def Jz (a:α) (l:List α):(ins O a l).Perm (a::l):=by
 induction l with
 |nil=>exact .refl _
 |cons b r ih =>
  unfold ins;split
  ·exact(List.Perm.cons b ih).trans (abI a b r)
  ·exact .refl _
def rn (l:List α):(fB O l).Perm l:=by
 induction l with
 |nil=>exact .refl _
 |cons a r ih=>exact(Jz a _).trans (ih.cons a)
def XR (a:α) (l:List α) (h:l.Pairwise O.le):(ins O a l).Pairwise O.le:=by
 induction l with
 |nil=>exact χ _ _
 |cons b r ih =>
  obtain⟨X,W⟩:=Ă.mp h;unfold ins
  split<;>rename_i Z
  ·refine Ă.mpr ⟨λc Y=>?_,ih W⟩
   rcases É.mp ((Jz a r).mem_iff.mp Y) with e|e
   ·rw[e];exact Ord.le_of_lt Z
   ·exact X c e
  ·have Z:O.le a b:=by rw[aba] at Z;exact Z
   refine Ă.mpr ⟨λc Y=>?_,h⟩
   rcases É.mp Y with e|e
   ·rw[e];exact Z
   ·exact Ord.sC Z (X c e)
def JA (l:List α):(fB O l).Pairwise O.le:=by
 induction l with
 |nil=>exact .nil
 |cons a r ih=>exact XR a _ ih
def R6:∀{l m:List α},l.Perm m->l.Pairwise O.le->m.Pairwise O.le->l=m:=by
 intro l
 induction l with
 |nil=>intro m h _ _;exact h.nil_eq
 |cons a r ih =>
  intro m h Z Y
  cases m with
  |nil=>exact absurd h.length_eq (by simp)
  |cons b t =>
   obtain⟨a1,a2⟩:=Ă.mp Z;obtain⟨X,W⟩:=Ă.mp Y;have e:a=b:=by
    rcases É.mp (h.mem_iff.mp Ñ) with e|e
    ·exact e
    ·rcases É.mp (h.mem_iff.mpr Ñ) with e'|e'
     ·exact e'.symm
     ·exact Ord.MB (a1 b e') (X a e)
   subst e;rw[ih h.cons_inv a2 W]
def R7 (hp:Pm xs.length q) (hu:Up O (ky (λi=>xs.getD i d) q) xs.length):q.toList.map (λi=>xs.getD i d)=fB O xs:=by
 refine R6 ?_ ?_ (JA xs)
 ·refine(hp.2.map _).trans ?_
  have:(Ù xs.length).map (λi=>xs.getD i d)=xs:=by
   apply acs;intro i;by_cases hi:i<xs.length
   ·simp[hi]
   ·simp[hi,ψ hi]
  rw[this];exact(rn xs).symm
 ·rw[List.pairwise_iff_getElem]
  intro i j hi W Z;have V:(q.toList.map λi=>xs.getD i d).length=xs.length:=by rw[Â,Ą,hp.1]
  have Y:j<q.size:=by rw[hp.1];omega
  have X:i<q.size:=by omega
  have:=hu i j Z (by omega);unfold ky at this;simpa [adj,X,Y] using this
end
end ST
namespace DI
open PySem L2
section
variable {X:Cx} {Ξ:Wd->aQ->Prop} {a e tg:ľ} {p pos:Pos} {f:adq D} {fa:adq (List D)}
noncomputable def sD (n:Nat):List D:=(Ù n).map λi:Nat=>D.int ((n:Int)-1-i)
def R8 (n:Nat):(sD n).length=n:=by simp[sD]
def R9 (n i:Nat):(sD n)[i]?=if i<n then some (.int ((n:Int)-1-i)) else none:=by
 unfold sD;rw[è];split
 ·rename_i h;rw[ř h];rfl
 ·rename_i h;rw[ė (by simp;omega)];rfl
def XS:nv K w (EL n) (sD n):=λX V W i=>by
 refine⟨λd Z=>?_,λY=>by rw[R8] at Y;exact Y⟩;rw[R9] at Z;split at Z
 ·cases Z
  exact⟨by assumption,λx U ⟨e1,e2⟩=>⟨X,e1.symm,Le.refl _,W,rfl,e2⟩⟩
 ·cases Z
def Ga (fa:adq (List D)):adq (List D):=λenv s=>ak (fa env s) λZ s=>match Z with
 | [.int j]=>if (jT j&&decide (0<=j))=true then ok (sD j.toNat) s else none
 |_=>none
def Zq {p2 ib:Pos} (hg:Gl X "reversed") (hm:X.mg "reversed"=none) (kR:Gl X "range") (wY:X.mg "range"=none) (ha:PA X [a] (tA X.K Ξ fa))
  (he:ß [a] X.env=(false,ţ a X.env)::ß [] X.env:=by rfl) (bU:(ũ ib (ß [] X.env)).any (·.1)=false:=by rfl)
  (hs:ß [.Call (.Name "range" p2) [a] [] ib] X.env=[(false,ţ (.Call (.Name "range" p2) [a] [] ib) X.env)]:=by rfl)
  (qC:ß [.Call (.Name "range" p2) [a] [] ib] X.env=(false,ţ (.Call (.Name "range" p2) [a] [] ib) X.env)::ß [] X.env:=by rfl) :
  PI X tg (.Call (.Name "reversed" p) [.Call (.Name "range" p2) [a] [] ib] [] pos) (dD X.K Ξ (Ga fa)) :=
 pE (XA hg hm (nO (yf Qa kR wY (by decide +kernel) ha (by decide) (by decide) he bU) nW qC) hs) fun σ H R V=>by
  obtain⟨w,env,U,S,T,h⟩:=V;subst U;refine⟨w,env,rfl,S,T,(Out.ak h).mono λQ L J P Z I O=>?_⟩;split at Z
  ·rename_i j
   split at Z
   ·rename_i Y
    simp only[jT,È,Í] at Y;obtain⟨v,r,rfl,N,M⟩:=O;have e1:v=.int j:=N;have e2:r=[]:=M;subst e1 e2;refine⟨j,rfl,λq W=>?_⟩;refine⟨q,j.toNat,rfl,?_,by omega,?_⟩
    ·rw[cW,Int.toNat_of_nonneg Y.2]
    ·exact Z (Q.grow q (.cu 0 j)) (Fw.grow W).le (P.grow W) rfl _ XS
   ·exact Z.elim
  ·exact Z.elim
end
end DI
namespace L2
open PySem PySem.Spec PyProof.Rows
structure LO (sc:acf) (cl gM:List (Str×ä)) (C:Nat) (h:œ):Prop where
 old:∀n c,gM.lookup n=some c->(C<c/\(n,NameKind.cell)∈sc.names/\∃v,h.IsCell c v)\/cl.lookup n=some c
 own:∀n,sc.names.lookup n=some .cell\/(cl.lookup n).isSome=true->∃c,gM.lookup n=some c
 inj:(∀x y c,cl.lookup x=some c->cl.lookup y=some c->x=y)->(∀x c,cl.lookup x=some c->c<C)->∀x y c,gM.lookup x=some c->gM.lookup y=some c->x=y
theorem Bg:∀(names:List (Str×abg)) (n:Nat) (acc:List (Str×ä)),(abF n names acc).lookup x=some c->((x,NameKind.cell)∈names/\n<=c)\/acc.lookup x=some c
 | [],n,acc,h=>.inr h
 |(y,k)::r,n,acc,h=>by
  unfold abF at h;split at h
  ·rename_i Z
   have Z:k=.cell:=by simpa using Z
   subst Z
   rcases Bg r (n+1) _ h with ⟨h1,Y⟩|h1
   ·exact .inl ⟨Ò _ h1,by omega⟩
   ·rw[ļ] at h1
    split at h1
    ·rename_i e
     have e:x=y:=by simpa using e
     subst e;cases h1;exact .inl ⟨Ñ,adv _⟩
    ·exact .inr h1
  ·rcases Bg r n acc h with ⟨h1,Y⟩|h1
   ·exact .inl ⟨Ò _ h1,Y⟩
   ·exact .inr h1
theorem Bh:∀(names:List (Str×abg)) (n:Nat) (acc:List (Str×ä)),(∀x y c,acc.lookup x=some c->acc.lookup y=some c->x=y)->(∀x c,acc.lookup x=some c->c<n)->∀x y c,(abF n names acc).lookup x=some c->(abF n names acc).lookup y=some c->x=y
 | [],n,acc,hi,X=>hi
 |(z,k)::r,n,acc,hi,X=>by
  unfold abF;split
  ·refine Bh r (n+1) _ (λx y c Z Y=>?_) λx c Z=>?_
   ·rw[ļ] at Z Y
    split at Z
    ·rename_i e1
     split at Y
     ·rename_i e2
      exact(by simpa using e1:x=z).trans (by simpa using e2:y=z).symm
     ·cases Z
      exact absurd (X y _ Y) (ú _)
    ·split at Y
     ·cases Y
      exact absurd (X x _ Z) (ú _)
     ·exact hi x y c Z Y
   ·rw[ļ] at Z
    split at Z
    ·cases Z;exact ĉ _
    ·exact é (X x c Z)
  ·exact Bh r n acc hi X
theorem BA {lo:Nat}:∀(names:List (Str×abg)) (h:œ) (acc:List (Str×ä)),lo<=h.objs.size->(∀x c,acc.lookup x=some c->lo<=c->h.IsCell c none)->(abF h.objs.size names acc).lookup x=some c->lo<=c->(pushCells h names).IsCell c none
 | [],h,acc,_,Z,e,Y=>Z x c e Y
 |(z,k)::r,h,acc,V,Z,e,Y=>by
  unfold abF at e;unfold pushCells;split at e
  ·rename_i W
   rw[Þ W];have U:(h.push { cls:=.type "cell",data:=.cell none }).objs.size=h.objs.size+1:=û ..;refine BA (lo:=lo) r _ ((z,h.objs.size)::acc) (by omega) (λy d X T=>?_) (by rw[U];exact e) Y;rw[ļ] at X;split at X
   ·cases X
    exact⟨_,Ë _ rfl,rfl⟩
   ·exact(Z y d X T).keeps λb o q=>Á _ q
  ·rename_i W
   rw[å W];exact BA r h acc V Z e Y
def O6 {E:Ç->Å->Prop} {Q:Env->Å->Prop}
 (hQ:∀gM h3,((∀x c,cl.lookup x=some c->c<s.heap.objs.size)->LO scope cl gM s.heap.objs.size h3)->h3.Ns s.heap.objs.size (λ_=>none)->(∀b o,s.heap.get? b=some o->h3.get? b=some o)->Q (newEnv scope s.heap.objs.size globals gM qual none .none (some env) bi) { s with heap:=h3 }) :
  á M A (newFunctionEnv scope globals cl [] qual none .none (some env) bi) Q E s:=by
 simp only[newFunctionEnv,ab3,ï];refine À (wpAny_alloc ?_)
 refine À (wpAny_layCells _ (λname kind cells=>by cases Z:kind==NameKind.cell<;>simp[Z]) _ _ _ _ ?_)
 rw[show ({ s with heap:=s.heap.push { cls:=.type "dict",data:=.dict #[] } }:Å).heap.objs.size=s.heap.objs.size+1 from û ..]
 simp only[List.forIn_nil];refine À (Ä (Ä ?_));have Y:(s.heap.push { cls:=.type "dict",data:=.dict #[] }).objs.size=s.heap.objs.size+1:=û ..;refine hQ (abF (s.heap.objs.size+1) scope.names cl) _ (λX=>⟨λn c e=>?_,λn W=>?_,λhi V=>Bh _ _ _ hi λx c e=>é (V x c e)⟩) ((Heap.Ns.new s.heap (.type "dict")).keeps (pushCells_keeps _ _)) λb o e=>pushCells_keeps _ _ b o (Á _ e)
 ·rcases Bg _ _ _ e with ⟨h1,U⟩|h1
  ·exact .inl ⟨by omega,h1,none,BA (lo:=s.heap.objs.size+1) scope.names _ cl (by omega) (λx d q T=>absurd (X x d q) (Nat.not_lt.mpr (Nat.le_of_succ_le T))) (by rw[Y];exact e) U⟩
  ·exact .inr h1
 ·exact Option.isSome_iff_exists.mp (aci scope.names _ cl W)
abbrev fu (X:Cx) (N:List Str) (sc:acf) (cl:List (Str×ä)) (C:ä) (s:Å) (H:Hp) (ex:List ä) (pn:List (ä×Obj)):Cx:={ cL X N sc cl C s H ex pn with fn:=λx=>sc.names.lookup x==some .cell }
structure pF (X:Cx) (sc:acf) (N:List Str) (nt:Nat) (cap:List Nat):Prop where
 kind:sc.kind=.function
 names:∀x∈sc.names,x.2=.local->sc.names.lookup x.1=some .local
 cells:∀x∈sc.names,x.2=.cell->sc.names.lookup x.1=some .cell
 frees:∀x∈sc.names,x.2=.free->sc.names.lookup x.1=some .free/\(X.env.scope.names.lookup x.1=some .cell\/X.env.scope.names.lookup x.1=some .free)
 len:N.length=nt+cap.length
 EC:∀(k:Nat) j,cap[k]?=some j->∃x,X.N[j]?=some x/\N[nt+k]?=some x/\(x,NameKind.free)∈sc.names
section
variable {X:Cx} {sc:acf} {N:List Str} {nt:Nat} {cap:List Nat} {cl gM:List (Str×ä)} {s:Å} {h1:œ} {H:Hp} {σ:St} {π:List (ä×Obj)} {fp:List ä} {C:ä} {t':Nat}
def Inv.XT (I:Inv X π σ H s) (S:pF X sc N nt cap) (dq:∀n c,cl.lookup n=some c↔((n,NameKind.free)∈sc.names/\X.env.cells.lookup n=some c)) (jB:LO sc cl gM C h1) (hf:∀b∈fp,dh X π H b) (jC:∀b∈fp,b<s.heap.objs.size)
  (hk:∀b o,s.heap.get? b=some o->h1.get? b=some o) (hC:s.heap.objs.size<=C) (tH:∃m,h1.Ns C m):Inv (fu X N sc gM C s H fp (X.pn++π)) [] (lq nt cap σ) H { s with heap:=h1,toks:=t' }:=by
 have M:∀b∈fH X.stack,b∈X.env.locals::X.fs:=I.mF;have R:∀x c,cl.lookup x=some c->c<s.heap.objs.size:=λx c e=>by
  obtain⟨v,o,V,_⟩:=I.cell x c ((dq x c).mp e).2;exact Ó V
 have G:∀x,(relabel sc X.env).names.lookup x=some .cell\/(relabel sc X.env).names.lookup x=some .free->(x,NameKind.free)∈sc.names\/sc.names.lookup x=some .cell:=λx Z=>by
  rw[xB] at Z
  cases e:sc.names.lookup x with
  |none=>rw[e] at Z;rcases Z with z|z<;>cases z
  |some k =>
   have hm:(x,k)∈sc.names:=by
    obtain⟨l1,l2,e1,_⟩:=List.lookup_eq_some_iff.mp e;rw[e1];simp
   rw[e] at Z
   cases k with
   |free=>exact .inl hm
   |cell=>exact .inr rfl
   |_=>exfalso;revert Z;simp
 have F:∀x,(x,NameKind.free)∈sc.names->∃c,X.env.cells.lookup x=some c:=λx Z=>I.ok.has x (S.frees _ Z rfl).2;have L:∀x c,(x,NameKind.free)∈sc.names->X.env.cells.lookup x=some c->gM.lookup x=some c:=λx c Z Q=>by
  have e:=(dq x c).mpr ⟨Z,Q⟩;obtain⟨d,hd⟩:=jB.own x (.inr (by rw[e];rfl))
  rcases jB.old x d hd with ⟨_,q,_⟩|q
  ·have T:=S.cells _ q rfl
   have W:=(S.frees _ Z rfl).1;dsimp only at T W;rw[T] at W;cases W
  ·rw[e] at q
   cases q;exact hd
 have ok:Cx.Ok (fu X N sc gM C s H fp (X.pn++π)):=by
  refine⟨I.ok.mod,?_,I.ok.glob,I.ok.blt,hC,?_,?_,?_,I.ok.hd,I.ok.frames,.inl rfl,?_,I.bs,Ú I.ok.iA I.sz,?_,?_,I.stack,I.BU⟩
  ·exact S.kind
  ·exact jB.inj (λx y c Z E=>I.ok.inj x y c ((dq x c).mp Z).2 ((dq y c).mp E).2) λx c e=>Ì (R x c e) hC
  ·intro x Z
   rcases G x Z with hm|hm
   ·obtain⟨c,e⟩:=F x hm
    exact⟨c,L x c hm e⟩
   ·exact jB.own x (.inl hm)
  ·intro x c Z e
   rcases jB.old x c e with ⟨q,_,_⟩|q
   ·exact Ú hC (Nat.le_of_lt q)
   ·have W:=(S.frees _ ((dq x c).mp q).1 rfl).1
    have T:sc.names.lookup x=some .cell:=by simpa using Z
    dsimp only at W;rw[T] at W;cases W
  ·intro b Y
   refine⟨à (Ì (jC b Y) hC),λx c e=>?_⟩
   rcases jB.old x c e with ⟨q,_,_⟩|q
   ·exact ĸ (Ì (jC b Y) (Ú hC (Nat.le_of_lt q)))
   ·exact(hf b Y).2.2.2.2.1 x c ((dq x c).mp q).2
  ·intro b o e Y
   rcases(hf b Y).2.2.2.1 with z|z
   ·exact I.ok.lO b o e z
   ·exact absurd (Ì (Ó e) (Ú I.ok.iA z)) (ú _)
  ·intro b Y z
   rcases É.mp (M b z) with e|e
   ·exact(hf b Y).2.1 e
   ·exact(hf b Y).2.2.1 e
 obtain⟨m,hm⟩:=tH;obtain⟨mX,D,B⟩:=I.loc;refine⟨ok,rfl,I.bare,Un.kept hk,⟨m,hm,λi x v e1 e2 e3=>?_⟩,λx c e=>?_,I.aE.fresh hC,λx c e=>?_,λp A=>?_,I.aE.kept hk,?_⟩
 ·
  have hi:nt<=i:=by
   apply ψ;intro K;have:(lq nt cap σ)[i]?=some none:=by
    unfold lq;rw[ã (by simpa using K),ĭ,Þ K]
   rw[this] at e2;cases e2
  have U:(cap.map λj=>(σ[j]?).getD none)[i-nt]?=some (some v):=by
   have e:=e2;unfold lq at e;rw[ă (by simpa using hi)] at e;simpa using e
  rw[è] at U
  cases P:cap[i-nt]? with
  |none=>rw[P] at U;cases U
  |some j =>
   rw[P] at U;have ev:(σ[j]?).getD none=some v:=adw U;have w:σ[j]?=some (some v):=by
    cases q:σ[j]? with
    |none=>rw[q] at ev;cases ev
    |some z=>rw[q] at ev;exact Ķ some ev
   obtain⟨y,f1,f2,J⟩:=S.EC _ _ P;rw[Nat.add_sub_cancel' hi] at f2;have t:y=x:=adw (f2.symm.trans e1);subst t;obtain⟨g1,g2⟩:=S.frees _ J rfl;have h:qk X.env.scope y:=.inr g2;obtain⟨u,r,l⟩:=B j y v f1 w h;refine⟨u,r,.inr ⟨?_,?_⟩⟩
   ·show (relabel sc X.env).names.lookup y=some .cell\/(relabel sc X.env).names.lookup y=some .free
    rw[xB,g1];simp only[abn];split
    ·exact .inl rfl
    ·exact .inr rfl
   ·rcases l with ⟨k,_⟩ | ⟨_,c,Q,g⟩
    ·exfalso
     have f:X.env.scope.names.lookup y=some .local:=k;dsimp only at g2;rw[f] at g2
     rcases g2 with z|z<;>cases z
    ·obtain⟨O,V,hd⟩:=g
     exact⟨c,L y c J Q,O,hk _ _ V,hd⟩
 ·rcases jB.old x c e with ⟨_,_,q⟩|q
  ·exact q
  ·obtain⟨v,O,V,hd⟩:=I.cell x c ((dq x c).mp q).2
   exact⟨v,O,hk _ _ V,hd⟩
 ·rcases jB.old x c e with ⟨q,_,_⟩|q
  ·exact I.aE.fresh (by omega)
  ·exact I.iL x c ((dq x c).mp q).2
 ·have a:p∈X.pn++π:=by simpa using A
  obtain⟨e,n,ne,nf,d⟩:=I.pin p a;refine⟨hk _ _ e,n,à (Ì (Ó e) hC),λz=>?_,d⟩
  rcases É.mp (M p.1 z) with q|q
  ·exact ne q
  ·exact nf q
 ·unfold lq
  rw[Ð,abm,Â];exact S.len.symm
end
structure MD (P:ó) (w:Ĕ) (E el tg src:ľ) (tests:List ľ) (new:Sem Ç) (ap:String) (mk:ä->List V->HO) (kK:List V->Prop) where
 o0:Obj
 live:o0.isFreed=false
 Ac:ä->List V->œ->Prop
 clauses:clausesOf E=[⟨tg,src,tests,0⟩]
 turns:∀{A:Ĉ} {R:Result->Å->Prop} {s:Å} {gA av:Ç} {ce:Env} (J:Nat->Å->Prop)
  (turn:∀n s,J n s->á (í P w) A (ſ gA) (λr s1=>match r with
   |none=>R (.ok .next) s1
   |some v=>á (í P w) A (Ū tg gA v) (λ_ s2=>á (í P w) A (adp tg ce v) (λ_ s3 =>
     á (í P w) A (forIn tests true λc r=>if r=true then do let ok <- isTrue c ce (ţ c ce);pure (Ŭ ok) else pure (Ŭ r)) (λok s4 =>
      if ok=true then á (í P w) A (ţ el ce) (λy s5=>á (í P w) A (call (.builtin ap) [av,y]) (λ_ s6=>∃m,m<n/\J m s6) (λ_ _=>False) s5) (λ_ _=>False) s4
      else ∃m,m<n/\J m s4) (λ_ _=>False) s3) (λ_ _=>False) s2) (λ_ _=>False) s1) (λ_ _=>False) s)
  (n:Nat) (_:J n s),Ź (í P w) A (.compLoop E 0 gA av ce) R s
 new:∀{A:Ĉ} {X:Ç->Å->Prop} {s:Å} {Q:Ç->Å->Prop},Q (.ref s.heap.objs.size) { s with heap:=s.heap.push o0 }->á (í P w) A new Q X s
 start:∀{A:Ĉ} {R:Result->Å->Prop} {s:Å} {it acc:Ç} {env:Env},Ź (í P w) A (.compLoop E 0 it acc env) R s->á (í P w) A (pyIter it) (λjH s'=>Ź (í P w) A (.compLoop E 0 jH acc env) R s') (notedBy (í P w) A env λx s'=>R (.error x) s') s->Ź (í P w) A (.compStart E 0 it acc env) R s
 init:∀{D:ä} {h:œ},h.get? D=some o0->Ac D [] h
 obj:∀{D:ä} {acc:List V} {h:œ},Ac D acc h->∃o,h.get? D=some o/\∀v,o.data≠.cell v
 jU:∀{D:ä} {acc:List V} {h h':œ},Ac D acc h->(∀o,h.get? D=some o->h'.get? D=some o)->Ac D acc h'
 LP:∀{D:ä} {acc:List V} {h:œ} {H:Hp},kK acc->Ac D acc h->cR P w (upd H D (mk D acc)) h D (mk D acc)
 add:∀{A:Ĉ} {s:Å} {D:ä} {acc:List V} {v:V} {y:Ç} {Q:Ç->Å->Prop},Ac D acc s.heap->RelV v y->kK acc->kK (acc++[v])->(∀h' tk,ń D s.heap h'->Ac D (acc++[v]) h'->Q .none { s with heap:=h',toks:=tk })->á (í P w) A (call (.builtin ap) [.ref D,y]) Q (λ_ _=>False) s
section
variable {X:Cx}
def Q2 {E el tg src:ľ} {tests:List ľ} {sc:acf} {N:List Str} {nt:Nat} {cap:List Nat} {wi:TI} {g:TG} {tf:TT} {te:TE} {p1:Pos} {use:Option (Ç->Sem Unit)} {R:Ç->Å->Prop} {π:List (ä×Obj)} {s:Å} {σ:St} {H:Hp} {Q:VK} {new:Sem Ç} {ap:String} {mk:ä->List V->HO} {kK:List V->Prop} (B:MD X.prog X.w E el tg src tests new ap mk kK) (hc:X.calm=true) (S:pF X sc N nt cap) (gH:oH g nt) (hi:PI X tg src wi)
  (hY:∀(cl:List (Str×ä)) (C:ä) (s:Å) (H:Hp) (ex:List ä) (pn:List (ä×Obj)),PG (fu X N sc cl C s H ex pn) tg g/\PF (fu X N sc cl C s H ex pn) tests tf/\PE (fu X N sc cl C s H ex pn) el te)
  (hs:∀x,ý src X.env x=pure x) (I:Inv X π σ H s) (h:wi σ H λJ H1=>NM mk kK J nt (mM cap σ) g tf te H1 Q)
  (EN:∀(s':Å) (H1:Hp) (D C:ä) (m:Str->Option Ç),(∀h',ń C s'.heap h'->Inv X π σ H1 { s' with heap:=h' })->s'.heap.Ns C m->H1 C=none->C≠X.env.locals->C∉X.fs->X.cY.heap.objs.size<=C->(∀x c,X.env.cells.lookup x=some c->c≠C)->(∀p∈X.pn++π,p.1≠C)->Q (.ref D) H1->compPost (í X.prog X.w) X.A X.xe use R (.ref D) C (.ok .next) s') :
  á (í X.prog X.w) X.A (comprehension E sc X.env p1 new false (ţ src X.env) use) R X.xe s:=by
 obtain⟨cl,vB,dq⟩:=CK (env:=X.env) (sc:=sc) λn hn=>I.ok.has n (S.frees _ hn rfl).2;refine abY (use:=use) B.clauses hs vB S.kind S.names (aJ (hi π s σ H _ I h) λxv s1 h1=>aJ h1 λgA k h2=>?_);obtain⟨it,t,tn,J,H2,e,M,T,j3,f2,W,⟨m0,w0⟩,turn⟩:=h2;subst e;refine B.new (O6 λgM h3 j ic oM=>?_);dsimp only at j ic oM |-;generalize hD:k.heap.objs.size=D at j ic oM |-;generalize hG:k.heap.push B.o0=G at j ic oM |-;generalize FX:G.objs.size=C at j ic oM |-;have hC:C=D+1:=by rw[<- FX,<- hG,û,hD]
 have qH:D≠C:=by omega
 have d:k.heap.objs.size<=D:=abk hD;have l:k.heap.objs.size<=C:=by omega
 have old:∀b o,k.heap.get? b=some o->h3.get? b=some o:=λb o e=>oM b o (hG ▸ Á _ e);have sP:B.Ac D [] h3:=B.init (oM _ _ (hG ▸ hD ▸ Ë _ B.live));have jC:∀b∈t,b<k.heap.objs.size:=λb P=>by
  obtain⟨o,e,_⟩:=T.obj _ _ j3 b P;exact Ó e
 have j:=j λx c e=>by
  obtain⟨v,o,ho,_⟩:=M.cell x c ((dq x c).mp e).2;exact Ì (Ó ho) l
 have IB:=M.XT (t':=k.toks) S dq j f2 jC old l ⟨_,ic⟩;have FY:D∉fH X.stack:=λz=>by
  rcases É.mp (M.mF D z) with e|e
  ·exact absurd (Ì M.lt d) (by rw[e];exact ú _)
  ·exact M.vK d e
 have ny:D∉t:=λz=>absurd (Ì (jC D z) d) (ú _);have CU:∀x c,gM.lookup x=some c->c≠D:=λx c e z=>by
  rcases j.old x c e with ⟨q,_,_⟩|e
  ·rw[z] at q
   exact absurd q (by rw[hC];exact Nat.not_lt.mpr (ł D))
  ·obtain⟨v,o,ho,_⟩:=M.cell x c ((dq x c).mp e).2
   exact absurd (Ì (Ó ho) (by rw[z];exact d)) (ú _)
 have DL:∀p∈X.pn++π,p.1≠D:=λp L z=>absurd (Ì (Ó (M.pin p L).1) (by rw[z];exact d)) (ú _);generalize O:fu X N sc gM C k H2 t (X.pn++π)=Y at IB;have nA:∀{U:Hp} {pl:List (ä×Obj)},(∀b∈t,U b=none)->(∀p∈pl,p.1∉t)->∀b∈t,dh Y pl U b:=λ{U pl} hn L b P=>by
  subst O;obtain⟨_,f1,qF,f3,f4,f5⟩:=f2 b P;refine⟨hn b P,à (Ì (jC b P) l),λz=>?_,.inl P,λx c e=>(j.old x c e).elim (λq z=>ĸ (Ì (jC b P) (Ú l (Nat.le_of_lt q.1))) z) λe=>f4 x c ((dq x c).mp e).2,λp wZ=>?_⟩
  ·rcases É.mp (M.mF b z) with e|e
   ·exact f1 e
   ·exact qF e
  ·rcases ñ.mp wZ with z|z
   ·exact f5 p z
   ·exact λe=>L p z (e ▸ P)
 have FZ:PG Y tg g:=O ▸ (hY _ _ _ _ _ _).1;have F0:PF Y tests tf:=O ▸ (hY _ _ _ _ _ _).2.1;have hE1:PE Y el te:=O ▸ (hY _ _ _ _ _ _).2.2;have eP:Y.prog=X.prog:=O ▸ rfl;have eW:Y.w=X.w:=O ▸ rfl;have eA:Y.A=X.A:=O ▸ rfl;have eK:Y.K=X.K:=O ▸ rfl;have eE:Y.env=š sc gM C X.env:=O ▸ rfl;have eX:Y.xe=λ_ _=>False:=O ▸ rfl;have eC:Y.calm=true:=O ▸ hc;have eS:Y.cY.heap.objs.size<=D:=O ▸ d;have eF:D∉Y.fs:=O ▸ FY;have eL:D≠Y.env.locals:=O ▸ qH;have eCl:∀x c,Y.env.cells.lookup x=some c->c≠D:=O ▸ CU;have eN:∀p∈Y.pn,p.1≠D:=O ▸ DL;have fin:∀(s':Å) (a:St) (U:Hp) (Z:List V),Inv Y [] a U s'->B.Ac D Z s'.heap->U D=none->kK Z->(∀D,U D=none->Q (.ref D) (upd U D (mk D Z))) ->
   compPost (í X.prog X.w) X.A X.xe use R (.ref D) C (.ok .next) s':=by
  intro s' a U Z F pl hn hz q;subst O;obtain⟨m,hm,_⟩:=id F.loc;refine EN s' (upd U D (mk D Z)) D C m (λh' sb=>?_) hm ?_ (λz=>absurd (Ì M.lt l) (by rw[z];exact ú _)) (M.vK l) (Ú M.sz l) (λx c e z=>?_) (λp L z=>absurd (Ì (Ó (M.pin p L).1) (by rw[z];exact l)) (ú _)) (q D hn)
  ·have EV:bT X.prog X.w U h':=F.aE.but F.free sb
   have u:=(F.base.but l sb).adopt (o:=mk D Z) d hn
   refine M.Du (s':={ s' with heap:=h' }) (ch:=t) F.os u (EV.adopt hn (B.LP hz (B.jU pl λo e=>(sb.2 D qH).trans e))) F.bare (λb P=>?_)
   obtain⟨_,f1,_,f3,f4,f5⟩:=f2 b P;exact⟨f3,f1,f4,f5⟩
  ·rw[bu (ŕ qH)]
   exact F.free
  ·obtain⟨v,o,j4,_⟩:=M.cell x c e
   exact absurd (Ì (Ó j4) (by rw[z];exact l)) (ú _)
 have loop:Ź (í X.prog X.w) X.A (.compLoop E 0 (.ref it) (.ref D) (š sc gM C X.env)) (compPost (í X.prog X.w) X.A X.xe use R (.ref D) C)
   { k with heap:=h3 }:=by
  refine B.turns (λn s'=>∃i Z o U,Inv Y [] (o++mM cap σ) U s'/\o.length=nt/\tn i s'.heap/\(∀b∈t,U b=none)/\B.Ac D Z s'.heap/\U D=none/\W i n Z U) ?_ m0
   ⟨0,[],Ï nt none,H2,IB,by simp,T.keep _ _ _ j3 λb _ o e=>old b o e,λb P=>(f2 b P).1,sP,M.aE.fresh d,w0⟩
  intro n s3 zzz;obtain⟨i,Z,o3,H3,I3,N3,kH,oA,N4,nD3,w3⟩:=zzz;generalize hτ:o3++mM cap σ=a at I3;obtain⟨f,ho,Zr⟩:=B.obj N4;have w6:Inv Y [(D,f)] a H3 s3:=I3.mz λp L=>by
   have e:p=(D,f):=by simpa using L
   subst e;exact⟨ho,nD3,eL,eF,Zr⟩
  have qG:∀p∈[(D,f)],p.1∉t:=λp L=>by
   have e:p=(D,f):=by simpa using L
   subst e;exact ny
  have tR:∀{pl:List (ä×Obj)} {cO:St} {U:Hp} {s':Å},Inv Y ([(D,f)]++pl) cO U s'->B.Ac D Z s'.heap/\U D=none:=λ{pl cO U s'} F=>by
   have q:=F.pin (D,f) (Ê _ (þ _ (by simp)));exact⟨B.jU N4 λo e=>by rw[ho] at e;cases e;exact q.1,q.2.1⟩
  rcases turn i n Z H3 w3 with ⟨stop,hz,q⟩ | ⟨go,hz,N',hN,step⟩
  ·have hd:=T.done Y eP eW eK eC i [(D,f)] s3 a H3 (λ_ _=>False) w6 (nA oA qG) kH stop
   rw[eA] at hd;refine aJ hd λr s4 h4=>?_;obtain⟨hr,I4⟩:=h4;subst hr;obtain⟨FV,n4⟩:=tR (pl:=[]) (by simpa using I4);exact fin s4 a H3 Z (Inv.ke (π:=[]) I4) FV n4 hz q
  ·have hd:=T.item Y eP eW eK eC i [(D,f)] s3 a H3 (λ_ _=>False) w6 (nA oA qG) kH go
   rw[eA] at hd;refine aJ hd λr s4 h4=>?_;obtain⟨u,hr,h4⟩:=h4;subst hr;refine aJ h4 λ_ s5 h5=>?_;obtain⟨x,H5,I5,r5,y5,kI,wx⟩:=h5;have wy:=I5.pinned (nA wx qG) (T.obj _ _ kI);have q5:=FZ _ s5 a H5 x u _ wy r5 (hτ ▸ gH x o3 _ H5 _ N3 (step o3 x H5 N3 y5));rw[eP,eW,eA,eE,eX] at q5;refine aJ q5 λ_ s6 h6=>?_;obtain⟨tU,H6,I6,⟨o6,w9,zO⟩,q6⟩:=h6;have q7:=F0 _ s6 tU H6 _ I6 q6;rw[eP,eW,eA,eE,eX] at q7;refine aJ q7 λb s7 h7=>?_;obtain⟨H7,I7,q7⟩:=h7;have vZ:∀{cO:St} {U:Hp} {s':Å},Inv Y ([(D,f)]++nV t s5.heap) cO U s'->tn (i+1) s'.heap/\∀b∈t,U b=none:=λ{cO U s'} F=>by
    refine⟨T.keep _ _ _ kI λb P o e=>(F.pin (b,o) (Ê _ (Ê _ (rm P e)))).1,λb P=>?_⟩;obtain⟨o,e,_⟩:=T.obj _ _ kI b P;exact(F.pin (b,o) (Ê _ (Ê _ (rm P e)))).2.1
   cases b with
   |false =>
    rw[å Ö] at q7 |-;obtain⟨m',hm,w7⟩:=hN _ _ q7;obtain⟨Ap,n7⟩:=tR I7;obtain⟨t7,f7⟩:=vZ I7;exact⟨m',hm,i+1,Z,o6,H7,zO ▸ I7.mz (λp L=>by simp at L),w9,t7,f7,Ap,n7,w7⟩
   |true =>
    rw[Þ rfl] at q7 |-;have q8:=hE1 _ s7 tU H7 _ I7 q7;rw[eP,eW,eA,eE,eX] at q8;refine aJ q8 λy s8 h8=>?_;obtain⟨v,H8,I8,r8,q9⟩:=h8;obtain⟨m',hm,w8⟩:=hN _ _ q9;obtain⟨FQ,n8⟩:=tR I8;obtain⟨t8,f8⟩:=vZ I8;have kP:kK (Z++[v]):=by
     rcases turn (i+1) m' (Z++[v]) H8 w8 with q|q
     ·exact q.2.1
     ·exact q.2.1
    refine B.add FQ r8 hz kP λh9 tk9 Ao FR=>?_;have FT:Inv Y [] tU H8 s8:=I8.mz (λp L=>by simp at L)
    have I9:Inv Y [] tU H8 { s8 with heap:=h9,toks:=tk9 }:=FT.turned (it:=D) (λb o P e=>(Ao.2 b P).trans e) n8 eL (.inr eS) eCl (λp L=>eN p (by simpa using L))
    exact⟨m',hm,i+1,Z++[v],o6,H8,zO ▸ I9,w9,T.keep _ _ _ t8 λb P o e=>(Ao.2 b (λz=>ny (z ▸ P))).trans e,f8,FR,n8,w8⟩
 exact B.start loop (T.self _ _ _ _ _ (T.keep _ _ _ j3 λb _ o e=>old b o e) loop)
def aaV {P:ó} {w:Ĕ} {el tg src:ľ} {tests:List ľ} {sc:acf} {ps:Pos}:MD P w (.ListComp el [⟨tg,src,tests,0⟩] sc ps) el tg src tests (newList []) "list.append" (λ_ acc=>.lst acc) (λacc=>acc.length<=Ø) where
 o0:={ cls:=.type "list",dict:=none,data:=.seq ([]:List Ç).toArray }
 live:=rfl
 Ac:=λD acc h=>∃Z,h.PlainList D Z/\Vals acc Z.toList
 clauses:=rfl
 turns:=QH
 new:=λh=>ą h
 start:=codeAny_compStart_list
 init:=λe=>⟨#[],⟨_,e⟩,.nil⟩
 obj:=λ⟨_,⟨_,e⟩,_⟩=>⟨_,e,λ_ z=>by cases z⟩
 jU:=λ⟨Z,⟨n,e⟩,r⟩ k=>⟨Z,⟨n,k _ e⟩,r⟩
 LP:=λX ⟨Z,⟨n,e⟩,r⟩=>⟨X,Z.toList,n,r,by simpa using e⟩
 add:=λ{A s D acc v y Q} ⟨Z,W,r⟩ rv X _ q=>wpAny_list_append_plain (hsz:=by have e:=r.length;simp only[Ą] at e;omega) W λV Y U=>q V s.toks U ⟨Z.push y,Y,by rw[acv];exact Vals.append r (.cons rv .nil)⟩
def BB (hc:X.calm=true) (S:pF X sc N nt cap) (gH:oH g nt) (hi:PI X tg src wi)
 (hY:∀(cl:List (Str×ä)) (C:ä) (s:Å) (H:Hp) (ex:List ä) (pn:List (ä×Obj)),PG (fu X N sc cl C s H ex pn) tg g/\PF (fu X N sc cl C s H ex pn) tests tf/\PE (fu X N sc cl C s H ex pn) el te)
 (hs:∀x,ý src X.env x=pure x:=by intro _;rfl):PE X (.ListComp el [⟨tg,src,tests,0⟩] sc ps) (pP wi nt cap g tf te):=by
 intro T s σ H Q I h;rw[eval_ListComp];exact Q2 aaV (use:=none) hc S gH hi hY hs I h λR Z D C m Y W _ _ _ _ _ _ q=>⟨m,W,λV U=>⟨.ref D,Z,Y V U,rfl,q⟩⟩
end
noncomputable def C2 (sc:acf) (on:List (Str×abg)) (oN N:List Str) (nt:Nat) (cap:List Nat):Bool :=
 decide (sc.kind=.function)&&sc.names.all (λx=>decide (x.2=.local->sc.names.lookup x.1=some .local))&&sc.names.all (λx=>decide (x.2=.cell->sc.names.lookup x.1=some .cell)) &&
 sc.names.all (λx=>decide (x.2=.free->sc.names.lookup x.1=some .free/\(on.lookup x.1=some .cell\/on.lookup x.1=some .free)))&&decide (N.length=nt+cap.length) &&
 (Ù cap.length).all (λk=>match cap[k]? with
  |some j=>match oN[j]? with
   |some x=>decide (N[nt+k]?=some x)&&decide ((x,NameKind.free)∈sc.names)
   |none=>false
  |none=>true)
def vD (h:C2 sc X.env.scope.names X.N N nt cap=true):pF X sc N nt cap:=by
 unfold C2 at h;simp only[È,õ,Í] at h;obtain⟨⟨⟨⟨⟨Z,Y⟩,W⟩,V⟩,U⟩,T⟩:=h;refine⟨Z,Y,W,λx S e=>V x S e,U,λk j e=>?_⟩;have R:k<cap.length:=(Æ.mp e).1;have:=T k (ë.mpr R);rw[e] at this;dsimp only at this
 cases ex:X.N[j]? with
 |none=>rw[ex] at this;cases this
 |some x =>
  rw[ex] at this;simp only[È,Í] at this;exact⟨x,rfl,this.1,this.2⟩
end L2
namespace DI
open PySem L2
section
variable {X:Cx} {Ξ:Wd->aQ->Prop} {e a b c tg el src:ľ} {es rest tests:List ľ} {pos:Pos} {f g h:adq D} {fa:adq (List D)} {ft gt:adq Bool}
def KC (hc:X.calm=true) (S:pF X sc N nt cap) (T:Tg X.K g0 gd nt) (hi:PI X tg src (dD X.K Ξ it))
 (hY:∀(cl:List (Str×ä)) (C:ä) (s:Å) (H:Hp) (ex:List ä) (pn:List (ä×Obj)),PG (fu X N sc cl C s H ex pn) tg g0/\PF (fu X N sc cl C s H ex pn) tests (tT X.K bI ft)/\PE (fu X N sc cl C s H ex pn) el (tE X.K bI f))
 (hs:∀x,ý src X.env x=pure x:=by intro _;rfl):PE X (.ListComp el [⟨tg,src,tests,0⟩] sc ps) (tE X.K Ξ (cE nt cap it gd ft f)) :=
 cb (BB hc S T.jF hi hY hs) fun σ H Q h=>A6 T.imp (λR Z i h=>Jw R Z i h) (TX σ H Q h)
def Ub (hc:X.calm=true) (S:pF X sc N nt cap) (T:Tg X.K g0 gd nt) (hi:PI X tg src (dD X.K Ξ it))
 (hY:∀(cl:List (Str×ä)) (C:ä) (s:Å) (H:Hp) (ex:List ä) (pn:List (ä×Obj)),PG (fu X N sc cl C s H ex pn) tg g0/\PF (fu X N sc cl C s H ex pn) tests (tT X.K bI ft)/\PE (fu X N sc cl C s H ex pn) el (tE X.K bI f))
 (hs:∀x,ý src X.env x=pure x:=by intro _;rfl):PE X (.ListComp el [⟨tg,src,tests,0⟩] sc ps) (tE X.K Ξ (u5 nt cap it gd ft f)) :=
 cb (BB hc S T.jF hi hY hs) fun σ H Q h=>A6 T.imp (λR Z i h=>Jw R Z i h) (RZ σ H Q h)
end
end DI
namespace L2
open PySem PySem.Spec PyProof.Rows
end L2
namespace DI
open PySem L2
end DI
namespace L2
open PySem PySem.Spec PyProof.Rows
end L2
namespace DI
open PySem L2
open HT PyProof.Rows
section
variable {X:Cx} {Ξ:Wd->aQ->Prop}
def IQ (h:Vals xs us):∀{q:List Nat},(∀i∈q,i<us.length)->Vals (q.map λi=>xs.getD i .ax) (q.map λi=>us.getD i Value.none):=by
 intro q
 induction q with
 |nil=>intro _;exact .nil
 |cons i q ih =>
  intro Z;refine .cons ?_ (ih λj Y=>Z j (Ò _ Y));have hi:=Z i Ñ;clear ih Z
  induction h generalizing i with
  |nil=>simp at hi
  |cons a _ ih =>
   cases i with
   |zero=>exact a
   |succ i=>simpa using ih i (by simpa using hi)
def JB {K:ĥ} {w:Wd} {ds:List D} {xs:List V} (h:aq K w ds xs):∀{q:List Nat},(∀i∈q,i<ds.length)->aq K w (q.map λi=>ds.getD i .ax) (q.map λi=>xs.getD i .ax):=by
 intro q
 induction q with
 |nil=>intro _;exact rfl
 |cons i q ih =>
  intro Z;have hi:=Z i Ñ;obtain⟨v,e,Y⟩:=h.get' i _ (Ô hi);refine⟨_,_,rfl,?_,ih λj X=>Z j (Ò _ X)⟩;have e1:ds.getD i .ax=ds[i]:=by simp[hi]
  have e2:xs.getD i .ax=v:=by simp[e]
  show DV K w (ds.getD i .ax) (xs.getD i .ax);rw[e1,e2];exact Y
def JC {α:Type} {O:ST.Ord α} {ks:List α} {f:α->D} {d:α} {q:Array Nat} (hp:ST.Pm ks.length q) (hu:ST.Up O (ST.ky (λi=>ks.getD i d) q) ks.length):q.toList.map (λi=>(ks.map f).getD i .ax)=(ST.fB O ks).map f:=by
 rw[<- ST.R7 hp hu,ī];refine abQ λi hi=>?_;have:i<ks.length:=ë.mp (hp.2.mem_iff.mp hi);simp[this]
end
end DI
namespace TK
open PySem PySem.W PyProof.Rows DI
mutual
noncomputable def kd:D->Bool
 | .int _=>true
 | .str x=>acI x
 | .tup Z=>eJ Z
 |_=>false
noncomputable def eJ:List D->Bool
 | []=>true
 |k::Z=>kd k&&eJ Z
end
mutual
def KA (h:œ):D->Ç->Prop
 | .int i,v=>∃t,v=.int i t
 | .str x,v=>∃t,v=.str x t
 | .tup Z,v=>∃a o its n,v=.ref a/\h.get? a=some o/\o.cls=.type "tuple"/\o.data=.seq its n/\fx h Z its.toList
 |_,_=>False
def fx (h:œ):List D->List Ç->Prop
 | [],Z=>Z=[]
 |k::Y,Z=>∃v r,Z=v::r/\KA h k v/\fx h Y r
end
mutual
theorem pG:∀k:D,kd k=true->lay k=true
 | .int _,_=>rfl
 | .str _,h=>h
 | .tup Z,h=>by simp only[kd] at h;simp only[lay];exact JD Z h
 | .ax,h=>by cases h
 | .bl _,h=>by cases h
 | .lst _,h=>by cases h
 | .bA _,h=>by cases h
 | .ai _,h=>by cases h
 | .ty _,h=>by cases h
 | .bV _,h=>by cases h
 | .exc _ _,h=>by cases h
 | .cN _ _ _,h=>by cases h
theorem JD:∀ks:List D,eJ ks=true->cU ks=true
 | [],_=>rfl
 |k::ks,h=>by
  simp only[eJ,cU,È] at h |-;exact⟨pG k h.1,JD ks h.2⟩
end
mutual
theorem C3:∀x y:D,kd x=true->kd y=true->(beq x y=true↔x=y)
 | .int i,.int j,_,_=>by simp[beq]
 | .str i,.str j,_,_=>by simp[beq]
 | .tup Z,.tup Y,h,g=>by
  simp only[kd] at h g;simp only[beq,JE Z Y h g];exact⟨λe=>by rw[e],λe=>by injection e⟩
 | .int _,.str _,_,_=>by simp[beq]
 | .int _,.tup _,_,_=>by simp[beq]
 | .str _,.int _,_,_=>by simp[beq]
 | .str _,.tup _,_,_=>by simp[beq]
 | .tup _,.int _,_,_=>by simp[beq]
 | .tup _,.str _,_,_=>by simp[beq]
 | .ax,_,h,_=>by cases h
 | .bl _,_,h,_=>by cases h
 | .lst _,_,h,_=>by cases h
 | .bA _,_,h,_=>by cases h
 | .ai _,_,h,_=>by cases h
 | .ty _,_,h,_=>by cases h
 | .bV _,_,h,_=>by cases h
 | .exc _ _,_,h,_=>by cases h
 | .cN _ _ _,_,h,_=>by cases h
 |_,.ax,_,h=>by cases h
 |_,.bl _,_,h=>by cases h
 |_,.lst _,_,h=>by cases h
 |_,.bA _,_,h=>by cases h
 |_,.ai _,_,h=>by cases h
 |_,.ty _,_,h=>by cases h
 |_,.bV _,_,h=>by cases h
 |_,.exc _ _,_,h=>by cases h
 |_,.cN _ _ _,_,h=>by cases h
theorem JE:∀xs ys:List D,eJ xs=true->eJ ys=true->(eD xs ys=true↔xs=ys)
 | [],[],_,_=>by simp[eD]
 | [],_::_,_,_=>by simp[eD]
 |_::_,[],_,_=>by simp[eD]
 |x::xs,y::ys,h,g=>by
  simp only[eJ,È] at h g;simp only[eD,È,C3 x y h.1 g.1,JE xs ys h.2 g.2,ş]
end
mutual
theorem KA.reads:∀(k:D) (v:Ç),KA h k v->∃as,Reads h v (py k) as
 | .int i,v,q=>by obtain⟨t,rfl⟩:=q;exact⟨_,.int i t⟩
 | .str x,v,q=>by obtain⟨t,rfl⟩:=q;exact⟨_,.str x t⟩
 | .tup Z,v,q=>by
  simp only[KA] at q;obtain⟨a,o,its,n,rfl,Y,X,W,r⟩:=q;obtain⟨as,r⟩:=fx.reads Z _ r;exact⟨as,.tuple Y X W r⟩
 | .ax,_,q=>by cases q
 | .bl _,_,q=>by cases q
 | .lst _,_,q=>by cases q
 | .bA _,_,q=>by cases q
 | .ai _,_,q=>by cases q
 | .ty _,_,q=>by cases q
 | .bV _,_,q=>by cases q
 | .exc _ _,_,q=>by cases q
 | .cN _ _ _,_,q=>by cases q
theorem fx.reads:∀(ks:List D) (vs:List Ç),fx h ks vs->∃as,ReadsAll h vs (bW ks) as
 | [],vs,q=>by cases q;exact⟨_,.nil⟩
 |k::ks,vs,q=>by
  obtain⟨v,r,rfl,Z,Y⟩:=q;obtain⟨as,Z⟩:=KA.reads k v Z;obtain⟨bs,Y⟩:=fx.reads ks r Y;exact⟨_,.cons Z Y⟩
end
mutual
theorem KA.keep (hk:∀a o,h.get? a=some o->o.cls=.type "tuple"->(∃its n,o.data=.seq its n)->h'.get? a=some o):∀(x:D) (v:Ç),KA h x v->KA h' x v
 | .int i,v,p=>p
 | .str i,v,p=>p
 | .tup X,v,p=>by
  simp only[KA] at p |-;obtain⟨a,o,its,n,e,W,Z,Y,r⟩:=p;exact⟨a,o,its,n,e,hk a o W Z ⟨its,n,Y⟩,Z,Y,fx.keep hk X _ r⟩
 | .ax,_,q=>by cases q
 | .bl _,_,q=>by cases q
 | .lst _,_,q=>by cases q
 | .bA _,_,q=>by cases q
 | .ai _,_,q=>by cases q
 | .ty _,_,q=>by cases q
 | .bV _,_,q=>by cases q
 | .exc _ _,_,q=>by cases q
 | .cN _ _ _,_,q=>by cases q
theorem fx.keep (hk:∀a o,h.get? a=some o->o.cls=.type "tuple"->(∃its n,o.data=.seq its n)->h'.get? a=some o):∀(xs:List D) (vs:List Ç),fx h xs vs->fx h' xs vs
 | [],vs,p=>p
 |x::xs,vs,p=>by
  obtain⟨v,r,e,Z,Y⟩:=p;exact⟨v,r,e,KA.keep hk x v Z,fx.keep hk xs r Y⟩
end
mutual
noncomputable def hs (w:Ĕ):D->Int
 | .int i=>hashInt i
 | .str x=>hashStr w x
 | .tup Z=>reduceHash (Builtin.Tuple.tupleHashOf (N5 w Z))
 |_=>0
noncomputable def N5 (w:Ĕ):List D->List Int
 | []=>[]
 |k::Z=>hs w k::N5 w Z
end
section
variable {prog:ó} {w:Ĕ}
noncomputable instance ad8:DecidableEq (List D):=λa b=>Classical.propDecidable (a=b)
end
end TK
namespace TK
open PySem PySem.W PyProof.Rows DI L2
def AllK (w:Ĕ) (aj:List (D×Int)):Prop:=∀p∈aj,∃Z,p.1=.tup Z/\eJ Z=true/\c8 Z<=6/\p.2=hs w p.1
noncomputable def its:D->List D
 | .tup Z=>Z
 |_=>[]
section
variable {X:Cx} {π:List (ä×Obj)} {σ:L2.St} {s:Å} {w:Wd}
mutual
theorem Zs (I:Inv X π σ w.H s):∀(d:D) (v:V) (u:Ç),kd d=true->DI.DV X.K w d v->RelV v u->KA s.heap d u
 | .int i,v,u,_,h,r=>by cases h;exact r
 | .str x,v,u,_,h,r=>by cases h;exact r
 | .tup Z,v,u,k,h,r=>by
  simp only[DI.DV] at h;obtain⟨a,Y,rfl,W,U⟩:=h;cases r;obtain⟨its,T,⟨o,S,R,n,Q⟩,_⟩:=I.tuple W;simp only[kd] at k;simp only[KA];exact⟨a,o,_,n,rfl,S,R,Q,yR I Z Y _ k U (by simpa using T)⟩
 | .ax,_,_,k,_,_=>by cases k
 | .bl _,_,_,k,_,_=>by cases k
 | .lst _,_,_,k,_,_=>by cases k
 | .bA _,_,_,k,_,_=>by cases k
 | .ai _,_,_,k,_,_=>by cases k
 | .ty _,_,_,k,_,_=>by cases k
 | .bV _,_,_,k,_,_=>by cases k
 | .exc _ _,_,_,k,_,_=>by cases k
 | .cN _ _ _,_,_,k,_,_=>by cases k
theorem yR (I:Inv X π σ w.H s):∀(ds:List D) (vs:List V) (us:List Ç),eJ ds=true->DI.aq X.K w ds vs->Vals vs us->fx s.heap ds us
 | [],vs,us,_,h,r=>by cases h;cases r;rfl
 |d::ds,vs,us,k,h,r=>by
  obtain⟨v,Z,rfl,Y,W⟩:=h;simp only[eJ,È] at k
  cases r with
  |cons r U=>exact⟨_,_,rfl,Zs I d v _ k.1 Y r,yR I ds Z _ k.2 W U⟩
end
end
def E4 (w:Ĕ) (aj:List (D×Int)) (k:D):List (D×Int):=if (aj.any λp=>beq p.1 k)=true then aj else aj++[(k,hs w k)]
def keyOk (w:Ĕ) (p:D×Int):Bool:=match p.1 with
 | .tup Z=>eJ Z&&decide (c8 Z<=6)&&decide (p.2=hs w p.1)
 |_=>false
def uK (k:AllK w aj) (hk:eJ ks=true):(aj.any λp=>beq p.1 (.tup ks))=true↔D.tup ks∈aj.map (·.1):=by
 rw[ų,ò];constructor
 ·rintro ⟨p,Z,Y⟩
  obtain⟨ls,e,X,_⟩:=k p Z;refine⟨p,Z,?_⟩;exact(C3 p.1 (.tup ks) (by rw[e];simpa only [kd] using X) (by simpa only [kd] using hk)).mp Y
 ·rintro ⟨p,Z,e⟩
  exact⟨p,Z,by rw[e];exact(C3 _ _ (by simpa only [kd] using hk) (by simpa only [kd] using hk)).mpr rfl⟩
def zQ (w:Ĕ) (d k x:D) (s:ae):Option ae:=match d,k,x with
 | .ai j,.tup Z,.bl true=>match s[j]? with
  |some (.dT Y)=>if (eJ Z&&decide (c8 Z<=6)&&Y.all (keyOk w)&&decide (Y.length<Ø))=true then some (s.set j (.dT (E4 w Y (.tup Z)))) else none
  |_=>none
 |_,_,_=>none
end TK
namespace TK
open PySem PySem.W PyProof.Rows DI L2
open HT
section
variable {s:Å}
def Zt (kx:kd x=true) (ky:kd y=true) (hu:A.units+dep x<acg) (hx:KA s.heap x vx) (hy:KA s.heap y vy):SeqAt.EqAt A s vx vy (beq x y):=by
 obtain⟨as,Z⟩:=KA.reads _ _ hx;obtain⟨bs,Y⟩:=KA.reads _ _ hy;obtain⟨X,W⟩:=mH _ (pG _ kx);obtain⟨V,U⟩:=mH _ (pG _ ky);have:=SeqAt.eqAt_reads _ _ A s vx vy as bs Z Y X V (by rw[W];omega);rw[u7 _ _ (pG _ kx) (pG _ ky)] at this;exact this
mutual
theorem Zu:∀(A:Ĉ) (x y:D) (b:Bool) (vx vy:Ç),je x y=some b->kd x=true->kd y=true->A.units+5*dep x+5<acg->KA s.heap x vx->KA s.heap y vy->E2 A s vx vy b
 |A,.int i,y,b,vx,vy,h,_,_,_,Z,Y=>by
  cases y with
  |int j =>
   cases h;obtain⟨t,rfl⟩:=Z;obtain⟨X,rfl⟩:=Y;exact λprog w E Q q=>Jn A s i t j X prog w E Q q
  |_=>cases h
 |A,.str i,y,b,vx,vy,h,_,_,_,Z,Y=>by
  cases y with
  |str j =>
   cases h;obtain⟨t,rfl⟩:=Z;obtain⟨X,rfl⟩:=Y;exact λprog w E Q q=>(PyProof.Rows.lt_str q:á (í prog w) A (ě .Lt (.str i t) (.str j X)) Q E s)
  |_=>cases h
 |A,.tup U,y,b,vx,vy,h,W,ky,T,Z,Y=>by
  cases y with
  |tup S =>
   simp only[je] at h;simp only[KA] at Z Y;obtain⟨a,o,its,n,rfl,R,P,O,r⟩:=Z;obtain⟨G,N,V,M,rfl,L,K,J,I⟩:=Y;simp only[dep] at T;simp only[kd] at W ky;exact λprog w E Q q=>Kx ⟨o,R,P,n,O⟩ ⟨N,L,K,M,J⟩ (λH F=>C4 H U S b _ _ h W ky (by omega) r I) (by omega) q
  |_=>cases h
 |_,.ax,_,_,_,_,_,k,_,_,_,_=>by cases k
 |_,.bl _,_,_,_,_,_,k,_,_,_,_=>by cases k
 |_,.lst _,_,_,_,_,_,k,_,_,_,_=>by cases k
 |_,.bA _,_,_,_,_,_,k,_,_,_,_=>by cases k
 |_,.ai _,_,_,_,_,_,k,_,_,_,_=>by cases k
 |_,.ty _,_,_,_,_,_,k,_,_,_,_=>by cases k
 |_,.bV _,_,_,_,_,_,k,_,_,_,_=>by cases k
 |_,.exc _ _,_,_,_,_,_,k,_,_,_,_=>by cases k
 |_,.cN _ _ _,_,_,_,_,_,k,_,_,_,_=>by cases k
theorem C4:∀(A:Ĉ) (xs ys:List D) (b:Bool) (ps qs:List Ç),jv xs ys=some b->eJ xs=true->eJ ys=true->A.units+5*c8 xs+5<acg->fx s.heap xs ps->fx s.heap ys qs->jj A s ps qs b
 |A,[],ys,b,ps,qs,h,_,_,_,V,Z=>by
  cases V
  cases ys with
  |nil=>cases h;cases Z;exact .nn
  |cons y ys=>cases h;obtain⟨v,r,rfl,_⟩:=Z;exact .nc _ _
 |A,x::xs,ys,b,ps,qs,h,Y,ky,T,V,Z=>by
  obtain⟨v,r,rfl,U,S⟩:=V
  cases ys with
  |nil=>cases h;cases Z;exact .cn _ _
  |cons y ys =>
   obtain⟨u,R,rfl,g1,g2⟩:=Z;simp only[eJ,È] at Y ky;simp only[c8] at T;have Q:=ac3 (dep x) (c8 xs);have P:=abN (dep x) (c8 xs);have X:=Zt (A:=A) Y.1 ky.1 (by omega) U g1;simp only[jv] at h;split at h
   ·rename_i W
    rw[W] at X;exact .eq X (C4 A xs ys b _ _ h Y.2 ky.2 (by omega) S g2)
   ·rename_i W
    rw[aba] at W;rw[W] at X;exact .lt X (Zu A x y b _ _ h Y.1 ky.1 (by omega) U g1)
end
end
section
variable {prog:ó} {w:Ĕ} {A:Ĉ} {E:Ç->Å->Prop} {s:Å}
def Sa (h:jj A s xs ys b):∀(i:Nat),fin=decide (xs.length<ys.length)->Q b s->KatLex prog w A t fin Q (xs.zip ys) (i+1) s:=by
 induction h with
 |nn=>intro i Z q;rw[Z];exact q
 |nc y ys=>intro i Z q;rw[Z];exact q
 |cn x xs=>intro i Z q;rw[Z];exact q
 |eq Y _ ih =>
  intro i Z q;rw[ņ];exact kat_cons (Y prog w _ _ (kat_yes (ih (i+1) (by rw[Z];simp) q)))
 |lt Y X =>
  intro i Z q;rw[ņ];refine kat_cons (Y prog w _ _ (kat_no ?_));rw[show (t&&(i+1==0))=false by simp];exact kat_one _ _ (X prog w _ _ q)
def Sb (hs:x=y->jj A s xs ys b) (hf:fin=decide (xs.length<ys.length)) (q:Q (if x=y then b else decide (x.cps.toList<y.cps.toList)) s) :
  KatLex prog w A true fin Q ((.str x t::xs).zip (.str y u::ys)) 0 s:=by
 rw[ņ];refine kat_cons (wpAny_eqBool_str ?_);by_cases e:x=y
 ·rw[Þ e] at q
  rw[Õ e];exact kat_yes (Sa (hs e) 0 hf q)
 ·rw[å e] at q
  rw[æ e];exact kat_no (oneLt_str q)
end
inductive Pg where
 |made (m d:Int) (h l:List Int)
 |cC (m d k:Int)
noncomputable def ti (l:List Int):D:=.tup (l.map D.int)
def Pg.d:Pg->D
 | .made m d h l=>.tup [.str "made",.int m,.int d,.tup [ti h,ti l]]
 | .cC m d k=>.tup [.str "mended",.int m,.int d,.int k]
def LQ (h:ti a=ti b):a=b:=by
 injection h with h
 exact List.map_inj_right (λx y e=>by injection e) |>.mp h
def Pg.Zv {p q:Pg} (h:p.d=q.d):p=q:=by
 cases p<;>cases q<;>simp only[Pg.d,D.tup.injEq,ş,D.int.injEq,and_true,reduceCtorEq,and_false,false_and] at h
 ·obtain⟨_,Z,Y,X,W⟩:=h
  rw[Z,Y,LQ X,LQ W]
 ·obtain⟨_,Z,Y,X⟩:=h
  rw[Z,Y,X]
noncomputable def encL:List Int->List Int
 | []=>[0]
 |x::Z=>1::x::encL Z
def Pg.enc:Pg->List Int
 | .made m d h l=>0::m::d::(encL h++encL l)
 | .cC m d k=>[1,m,d,k]
theorem BC:∀{a b u v:List Int},encL a++u=encL b++v->a=b/\u=v
 | [],[],u,v,h=>by simpa [encL] using h
 | [],y::b,u,v,h=>by simp[encL] at h
 |x::a,[],u,v,h=>by simp[encL] at h
 |x::a,y::b,u,v,h=>by
  simp only[encL,ď,ş,acB] at h;obtain⟨Z,Y⟩:=BC h.2;exact⟨by rw[h.1,Z],Y⟩
def Pg.VO {p q:Pg} (h:p.enc=q.enc):p=q:=by
 cases p<;>cases q<;>simp only[Pg.enc,ş,and_true,acB,reduceCtorEq,false_and,Int.reduceEq] at h
 ·obtain⟨Y,X,W⟩:=h
  have Z:=BC (u:=encL _++[]) (v:=encL _++[]) (by simpa using W);have V:=BC Z.2;rw[Y,X,Z.1,V.1]
 ·rw[h.1,h.2.1,h.2.2]
def cP:ST.Ord Pg where
 lt p q:=lexLt p.enc q.enc
 tY p:=ST.Ce _
 tr _ _ _ h g:=ST.XQ _ _ _ h g
 xi _ _ h g:=Pg.VO (ST.VN _ _ h g)
theorem yh:∀a b:List Int,eD (a.map D.int) (b.map D.int)=decide (a=b)
 | [],[]=>rfl
 | [],_::_=>rfl
 |_::_,[]=>rfl
 |x::a,y::b=>by
  simp only[Î,eD,beq,yh a b]
  by_cases e:x=y<;>simp[e]
theorem IS:∀a b:List Int,jv (a.map D.int) (b.map D.int)=some (lexLt a b)
 | [],[]=>rfl
 | [],_::_=>rfl
 |_::_,[]=>rfl
 |x::a,y::b=>by
  simp only[Î,jv,beq,je,jM,IS a b]
  by_cases e:x=y<;>simp[e]
theorem Cf:∀a b u v:List Int,lexLt (encL a++u) (encL b++v)=if a=b then lexLt u v else lexLt a b
 | [],[],u,v=>by simp[encL,jM]
 | [],y::b,u,v=>by simp[encL,jM];rfl
 |x::a,[],u,v=>by simp[encL,jM];rfl
 |x::a,y::b,u,v=>by
  simp only[encL,ď,jM,ï,Cf a b u v,ş]
  by_cases e:x=y<;>simp[e]
def ME (p q:Pg):je p.d q.d=some (cP.lt p q):=by
 have T:¬ ((Ā "made")=Ā "mended"):=by decide +kernel
 have S:¬ ((Ā "mended")=Ā "made"):=by decide +kernel
 have R:decide ((Ā "made").cps.toList<(Ā "mended").cps.toList)=true:=by decide +kernel
 have Q:decide ((Ā "mended").cps.toList<(Ā "made").cps.toList)=false:=by decide +kernel
 show _=some (lexLt p.enc q.enc)
 cases p with
 |made m d h l =>
  cases q with
  |made Z Y V X =>
   simp only[Pg.d,Pg.enc,je,jv,beq,eD,ti,jM,yh,IS,Cf,Ľ,ï,Bool.and_true];have:=Cf l X [] [];simp only[Ē] at this;rw[this]
   by_cases e1:m=Z<;>by_cases e2:d=Y<;>by_cases W:h=V<;>by_cases P:l=X<;>simp[e1,e2,W,P,ST.Ce]
  |cC Z Y U=>simp only[Pg.d,Pg.enc,je,jv,beq,jM,beq_iff_eq,T,R,î];simp
 |cC m d k =>
  cases q with
  |made Z Y V X=>simp only[Pg.d,Pg.enc,je,jv,beq,jM,beq_iff_eq,S,Q,î];simp
  |cC Z Y U =>
   simp only[Pg.d,Pg.enc,je,jv,beq,jM,Ľ,ï]
   by_cases e1:m=Z<;>by_cases e2:d=Y<;>by_cases W:k=U<;>simp[e1,e2,W,ST.Ce]
def VP (l:List Int):eJ (l.map D.int)=true:=by
 induction l with
 |nil=>rfl
 |cons x l ih=>simpa only [Î,eJ,kd,ĕ] using ih
def Uc (l:List Int):c8 (l.map D.int)=0:=by
 induction l with
 |nil=>rfl
 |cons x l ih=>simp only[Î,c8,dep,ih];rfl
def zq (p:Pg):kd p.d=true:=by
 have Z:acI "made"=true:=by decide +kernel
 have Y:acI "mended"=true:=by decide +kernel
 cases p<;>simp only[Pg.d,kd,eJ,ti,VP,Z,Y,đ]
def yS (p:Pg):dep p.d<=3:=by
 cases p<;>simp only[Pg.d,dep,c8,ti,Uc]<;>decide
def Ud (p:Pg):∃(x:Str) (r:List D),p.d=.tup (.str x::r):=by
 cases p<;>exact⟨_,_,rfl⟩
def DO {h:œ} {p:Pg} {v:Ç} (q:KA h p.d v):∃(x:Str) (r:List D) (a:ä) (o:Obj) (its:Array Ç) (n:Nat) (t:Tok) (us:List Ç),p.d=.tup (.str x::r)/\v=.ref a/\h.get? a=some o/\o.cls=.type "tuple"/\o.data=.seq its n/\its.toList=.str x t::us/\fx h r us/\eJ r=true:=by
 obtain⟨x,r,e⟩:=Ud p;have k:=zq p;rw[e] at q k;simp only[KA] at q;obtain⟨a,o,its,n,e1,Z,Y,X,u,us,e2,⟨t,W⟩,V⟩:=q;simp only[kd,eJ,È] at k;exact⟨x,r,a,o,its,n,t,us,e,e1,Z,Y,X,by rw[e2,W],V,k.2⟩
section
variable {prog:ó} {w:Ĕ} {A:Ĉ} {E:Ç->Å->Prop} {s:Å}
def Sd:∀{ps:List Pg} {us:List Ç},fx s.heap (ps.map Pg.d) us->∃fs,KatTups s.heap us fs/\(∀v∈fs,∃x t,v=Value.str x t)/\fs.length=us.length:=by
 intro ps
 induction ps with
 |nil=>intro us h;cases h;exact⟨[],KatTups.nil,λv (hv:v∈[])=>(Ý hv).elim,rfl⟩
 |cons p ps ih =>
  intro us h;obtain⟨v,r,rfl,Z,Y⟩:=h;obtain⟨fs,X,W,V⟩:=ih Y;obtain⟨x,_,a,o,its,n,t,R,_,rfl,U,T,S,hi,_⟩:=DO Z;refine⟨.str x t::fs,.cons U T S (by rw[<- Ŏ,hi];rfl) X,λv hv=>?_,by simp[V]⟩
  rcases É.mp hv with rfl|hv
  ·exact⟨x,t,rfl⟩
  ·exact W v hv
def kas_get:∀{ds:List D} {us:List Ç},fx h ds us->∀i,i<us.length->KA h (ds.getD i .ax) (us.getD i Value.none):=by
 intro ds
 induction ds with
 |nil=>intro us h i hi;cases h;cases hi
 |cons d ds ih =>
  intro us h i hi;obtain⟨v,r,rfl,Z,Y⟩:=h
  cases i with
  |zero=>exact Z
  |succ i=>exact ih Y i (by simpa using hi)
def VQ:∀{ds:List D} {us:List Ç},fx h ds us->ds.length=us.length:=by
 intro ds
 induction ds with
 |nil=>intro us h;cases h;rfl
 |cons d ds ih=>intro us h;obtain⟨v,r,rfl,Y,Z⟩:=h;simp[ih Z]
def XU (hu:A.units+100<acg) (h1:KA s.heap p.d v) (h2:KA s.heap q.d u) (hC:C (cP.lt p q) s):á (í prog w) A (keyLt' (tuples' true) v u) C E s:=by
 obtain⟨x,r,a,o,its,n,t,N,e,rfl,V,M,U,hi,T,k⟩:=DO h1;obtain⟨Z,S,L,K,X,J,I,H,R,rfl,Q,G,P,W,Y,O⟩:=DO h2;have dl:=yS p;rw[e] at dl;simp only[dep,c8] at dl;have lt:=ME p q;rw[e,R] at lt;simp only[je,jv] at lt;have be:beq (.str x) (.str Z)=true↔x=Z:=by simp[beq]
 refine kat_lt V U Q P ?_;rw[hi,W];refine Sb (b:=cP.lt p q) (λex=>?_) ?_ ?_
 ·rw[Þ (be.mpr ex)] at lt
  exact C4 A r S _ _ _ lt k O (by have:=abN (0:Nat) (c8 r);omega) T Y
 ·simp[<- Ą,hi,W]
 ·by_cases ex:x=Z
  ·rw[Þ ex];exact hC
  ·rw[å λz=>ex (be.mp z)] at lt
   rw[å ex,adw lt];exact hC
def JF {us:List Ç} {ps:List Pg} (t:fx s.heap (ps.map Pg.d) us) (h2:2<=us.length) (hu:A.units+100<acg) (d:Pg):ST.v7 prog w A cP (λi=>ps.getD i d) us s:=by
 obtain⟨fs,Z,Y,S⟩:=Sd t;have X:=VQ t;rw[Â] at X;have at_:∀i,i<us.length->KA s.heap (ps.getD i d).d (us.getD i Value.none):=λi hi=>by
  have:=kas_get t i hi;rwa [show (ps.map Pg.d).getD i .ax=(ps.getD i d).d by simp[ε,è,Ô (show i<ps.length by omega)]] at this
 unfold ST.v7;refine kat_kind (T:=.type "str") Z (by omega) (λv W=>?_) (by decide) ⟨rfl,λi j C hi V U=>?_⟩
 ·obtain⟨x,R,rfl⟩:=Y v W
  exact .of_pure rfl
 ·exact XU hu (at_ i hi) (at_ j V) U
end
end TK
namespace TK
open PySem PySem.W PyProof.Rows DI L2
open Classical in
def pR (xs:List D):Option D:=if h:∃Z:List Pg,xs=Z.map Pg.d then some (.lst ((ST.fB cP (Classical.choose h)).map Pg.d)) else none
def Q3:∀{a b:List Pg},a.map Pg.d=b.map Pg.d->a=b:=λh=>List.map_inj_right (λ_ _ e=>Pg.Zv e) |>.mp h
def yr (ps:List Pg):pR (ps.map Pg.d)=some (.lst ((ST.fB cP ps).map Pg.d)):=by
 unfold pR;have h:∃Z:List Pg,ps.map Pg.d=Z.map Pg.d:=⟨ps,rfl⟩;rw[dif_pos h];have:=Q3 (Classical.choose_spec h);rw[<- this]
def ve (ds:List D) (s:ae):Res D:=match ds with
 | [d]=>match res d s with
  | .lst Z=>if Z.length<64 then bq (pR Z) s else none
  |_=>none
 |_=>none
section
variable {X:Cx} {Ξ:Wd->aQ->Prop}
def KD (ps:List Pg):eJ (ps.map Pg.d)=true:=by
 induction ps with
 |nil=>rfl
 |cons p ps ih=>simp only[Î,eJ,zq,ih,đ]
def VR (hr:bC k X.A):cT X (.builtin "sorted") (rC X.K Ξ ve):=by
 intro n s σ H N m Q I r zzz;obtain⟨w,l,rfl,S,Y,h⟩:=zzz;unfold ve at h;split at h
 ·obtain⟨v,rfl,G⟩:=lu Y
  split at h
  ·rename_i F e1
   obtain⟨a,N,rfl,E,Y⟩:=jh S G e1;split at h
   ·rename_i j
    obtain⟨g,e2,h⟩:=ff h;obtain⟨u,rfl,D⟩:=vals1 r;cases D;obtain⟨its,W,C,B⟩:=I.list (bh.of E);have R:its.length=F.length:=W.length.symm.trans Y.length.symm;have V:=e2;unfold pR at V;split at V
    ·rename_i Z
     obtain⟨U,z⟩:=Z;clear V;subst z;rw[yr] at e2;cases e2;have M:U.length=its.length:=by rw[R,Â]
     refine ST.R5 (O:=cP) (x:=λi=>U.getD i (.cC 0 0 0)) C.isList (by omega) (λy f P=>JF (fx.keep (λb o T _ _=>P b o T) _ _ (yR I _ _ _ (KD U) Y W)) y (by have:=hr.un;show X.A.units+1+1+100<acg;have:acg=9900:=rfl;omega) _) λq c b e Z L P T t=>?_;have J:∀i∈q.toList,i<(U.map Pg.d).length:=λi hi=>by rw[<- R];exact ë.mp (Z.2.mem_iff.mp hi)
     rw[<- M] at Z L;have p:=I.aE.fresh T;refine⟨.ref b,_,I.laid (o:=.lst (q.toList.map λi=>N.getD i .ax)) (t':=s.toks) P T ⟨?_,_,e,IQ W (by rw[R];exact J),t⟩,rfl,?_⟩
     ·rw[Â,Ą,Z.1,M,W.length.symm];exact B
     ·refine vV S ?_ h b p
      rw[<- JC Z L];exact JB Y J
    ·cases V
   ·exact h.elim
  ·exact h.elim
 ·exact h.elim
end
def DP (f:DI.adq D):DI.adq D:=λenv s=>ak (f env s) λx s=>ak (truth x s) λb s=>ok (.bl (!b)) s
def XW (ha:PE X a (tE X.K Ξ f)):PE X (.UnaryOp .Not a pos) (tE X.K Ξ (DP f)):=by
 intro Y s σ H Q I zzz;obtain⟨w,env,rfl,S,U,h⟩:=zzz;refine UnaryOp_ (aJ (ha Y s σ w.H (λv W=>∃b,pX X.K v W b/\Q (.bl (!b)) W) I ⟨w,env,rfl,S,U,(Out.ak h).mono λE x D V T v R=>?_⟩) λv P ⟨x,O,N,M,b,L,J⟩=>?_)
 ·obtain⟨b,t,G⟩:=pX.of V R (Out.ak T)
  exact⟨b,t,aI V G _ rfl⟩
 ·refine not_of (ķ (Lr Y P σ O x v (λc Z=>Q (.bl (!c)) Z) N M ⟨b,L,J⟩) (λc C ⟨Z,F,q⟩=>⟨.bl (!c),Z,F,rfl,q⟩) λ_ _ z=>z)
end TK
namespace ST
open PySem PySem.Spec PyProof.Rows
end ST
namespace DI
open PySem L2
noncomputable def keyOf:D->Option Key
 | .int i=>some (.inl i)
 | .str x=>some (.inr x)
 |_=>none
noncomputable def iz (aj:List (Key×D)) (k:Key):Option D:=match aj with
 | []=>none
 |p::r=>if p.1=k then some p.2 else iz r k
noncomputable def gv (aj:List (Key×D)) (k:Key) (v:D):List (Key×D) :=
 if (aj.any λp=>decide (p.1=k))=true then aj.map (λp=>if p.1=k then (p.1,v) else p) else aj++[(k,v)]
noncomputable def lY (d:D) (s:ae):Option (List (Key×D)):=match d with
 | .ai k=>match s[k]? with
  |some (.dK Z)=>some Z
  |_=>none
 |_=>none
def jf (K:ĥ) (w:Wd) (aj:List (Key×D)) (es:List (Key×V)):Prop:=es.map (·.1)=aj.map (·.1)/\aq K w (aj.map (·.2)) (es.map (·.2))
def BD (h:jf K w (p::aj) es):∃v r,es=(p.1,v)::r/\DV K w p.2 v/\jf K w aj r:=by
 obtain⟨Z,Y⟩:=h
 cases es with
 |nil=>cases Z
 |cons e r =>
  obtain⟨v,V,e1,X,W⟩:=Y;rw[Î] at e1
  injection e1 with a b
  rw[Î,Î] at Z
  injection Z with c d
  exact⟨v,r,by rw[<- c,<- a],X,d,b ▸ W⟩
def Cg:∀{es:List (Key×V)},jf K w aj es->(∀d,iz aj k=some d->∃v,jt es k=some v/\DV K w d v)/\(jt es k).isSome=(iz aj k).isSome:=by
 induction aj with
 |nil =>
  intro es h;have e:es=[]:=by have:=h.1;simpa using this
  subst e;exact⟨λd z=>(by cases z),rfl⟩
 |cons p r ih =>
  intro es h;obtain⟨v,t,rfl,Z,Y⟩:=BD h;unfold iz;by_cases e:p.1=k
  ·rw[Þ e,ym e]
   exact⟨λd z=>⟨v,rfl,by cases z;exact Z⟩,rfl⟩
  ·rw[å e,yn e]
   exact ih Y
def VS (h:jf K w aj es):(es.any λp=>decide (p.1=k))=aj.any λp=>decide (p.1=k):=by
 have e:∀{α:Type} (l:List (Key×α)),(l.any λp=>decide (p.1=k))=(l.map (·.1)).any λx=>decide (x=k):=λl=>by rw[ac9];rfl
 rw[e es,e aj,h.1]
def VT (du:DV K w v u):∀{es:List (Key×V)},jf K w aj es->jf K w (aj.map λp=>if p.1=k then (p.1,v) else p) (es.map λp=>if p.1=k then (p.1,u) else p):=by
 induction aj with
 |nil =>
  intro es h;have e:es=[]:=by have:=h.1;simpa using this
  subst e;exact⟨rfl,rfl⟩
 |cons p r ih =>
  intro es h;obtain⟨x,t,rfl,X,W⟩:=BD h;obtain⟨Z,Y⟩:=ih W;rw[Î,Î];by_cases e:p.1=k
  ·rw[Þ e,Þ e]
   exact⟨by rw[Î,Î,Z],⟨u,_,rfl,du,Y⟩⟩
  ·rw[å e,å e]
   exact⟨by rw[Î,Î,Z],⟨x,_,rfl,X,Y⟩⟩
def KG (du:DV K w v u) (h:jf K w aj es):jf K w (gv aj k v) (putK es k u):=by
 unfold gv putK;rw[VS h];split
 ·exact VT du h
 ·refine⟨by rw[ì,ì,h.1];rfl,?_⟩
  rw[ì,ì];exact aq.append h.2 ⟨u,[],rfl,du,rfl⟩
def LR (l:Le K w w') (h:jf K w aj es):jf K w' aj es:=⟨h.1,l.all h.2⟩
def lr (h:DV K w d v) (e:keyOf d=some k):v=kV k:=by
 cases d<;>first | (cases e;done) | (cases e;exact h)
def vf (S:aL K w) (h:DV K w d v) (e:lY d w.aD=some aj):∃k a es,d=.ai k/\v=.ref a/\w.ρ[k]?=some a/\w.aD[k]?=some (.dK aj)/\w.H a=some (.dK es)/\jf K w aj es:=by
 unfold lY at e;split at e
 ·rename_i k
  split at e
  ·rename_i Y Z
   cases e;obtain⟨a,e1,rfl⟩:=h;obtain⟨es,X,W,V⟩:=S.cell k a _ e1 Z;exact⟨k,a,es,rfl,rfl,e1,Z,X,W,V⟩
  ·cases e
 ·cases e
def pT (d i:D) (s:ae):Res D:=match lY d s,keyOf i with
 |some Z,some k=>bq (iz Z k) s
 |_,_=>none
def sE (i d:D) (s:ae):Res D:=match lY d s,keyOf i with
 |some Z,some k=>ok (.bl (iz Z k).isSome) s
 |_,_=>none
def my (i d:D) (s:ae):Res D:=match lY d s,keyOf i with
 |some Z,some k=>ok (.bl (!(iz Z k).isSome)) s
 |_,_=>none
def putD (d i x:D) (s:ae):Option ae:=match d with
 | .ai h=>match lY d s,keyOf i with
  |some Z,some k=>if Z.length<Ø then some (s.set h (.dK (gv Z k x))) else none
  |_,_=>none
 |_=>none
def vE:adq D:=λ_ s=>ok (.ai s.length) (s++[.dK []])
def v8 (f o i:adq D):adq Fl:=λenv s=>ak (f env s) λx s=>ak (o env s) λd s=>ak (i env s) λn s=>match putD d n x s with
 |some Z=>ok (.nx env) Z
 |none=>none
section
variable {X:Cx} {Ξ:Wd->aQ->Prop} {e o i:ľ} {pos lW:Pos} {f fo fi:adq D}
def vh (hr:bC k X.A):X.A.units+1<acg:=by have:=hr.un;have:acg=9900:=rfl;omega
def LS:PE X (.Dict [] [] pos) (tE X.K Ξ vE):=cb Tz fun σ H Q Y=>by
 obtain⟨w,env,W,S,V,h⟩:=Y;subst W;intro p Z;have le:=(Fw.cell (K:=X.K) (o:=.dK []) (c:=.dK []) S Z).le;refine h (w.cell p (.dK []) (.dK [])) le (S.sr Z ⟨[],cW,rfl,rfl⟩) rfl (.ref p) ⟨p,?_,rfl⟩;show (w.ρ++[p])[w.aD.length]?=some p;rw[<- S.len];simp
def MF (hr:bC k X.A) (ho:PE X o (tE X.K Ξ fo)) (hi:PE X i (tE X.K Ξ fi)) (hs:EF i:=by intro _ _;rfl):PE X (.Subscript o i pos) (tE X.K Ξ (e2 pT fo fi)) :=
 cb (Vs (vh hr) ho hi hs) fun σ H Q V=>by
  obtain⟨w,env,U,S,Y,h⟩:=V;subst U;refine⟨w,env,rfl,S,Y,(Out.ak h).mono λT d R P O v N=>⟨T,env,rfl,P,Y.le R,(Out.ak O).mono λD n M W Z u L=>?_⟩⟩;unfold pT at Z;split at Z
  ·rename_i C k e1 e2
   obtain⟨B,a,z,rfl,rfl,_,_,J,I⟩:=vf W (M _ _ N) e1;have G:=lr L e2;subst G;obtain⟨x,ex,F⟩:=ff Z;obtain⟨v,ev,E⟩:=(Cg I).1 x ex;exact⟨a,v,rfl,ev ▸ lR.k J,aI W F _ E⟩
  ·exact Z.elim
def Zw (hr:bC k X.A):bp X (ě .In) (rO X.K Ξ sE):=by
 intro O s σ H x y v u Q I Z Y zzz;obtain⟨w,N,M,rfl,S,W,V,h⟩:=zzz;unfold sE at h;split at h
 ·rename_i L k e1 e2
  obtain⟨J,a,G,rfl,rfl,_,_,U,T⟩:=vf S V e1;have R:=lr W e2;subst R;cases Y;exact aaH (vh hr) I (lR.k U) Z λF P=>⟨.bl _,w.H,P,rfl,by rw[(Cg T).2];exact aI S h _ rfl⟩
 ·exact h.elim
def BE (hr:bC k X.A):bp X (ě .NotIn) (rO X.K Ξ my):=by
 intro O s σ H x y v u Q I Z Y zzz;obtain⟨w,N,M,rfl,S,W,V,h⟩:=zzz;unfold my at h;split at h
 ·rename_i L k e1 e2
  obtain⟨J,a,G,rfl,rfl,_,_,U,T⟩:=vf S V e1;have R:=lr W e2;subst R;cases Y;exact Vr (vh hr) I (lR.k U) Z λF P=>⟨.bl _,w.H,P,rfl,by rw[(Cg T).2];exact aI S h _ rfl⟩
 ·exact h.elim
def MG (hr:bC k X.A) (he:PE X e (tE X.K Ξ f)) (ho:PE X o (tE X.K Ξ fo)) (hi:PE X i (tE X.K Ξ fi)) (hs:acW e (some (.Subscript o i lW)) pos.line X.env=pure false:=by rfl) :
  PS X (.Assign [.Subscript o i lW] e pos) (tS X.K Ξ (v8 f fo fi)) :=
 jP (Vt (vh hr) ho hi he hs) λb σ H I=>by
  obtain⟨w,env,G,S,Y,h⟩:=I;subst G;refine⟨w,env,rfl,S,Y,(Out.ak h).mono λF x T E D u C=>?_⟩;refine⟨F,env,rfl,E,Y.le T,(Out.ak D).mono λB d R y t v s=>?_⟩;refine⟨B,env,rfl,y,Y.le (T.trans R),(Out.ak t).mono λO n Q P W m r=>?_⟩
  cases Z:putD d n x O.aD with
  |none=>rw[Z] at W;exact W.elim
  |some s' =>
   rw[Z] at W;unfold putD at Z;split at Z
   ·rename_i q
    split at Z
    ·rename_i V k e1 e2
     split at Z
     ·rename_i hl
      cases Z;obtain⟨gE,a,U,p,rfl,N,M,l,L⟩:=vf P (Q _ _ s) e1;cases p;have j:=lr r e2;subst j;have J:(Cell.dK V)≠.dead:=by intro z;cases z
      have le:=(Fw.put (K:=X.K) (o:=.dK (putK U k u)) (c:=.dK (gv V k x)) P N M J).le;have hle:U.length<Ø:=by
       have:=Ķ List.length L.1;rw[Â,Â] at this;omega
      refine⟨a,_,rfl,vN.k l hle,?_⟩;have g:=P.zI (o:=.dK (putK U k u)) (c:=.dK (gv V k x)) N M J ⟨_,cW,KG (le _ _ ((R.trans Q) _ _ C)) (LR le L)⟩;exact W (O.put q a (.dK (putK U k u)) (.dK (gv V k x))) le g rfl σ (Y.le (T.trans (R.trans (Q.trans le))))
     ·cases Z
    ·cases Z
   ·cases Z
end
end DI
namespace L2
open PySem PySem.Spec PyProof.Rows
def qf (acc:List (Key×V)) (p:Key×V):List (Key×V):=match p.2 with
 | .int n=>putK acc (.inl n) (kV p.1)
 |_=>acc
def m8 (es:List (Key×V)):List (Key×V):=es.foldl qf []
def Ue (es:List (Key×V)):∀acc:List (Key×V),(es.foldl qf acc).length<=acc.length+es.length:=by
 induction es with
 |nil=>intro acc;exact adv _
 |cons p r ih =>
  intro acc;rw[ū,ê];have Z:=ih (qf acc p);have Y:(qf acc p).length<=acc.length+1:=by
   unfold qf;split
   ·exact AZ _ _ _
   ·exact ł _
  omega
def Q4 {vs:List (Key×Ç)} (nd:(vs.map (·.1)).Nodup) {i:Nat} {k:Key} {x:Ç} (h:vs[i]?=some (k,x)):valueAt vs k=some x:=by
 unfold valueAt
 induction vs generalizing i with
 |nil=>simp at h
 |cons p r ih =>
  rw[Î,Ħ] at nd
  cases i with
  |zero =>
   have e:p=(k,x):=by simpa using h
   subst e;simp
  |succ i =>
   have Z:r[i]?=some (k,x):=by simpa using h
   have Y:k∈r.map (·.1):=ò.mpr ⟨(k,x),Ĥ Z,rfl⟩;have X:¬ p.1=k:=λe=>nd.1 (e ▸ Y);rw[ζ,æ X];exact ih nd.2 Z
def MH (r:KV es vs):∀{i:Nat} {k:Key} {x:Ç},vs[i]?=some (k,x)->∃v,es[i]?=some (k,v)/\RelV v x:=by
 induction r with
 |nil=>intro i k x h;simp at h
 |cons a _ ih =>
  intro i k x h
  cases i with
  |zero =>
   cases h;rename_i p _ _ _;refine⟨p.2,?_,a.2⟩;have e:p.1=k:=a.1;rw[<- e];rfl
  |succ i=>exact ih (by simpa using h)
section
variable {X:Cx}
def Zx (i:Nat):TE:=fun σ H Q=>∃a Z,σ[i]?=some (some (.ref a))/\H a=some (.dK Z)/\(∀p∈Z,∃n,p.2=.int n)/\∀p,H p=none->Q (.ref p) (upd H p (.dK (m8 Z)))
def VU {dn x:Str} {i:Nat} {sc:acf} {ps p1 p2 p3 p4 p5 p6:Pos} {N:List Str} {cap:List Nat} (hc:X.calm=true) (hu:X.A.units+1<acg) (hN:X.N[i]?=some dn) (hv:qk X.env.scope dn) (S:nX X sc N 1 cap)
  (Gb:X.env.kindOf dn=some .cell) (hx:sc.names.lookup x=some .local) (hf:(dn,NameKind.free)∈sc.names)
  (Ge:∀cl C,(š sc cl C X.env).kindOf dn=some .cell) (fZ:∀cl C,(š sc cl C X.env).kindOf x=some .local)
  (hd:(dn==("__debug__":Str))=false) (gy:(dn==("__classdict__":Str))=false) (qO:(x==("__debug__":Str))=false)
  (hs:∀y,ý (.Name dn p6) X.env y=pure y) (qN:∀cl C,(š sc cl C X.env).scope.kind=.function) (bU:∀{cl C},((š sc cl C X.env).scope.kind==.class||((š sc cl C X.env).scope.kind==.module&&(š sc cl C X.env).locals != (š sc cl C X.env).globals))=false) :
  PE X (.DictComp (.Subscript (.Name dn p1) (.Name x p2) p3) (.Name x p4) [⟨.Name x p5,.Name dn p6,[],0⟩] sc ps) (Zx i):=by
 intro π s σ H Q I h;obtain⟨a,U,Aw,ha,hints,hq⟩:=h;obtain⟨cl,vB,dq⟩:=CK (env:=X.env) (sc:=sc) λn hn=>I.ok.has n (S.frees _ hn rfl).2;have hld:=Lm (pos:=p6) hN hv hd gy π s σ H (λv H1=>v=.ref a/\H1=H) I ⟨_,Aw,rfl,rfl⟩;rw[arm_eval_DictComp];refine abY (use:=none) rfl hs vB S.kind S.names (aJ hld λxv T h1=>?_);obtain⟨v,H1,L,rv,e1,e2⟩:=h1;subst e1 e2;cases rv;obtain⟨m,hn,f⟩:=id L.loc;obtain⟨u,r,l⟩:=f i dn (.ref a) hN Aw hv;cases r
 rcases l with ⟨P,_⟩ | ⟨_,c,z3,nZ⟩
 ·rw[Gb] at P;cases P
 have aaW:cl.lookup dn=some c:=(dq dn c).mpr ⟨hf,z3⟩;obtain⟨z,EK,J,rel,dd⟩:=Mm L.aE ha;obtain⟨E,dat⟩:=dd.dictAt;have d:a<T.heap.objs.size:=dat.lt_size;have nd:=dat.nodup;have MI:∀s:Å,Keeps s s:=λs=>⟨s.heap,s.toks,rfl,λ_ _ e=>e⟩;refine wpAny_pyIter_dict EK dat ?_;generalize K:T.heap.objs.size=It at d |-;generalize kR:T.heap.push { cls:=.type "dict_keyiterator",data:=.fields #[.ref a,.int 0 0,.int J.length 0,.int E 0] }=R;have z2:R.objs.size=It+1:=by rw[<- kR,û,K]
 have Nl:∀b o,T.heap.get? b=some o->R.get? b=some o:=λb o e=>by rw[<- kR];exact Á _ e
 have fL:R.IsKeyIter It a 0 J.length E:=⟨_,by rw[<- kR,<- K];exact Ë _ rfl,rfl,rfl⟩;have W:=Walks.dictKeys (knd:=dU X.prog X.w) (prog:=X.prog) (w:=X.w) (A:=X.A) (L.ok.hd hc) It a (à d) J E;refine ą (wpAny_newFunctionEnv S.yO (by intro y hy;simp at hy) (λM ic kE=>?_) S.kind);dsimp only at ic kE |-;have Gf:(R.push { cls:=.type "dict",dict:=none,data:=.dict #[] }).DictOf (dU X.prog X.w) R.objs.size []:=Heap.DictOf.new R;generalize hG:R.push { cls:=.type "dict",dict:=none,data:=.dict #[] }=G at ic kE Gf |-;have zG:G.objs.size=It+2:=by rw[<- hG,û,z2]
 rw[z2] at Gf |-;rw[zG] at ic kE |-;have N6:∀b o,T.heap.get? b=some o->b<It:=λb o e=>by rw[<- K];exact Ó e
 have N7:∀b o,b<It+2->G.get? b=some o->M.get? b=some o:=λb o Z e=>kE.extBut b o (à Z) (Á _ e);have aaX:∀b o,R.get? b=some o->G.get? b=some o:=λb o e=>by rw[<- hG];exact Á _ e
 have E5:∀b o,b<It+1->R.get? b=some o->M.get? b=some o:=λb o Z e=>N7 b o (é Z) (aaX b o e);have aaY:M.DictOf (dU X.prog X.w) (It+1) []:=Gf.at λo e=>N7 _ o (ĉ _) e;have kH:M.IsKeyIter It a 0 J.length E/\M.DictAt (dU X.prog X.w) a J E:=⟨fL.at λo e=>E5 _ o (ĉ _) e,(dat.keep Nl).at' λo e=>E5 _ o (é d) e⟩;have Nm:∀{b},It<b->b∉[It,a]:=λ{b} Z w=>by
  rcases É.mp w with e|e
  ·rw[e] at Z;exact absurd Z (ú _)
  ·rw[Ü.mp e] at Z;exact absurd Z (Nat.not_lt.mpr (Nat.le_of_lt d))
 have loop:Ź (í X.prog X.w) X.A (.compLoop (.DictComp (.Subscript (.Name dn p1) (.Name x p2) p3) (.Name x p4) [⟨.Name x p5,.Name dn p6,[],0⟩] sc ps) 0 (.ref It) (.ref (It+1)) (š sc cl (It+2) X.env)) (compPost (í X.prog X.w) X.A X.xe none (EP X π σ Q) (.ref (It+1)) (It+2)) { T with heap:=M,toks:=T.toks+([]:List (Str×Ç)).length }:=by
  have upTo:∀{s3:Å},(∀b o,b≠It+2->b∉[It]->b≠It+1->M.get? b=some o->s3.heap.get? b=some o)->∀b o,T.heap.get? b=some o->s3.heap.get? b=some o:=λ{s3} P b o e=>by
   have Z:=N6 b o e;exact P b o (à (é (é Z))) (λw=>by rw[Ü.mp w] at Z;exact absurd Z (ú _)) (à (é Z)) (E5 b o (é Z) (Nl b o e))
  refine codeAny_compLoop_walkD (knd:=dU X.prog X.w) (cenv:=š sc cl (It+2) X.env) W (λ_=>true) (λv k=>∃(Y:Key) (n:Int),(Y,V.int n)∈U/\(dU X.prog X.w).is Y v=true/\k=ŋ n) (λv y=>y=v)
   (fZ cl _) bU (à (ĉ _)) (Nm (ĉ _)) (Nm (é (ĉ _))) kH aaY ic (λj v s3 m3 D Ax Ay P=>wpAny_tests_nil ⟨rfl,MI _⟩) (λj v s3 m3 D _ Ax Ay P=>?_) (λj v s3 m3 D _ Ax Ay P=>ldVarK Ax Ay ⟨rfl,MI _⟩ (qN cl _) (fZ cl _) qO) (λh' tk m' O tZ zZ Zy B D hF Zz=>?_) (by rw[<- rel.length];exact z)
  ·obtain⟨Y,x0,N8,p⟩:=D
   obtain⟨v0,N9,r0⟩:=MH rel N8;obtain⟨n,en⟩:=hints _ (Ĥ N9);cases en;obtain⟨t,rfl⟩:=r0;have up:=upTo P;have Nn:=dat.keep up;refine Kg PySem.F.slot_dict_getitem.lookup (by intro _ _;rfl) (ldCellK aaW (nZ.keeps up) (ldVarK Ax Ay ⟨Nn.dictOf.typeIs,?_⟩ (qN cl _) (fZ cl _) qO) (qN cl _) (Ge cl _) hd);exact wpAny_getItem_of p Nn.dictOf.mapOf (Q4 nd N8) ⟨⟨.inl n,HJ _ _ n t,Y,n,Ĥ N9,p,rfl⟩,s3.heap,_,rfl,λ_ _ e=>e⟩
  ·refine⟨m',zZ,λh5 Oa=>?_⟩
   have up:∀b o,T.heap.get? b=some o->h5.get? b=some o:=λb o e=>Oa.extBut b o (à (é (é (N6 b o e)))) (upTo (s3:={ T with heap:=h' }) Zz b o e)
   have aaZ:KV (m8 U) O:=by
    have key:∀(l:List Ç) (O:List (Key×Ç)),StoredAll (λv k=>∃(Y:Key) (n:Int),(Y,V.int n)∈U/\(dU X.prog X.w).is Y v=true/\k=ŋ n) (λv y=>y=v) l O->(∀(j:Nat) v,l[j]?=some v->tZ[j]?=some v)->l.length<=U.length->KV (m8 (U.take l.length)) O:=by
     intro l O hS
     induction hS with
     |nil=>intro _ _;exact .nil
     | @snoc l O v k y hS hFK hFV ih =>
      intro f ZA;obtain⟨Y,n,EJ,p,rfl⟩:=hFK;subst hFV;rw[Ð,ā] at ZA |-;have hj:=f l.length y (by simp);obtain⟨k1,x1,i5,aa0⟩:=D l.length y hj;have ek:Y=k1:=(dU X.prog X.w).inj y Y k1 p aa0;subst ek;obtain⟨v1,g,r1⟩:=MH rel i5;have ev:v1=.int n:=by
       have nde:(U.map (·.1)).Nodup:=by rw[rel.keys];exact nd
       obtain⟨j2,Ob⟩:=List.getElem?_of_mem EJ;have:l.length=j2:=(List.getElem?_inj (by simpa using (Æ.mp g).1) nde).mp (by rw[è,è,g,Ob];rfl);rw[this,Ob] at g;cases g;rfl
      subst ev;have ry:RelV (kV Y) y:=by
       rcases kc p with ⟨i,t,rfl,rfl⟩ | ⟨q,t,rfl,rfl⟩
       ·exact⟨t,rfl⟩
       ·exact⟨t,rfl⟩
      have e:m8 (U.take (l.length+1))=putK (m8 (U.take l.length)) (.inl n) (kV Y):=by
       unfold m8;rw[List.take_succ,g,Option.toList,List.foldl_append];rfl
      rw[e];exact(ih (λj v h=>f j v (by rw[ã (Æ.mp h).1];exact h)) (by omega)).put _ ry
    have hft:tZ.filter (λ_=>true)=tZ:=by simp
    rw[hft] at hF;have e:=rel.length;have:=key tZ O hF (λ_ _ h=>h) (by omega);rw[B,<- e,List.take_length] at this;exact this
   refine⟨.ref (It+1),_,L.laid (a:=It+1) (o:=.dK (m8 U)) (t':=tk) up (by rw[K];exact ł _) ⟨?_,?_,O,aaZ,Zy.at λo e=>Oa.extBut _ o (à (ĉ _)) e⟩,rfl,hq _ (L.aE.fresh (by rw[K];exact ł _))⟩
   ·have:=Ue U []
    have e:=rel.length;show (U.foldl qf []).length<=Ø;rw[Ć] at this;omega
   ·have:=L.big
    exact beq_eq_false_iff_ne.mpr (by rw[K] at this;exact ĸ (é this))
 exact codeAny_compStart_dict loop (W.self 0 _ _ _ kH loop)
end
end L2
namespace DI
open PySem L2
noncomputable def xm:D->Bool
 | .int _=>true
 |_=>false
noncomputable def kD:Key->D
 | .inl i=>.int i
 | .inr x=>.str x
def ng (acc:List (Key×D)) (p:Key×D):List (Key×D):=match p.2 with
 | .int n=>gv acc (.inl n) (kD p.1)
 |_=>acc
def DQ (f:adq D):adq D:=λenv s=>ak (f env s) λd s=>match lY d s with
 |some Z=>if (Z.all λp=>xm p.2)=true then ok (.ai s.length) (s++[.dK (Z.foldl ng [])]) else none
 |none=>none
def ZC (k:Key):DV K w (kD k) (kV k):=by
 cases k with
 |inl i=>exact rfl
 |inr x=>exact rfl
def VV:∀{es:List (Key×V)} {acc:List (Key×D)} {bcc:List (Key×V)},(aj.all λp=>xm p.2)=true->jf K w aj es->jf K w acc bcc->jf K w (aj.foldl ng acc) (es.foldl qf bcc)/\∀p∈es,∃n,p.2=V.int n:=by
 induction aj with
 |nil =>
  intro es acc bcc _ h g;have e:es=[]:=by have:=h.1;simpa using this
  subst e;exact⟨g,λp Z=>absurd Z Ý⟩
 |cons p r ih =>
  intro es acc bcc Y h g;obtain⟨v,t,rfl,X,W⟩:=BD h;rw[List.all_cons,È] at Y;obtain⟨k,d⟩:=p
  cases d with
  |int n =>
   have ev:v=.int n:=X;subst ev;obtain⟨U,T⟩:=ih (acc:=gv acc (.inl n) (kD k)) (bcc:=putK bcc (.inl n) (kV k)) Y.2 W (KG (ZC k) g);refine⟨U,λp Z=>?_⟩
   rcases É.mp Z with e|e
   ·exact⟨n,by rw[e]⟩
   ·exact T p e
  |_=>exact absurd Y.1 Ö
section
variable {X:Cx} {Ξ:Wd->aQ->Prop}
def XX (i:Nat) {dn x:Str} {sc:acf} {ps p1 p2 p3 p4 p5 p6:Pos} {N:List Str} {cap:List Nat} {k:Nat} (hr:bC k X.A) (hc:X.calm=true) (S:nX X sc N 1 cap) (hN:X.N[i]?=some dn:=by rfl) (hv:qk X.env.scope dn:=by first|exact Or.inl rfl|exact Or.inr (Or.inl rfl)|exact Or.inr (Or.inr rfl))
  (Gb:X.env.kindOf dn=some .cell:=by rfl) (hx:sc.names.lookup x=some .local:=by rfl) (hf:(dn,NameKind.free)∈sc.names:=by decide)
  (Ge:∀cl C,(š sc cl C X.env).kindOf dn=some .cell:=by intro _ _;rfl) (fZ:∀cl C,(š sc cl C X.env).kindOf x=some .local:=by intro _ _;rfl)
  (hd:(dn==("__debug__":Str))=false:=by decide) (gy:(dn==("__classdict__":Str))=false:=by decide) (qO:(x==("__debug__":Str))=false:=by decide)
  (hs:∀y,ý (.Name dn p6) X.env y=pure y:=by intro _;rfl) (qN:∀cl C,(š sc cl C X.env).scope.kind=.function:=by intro _ _;rfl)
  (bU:∀{cl C},((š sc cl C X.env).scope.kind==.class||((š sc cl C X.env).scope.kind==.module&&(š sc cl C X.env).locals != (š sc cl C X.env).globals))=false:=by intro _ _;rfl) :
  PE X (.DictComp (.Subscript (.Name dn p1) (.Name x p2) p3) (.Name x p4) [⟨.Name x p5,.Name dn p6,[],0⟩] sc ps) (tE X.K Ξ (DQ (aa i))) :=
 cb (VU hc (vh hr) hN hv S Gb hx hf Ge fZ hd gy qO hs qN bU) fun σ H Q R=>by
  obtain⟨w,env,P,Z,O,h⟩:=R;subst P;have h:=Out.ak h;unfold aa at h;split at h
  ·rename_i d W
   have Y:=aI Z h;clear h;split at Y
   ·rename_i U M
    split at Y
    ·rename_i L
     obtain⟨v,J,I⟩:=O.val i d W;obtain⟨E,a,V,rfl,rfl,D,B,G,F⟩:=vf Z I M;obtain⟨g1,g2⟩:=VV (acc:=[]) (bcc:=[]) L F ⟨rfl,rfl⟩;refine⟨a,V,J,G,g2,λp T=>?_⟩;have le:=(Fw.cell (K:=X.K) (o:=.dK (m8 V)) (c:=.dK (U.foldl ng [])) Z T).le;refine Y (w.cell p (.dK (m8 V)) (.dK (U.foldl ng []))) le (Z.sr T ⟨_,cW,LR le g1⟩) rfl (.ref p) ⟨p,?_,rfl⟩;show (w.ρ++[p])[w.aD.length]?=some p;rw[<- Z.len];simp
    ·exact Y.elim
   ·exact Y.elim
  ·exact h.elim
end
end DI
namespace L2
open PySem PySem.Spec PyProof.Rows
end L2
namespace DI
open PySem L2
end DI
namespace L2
open PySem PySem.Spec PyProof.Rows
end L2
namespace DI
open PySem L2
end DI
namespace L2
open PySem PySem.Spec PyProof.Rows
def ZD:ć "sum"=some (.builtin "sum"):=by decide +kernel
end L2
namespace DI
open PySem L2
end DI
namespace L2
open PySem PySem.Spec PyProof.Rows
open AutoSeq1 (wpAny_loadPart')
end L2
namespace DI
open PySem L2
end DI
namespace L2
open PySem PySem.Spec PyProof.Rows
section
variable {X:Cx} {pos:Pos}
def ZE (i j k:Nat) (ta:TA):TS:=λD σ H=>ta σ H λZ Y=>∃v w u,Z=[v,w,u]/\D.nx (((σ.set i (some v)).set j (some w)).set k (some u)) Y
def vals3 (r:Vals [v,w,u] us):∃a b c,us=[a,b,c]/\RelV v a/\RelV w b/\RelV u c:=by
 cases r with
 |cons p q =>
  obtain⟨b,c,rfl,Z,Y⟩:=vals2 q;exact⟨_,b,c,rfl,p,Z,Y⟩
def VW {kt k2 iD} (hc:X.calm=true) (hN:X.N.Nodup) (hi:X.N[i]?=some x) (hj:X.N[j]?=some y) (hk:X.N[k]?=some z) (eZ:i≠j) (qz:i≠k) (Gg:j≠k)
 (hx:X.env.scope.names.lookup x=some .local) (hy:X.env.scope.names.lookup y=some .local) (hz:X.env.scope.names.lookup z=some .local) (ha:PA X [a,b,c] ta)
 (hw:abw [.Tuple [.Name x px,.Name y py,.Name z pz] kt pt] (.Tuple [a,b,c] k2 iD) X.env=pure (some [x,y,z]))
 (hs:abv [.Tuple [.Name x px,.Name y py,.Name z pz] kt pt] (.Tuple [a,b,c] k2 iD) pos.line X.env=pure false) :
  PS X (.Assign [.Tuple [.Name x px,.Name y py,.Name z pz] kt pt] (.Tuple [a,b,c] k2 iD) pos) (ZE i j k ta):=by
 intro U s σ H D I h;rw[exec_Assign_arm];refine À (μ ?_);rw[hs];refine À (Ä ?_);rw[å (by decide)];refine À (Tuple_ (aJ (ha _ U s σ H _ I h) λC Z R=>?_));obtain⟨B,T,Q,P,v,w,u,e1,O⟩:=R;subst e1;obtain⟨Y,W,V,rfl,rv,M,L⟩:=vals3 P;refine ą ?_ (by show 3<=Ø;decide)
 have K:Inv X U σ T { Z with heap:=Z.heap.push { cls:=.type "tuple",data:=.seq [Y,W,V].toArray } }:=Q.kept (t':=Z.toks) λb o e=>Á _ e
 rw[hw];refine À (Ä ?_)
 show á (í X.prog X.w) X.A (do rule "assign.swapped-stores";let items <- unpackItems (.ref Z.heap.objs.size) 3 none;acR [λv=>acS X.env z v,λv=>acS X.env y v,λv=>acS X.env x v] items.reverse;pure Flow.next) _ _ _
 refine À (Ų (À (unpackItems_tuple (items:=#[Y,W,V]) (I.ok.hd hc) (IsTup.new Z.heap _) λh' J=>?_)));have G:=K.kept (h':=h') (t':=Z.toks) λb o e=>J b o (à (Ó e)) e
 show á _ _ (acR [λv=>acS X.env z v,λv=>acS X.env y v,λv=>acS X.env x v] [V,W,Y] >>= λ_=>pure Flow.next) _ _ _
 refine À (ŵ (acx (o7 G hN hk (.inl hz) L (λt F=>?_) (.inr hz))));refine ŵ (acx (o7 F hN hj (.inl hy) M (λr E=>?_) (.inr hy)));refine ŵ (acx (o7 E hN hi (.inl hx) rv (λq S=>assignInOrder_nil (Ä ?_)) (.inr hx)));rw[List.set_comm _ _ (ŕ Gg),List.set_comm _ _ (ŕ qz),List.set_comm _ _ (ŕ eZ)] at S;exact⟨_,T,S,O⟩
end
end L2
namespace DI
open PySem L2
section
variable {X:Cx} {Ξ:Wd->aQ->Prop} {a b c:ľ} {pos:Pos} {fa:adq (List D)}
def sV (i j k:Nat) (fa:adq (List D)):adq Fl:=λenv s=>ak (fa env s) λZ s=>match Z with
 | [x,y,z]=>ok (.nx (((env.set i (some x)).set j (some y)).set k (some z))) s
 |_=>none
def LU (i j k:Nat) {x y z:Str} {px py pz pt:Pos} {kt k2 iD} (hc:X.calm=true) (hN:X.N.Nodup) (ha:PA X [a,b,c] (tA X.K Ξ fa)) (hi:X.N[i]?=some x:=by rfl) (hj:X.N[j]?=some y:=by rfl) (hk:X.N[k]?=some z:=by rfl) (eZ:i≠j:=by decide) (qz:i≠k:=by decide) (Gg:j≠k:=by decide)
  (hx:X.env.scope.names.lookup x=some .local:=by rfl) (hy:X.env.scope.names.lookup y=some .local:=by rfl) (hz:X.env.scope.names.lookup z=some .local:=by rfl)
  (hw:abw [.Tuple [.Name x px,.Name y py,.Name z pz] kt pt] (.Tuple [a,b,c] k2 iD) X.env=pure (some [x,y,z]):=by rfl)
  (hs:abv [.Tuple [.Name x px,.Name y py,.Name z pz] kt pt] (.Tuple [a,b,c] k2 iD) pos.line X.env=pure false:=by rfl) :
  PS X (.Assign [.Tuple [.Name x px,.Name y py,.Name z pz] kt pt] (.Tuple [a,b,c] k2 iD) pos) (tS X.K Ξ (sV i j k fa)):=jP (VW hc hN hi hj hk eZ qz Gg hx hy hz ha hw hs) λL σ H W=>by
 obtain⟨w,env,V,S,Y,h⟩:=W;subst V;refine⟨w,env,rfl,S,Y,(Out.ak h).mono λJ I U T Z G R=>?_⟩;split at Z
 ·obtain⟨v,r,rfl,Q,P⟩:=R
  obtain⟨u,t,rfl,O,M⟩:=CP P;exact⟨v,u,t,rfl,aI T Z _ ((((Y.le U).set Q i).set O j).set M k)⟩
 ·exact Z.elim
end
def rf:List D->ae->Res D:=aN 2 2 (aM (sQ (eB ou (af (cE 1 [1] (cZ (aa 0)) (gN 0) cy (e2 di (aa 0) (aa 1))) ah))))
def rp:List D->ae->Res D:=aN 1 3 (ay (bE (ie (fm (cx (eB fR (af (aa 0) (af (eC (.ty "tuple")) ah))))) (aY (e2 dB (eB bN (af (aa 0) ah)) (eC (.int 2))))) (aM (eC (.bl false))) bM) (ay (aZ (aa 0) (gT [(gN 1),(gN 2)])) (aM (cH (aw mr (af (aa 1) ah)) (cH (aw mr (af (aa 2) ah)) (aw rf (af (aa 1) (af (aa 2) ah))))))))
def xU:List D->ae->Res D:=aN 1 1 (aM (aw mv (af (aa 0) (af (eC (.int (4))) ah))))
def yt:List D->ae->Res D:=aN 1 1 (aM (aw mv (af (aa 0) (af (eC (.int (31))) ah))))
def uy:List D->ae->Res D:=aN 1 5 (ay (bE (ie (fm (cx (eB fR (af (aa 0) (af (eC (.ty "tuple")) ah))))) (aY (e2 dB (eB bN (af (aa 0) ah)) (eC (.int 4))))) (aM (eC (.bl false))) bM) (ay (aZ (aa 0) (gT [(gN 1),(gN 2),(gN 3),(gN 4)])) (ay (bE (ie (fm (cx (aw xU (af (aa 2) ah)))) (fm (cx (aw yt (af (aa 3) ah))))) (aM (eC (.bl false))) bM) (ay (bE (aY (e2 bH (aa 1) (eC (.str "made")))) (aM (aw rp (af (aa 4) ah))) bM) (aM (cH (e2 bH (aa 1) (eC (.str "mended"))) (aw rq (af (aa 4) ah))))))))
def xV:List D->ae->Res D:=aN 1 1 (aM (cH (eB fR (af (aa 0) (af (eC (.ty "tuple")) ah))) (cH (e2 ot (eB bN (af (aa 0) ah)) (eC (.int (24)))) (cH (eB mY (af (cE 1 [] (cZ (aa 0)) (gN 0) cy (aw uy (af (aa 0) ah))) ah)) (aw oW (af (aa 0) ah))))))
def kZ:List D->ae->Res D:=aN 4 4 (aM (cE 1 [1,2,3] (cZ (aa 0)) (gN 0) (ei (aY (e2 bH (e2 ar (aa 0) (eC (.int 0))) (eC (.str "made")))) (ei (aY (e2 bH (e2 ar (aa 0) (eC (.int 1))) (aa 1))) (aY (e2 di (aa 2) (e2 ar (e2 ar (aa 0) (eC (.int 3))) (aa 3)))))) (e2 ar (aa 0) (eC (.int 2)))))
def qX:List D->ae->Res D:=aN 3 3 (aM (cE 1 [1,2] (cZ (aa 0)) (gN 0) (ei (aY (e2 bH (e2 ar (aa 0) (eC (.int 0))) (eC (.str "mended")))) (ei (aY (e2 bH (e2 ar (aa 0) (eC (.int 1))) (aa 1))) (aY (e2 bH (e2 ar (aa 0) (eC (.int 3))) (aa 2))))) (e2 ar (aa 0) (eC (.int 2)))))
def xr:List D->ae->Res D:=aN 3 3 (aM (eB ou (af (cE 1 [1,2] (cZ (aa 0)) (gN 0) cy (tO jY ot (aa 1) (aa 0) (aa 2))) ah)))
def uz:List D->ae->Res D:=aN 3 5 (ay (aZ (aw kZ (af (aa 0) (af (aa 1) (af (aa 2) (af (eC (.int (1))) ah))))) (gN 3)) (ay (aZ (aw qX (af (aa 0) (af (aa 1) (af (aa 2) ah)))) (gN 4)) (aM (LI 2 [3,4] (cZ (e1 rF (aw kZ (af (aa 0) (af (aa 1) (af (aa 2) (af (eC (.int (0))) ah))))))) (gN 0) cy (An (af (aa 0) (af (eC (.int (31))) ah))) (gN 1) (ei (ie (aY (e2 di (aa 1) (aa 2))) (ei (aY (e2 bH (aa 1) (aa 0))) (aY (e2 di (aa 0) (aa 3))))) (fm (cx (aw xr (af (aa 3) (af (aa 0) (af (aa 1) ah))))))) (cg (af (aa 0) (af (aa 1) ah)))))))
def xQ:List D->ae->Res D:=aN 1 1 (aM (LJ 4 [0] (cV (af (eC (.int (4))) ah)) (gN 0) cy (cV (af (eC (.int (8))) ah)) (gN 1) cy (cZ (aw uz (af (aa 4) (af (aa 0) (af (aa 1) ah))))) (gT [gN 2,gN 3]) cy (cg (af (aa 0) (af (aa 1) (af (aa 2) (af (aa 3) ah)))))))
def rB:List D->ae->Res D:=aN 1 1 (aM (cH (aw xV (af (aa 0) ah)) (TK.DP (aw xQ (af (aa 0) ah)))))
def xR:List D->ae->Res D:=aN 1 1 (bE (fm (cx (aw rB (af (aa 0) ah)))) nu bM)
def xt:List D->ae->Res D:=aN 3 8 (ay (aZ (aw kZ (af (aa 0) (af (aa 1) (af (aa 2) (af (eC (.int (0))) ah))))) (gN 3)) (ay (aZ (aw qX (af (aa 0) (af (aa 1) (af (aa 2) ah)))) (gN 4)) (ay (aZ (eNew ah) (gN 5)) (ay (aZ (eC (.bl false)) (gN 6)) (ay (fW (cV (af (eC (.int (31))) ah)) (gN 7) (ay (aZ (l9 (e2 di (aa 7) (aa 3)) (cH (aa 6) (e2 gX (aa 7) (aa 4)))) (gN 6)) (bE (cx (aa 6)) (cB (gr (aa 5) (aa 7))) bM))) (aM (oo (aa 5))))))))
def xy:List D->ae->Res D:=aN 3 8 (ay (aZ (aw kZ (af (aa 0) (af (aa 1) (af (aa 2) (af (eC (.int (1))) ah))))) (gN 3)) (ay (aZ (aw qX (af (aa 0) (af (aa 1) (af (aa 2) ah)))) (gN 4)) (ay (aZ (eNew ah) (gN 5)) (ay (aZ (eC (.bl false)) (gN 6)) (ay (fW (Ga (af (eC (.int (31))) ah)) (gN 7) (ay (bE (ie (cx (aa 6)) (ie (aY (e2 di (aa 7) (aa 3))) (aY (e2 di (aa 7) (aa 4))))) (cB (gr (aa 5) (aa 7))) bM) (aZ (cH (l9 (aa 6) (e2 di (aa 7) (aa 3))) (e2 gX (aa 7) (aa 4))) (gN 6)))) (aM (oo (aa 5))))))))
def uw:List D->ae->Res D:=aN 2 2 (aM (eB eU (af (cE 1 [1,0] (cV (af (eC (.int (8))) ah)) (gN 0) (aY (e2 di (aa 1) (e2 ar (aa 2) (aa 0)))) (aa 0)) ah)))
def ua:List D->ae->Res D:=aN 2 4 (ay (aZ (cE 1 [0,1] (cV (af (eC (.int (8))) ah)) (gN 0) cy (aw xt (af (aa 1) (af (aa 2) (af (aa 0) ah))))) (gN 2)) (ay (aZ (cE 1 [0,1] (cV (af (eC (.int (8))) ah)) (gN 0) cy (aw xy (af (aa 1) (af (aa 2) (af (aa 0) ah))))) (gN 3)) (aM (cE 1 [2,3] (cV (af (eC (.int (31))) ah)) (gN 0) cy (cg (af (aw uw (af (aa 1) (af (aa 0) ah))) (af (aw uw (af (aa 2) (af (aa 0) ah))) ah)))))))
def yE (nt:Nat) (cap:List Nat) (it:adq (List D)) (g:D->Env->Option Env) (t:adq Bool) (act:adq (List D)):adq D:=λenv s =>
 ak (it env s) λY s=>ak (ne (fX g t act (Ï nt none++dP cap env) Y s)) λZ s=>gZ Z (ok (.ai s.length) (s++[.lst Z]))
def Q5 {K:ĥ} {Ξ:Wd->aQ->Prop} {Pre:Env->Prop} {nt:Nat} {cap:List Nat} {it:adq (List D)} {g0:TG} {g:D->Env->Option Env} {sl:List Nat} {t:adq Bool} {act:adq (List D)} {ta:jX} (T:Tg K g0 g nt) (hs:Sl g sl) (xa:∀i∈sl,i<nt) (hA:sA K Pre ta act)
  (hp:∀d caps aA,g d (Ï nt none++caps)=some aA->Pre aA) (σ:St) (H:Hp) (Q:VK) :
  tE K Ξ (yE nt cap it g t act) σ H Q->CT (dD K Ξ it) nt cap g0 (tT K bI t) ta σ H Q:=by
 intro zzz;obtain⟨w,env,rfl,S,P,h⟩:=zzz;refine⟨w,env,rfl,S,P,(Out.ak h).mono λO L I G Z J F=>?_⟩
 cases W:fX g t act (Ï nt none++dP cap env) L O.aD with
 |none=>rw[W] at Z;exact Z.elim
 |some r =>
  obtain⟨r,V⟩:=r;rw[W] at Z
  cases r with
  |error x=>exact Z.elim
  |ok X =>
   have Z:Out K Ξ O (gZ X (ok (.ai V.length) (V++[.lst X]))) (λY d=>∀v,DV K Y d v->Q v Y.H):=Z;obtain⟨E,Z⟩:=pd Z;have C:=(P.le I).block nt cap (Ï nt none) (by simp);refine Bf T hs (λi hi d e=>?_) (λd aA B=>hp d _ aA B) hA F G C (accD:=[]) rfl W (by simpa using E) λY y U A R N u z p M=>?_
   ·rw[ã (by simpa using xa i hi),ĭ,Þ (xa i hi)] at e
    cases e
   ·have le:=(Fw.cell (o:=.lst U) (c:=.lst X) R M).le
    refine Z (Y.cell p (.lst U) (.lst X)) (A.trans le) (R.sr M ⟨U,cW,le.all z⟩) ?_ (.ref p) ⟨p,?_,rfl⟩
    ·show Y.aD++[.lst X]=_
     rw[N]
    ·show (Y.ρ++[p])[V.length]?=some p
     rw[<- N,<- R.len];simp
section
variable {X:Cx} {Ξ:Wd->aQ->Prop} {el tg src gK fF:ľ} {tests iK:List ľ} {sc:acf} {ps pos:Pos} {N:List Str} {nt:Nat} {cap:List Nat} {it fL:adq (List D)} {gd md:D->Env->Option Env} {g0 qK:TG} {sl cK:List Nat} {ft i4:adq Bool} {f:adq D}
abbrev KH (nt:Nat) (cap:List Nat) (it:adq (List D)) (g:D->Env->Option Env) (t:adq Bool) (fL:adq (List D)) (g2:D->Env->Option Env) (t2:adq Bool) (f:adq D):adq D:=yE nt cap it g t (more fL g2 t2 (emit f))
def Ug (hc:X.calm=true) (S:nX X sc N nt cap) (T:Tg X.K g0 gd nt) (gF:Sl gd sl) (T2:Tg X.K qK md nt) (cF:Sl md cK) (hi:PI X tg src (dD X.K Ξ it))
  (hY:∀(cl:List (Str×ä)) (C:ä) (s:Å) (H:Hp) (ex:List ä) (pn:List (ä×Obj)),PG (cL X N sc cl C s H ex pn) tg g0/\PF (cL X N sc cl C s H ex pn) tests (tT X.K bI ft)/\PI (cL X N sc cl C s H ex pn) gK fF (dD X.K bI fL)/\PG (cL X N sc cl C s H ex pn) gK qK/\PF (cL X N sc cl C s H ex pn) iK (tT X.K bI i4)/\PE (cL X N sc cl C s H ex pn) el (tE X.K bI f))
  (oJ:apart nt sl cK=true:=by rfl) (oK:apart nt [] sl=true:=by rfl)
  (hs:∀x,ý src X.env x=pure x:=by intro _;rfl) (xc:∀ce x,ý fF ce x=pure x:=by intro _ _;rfl):PE X (.ListComp el [⟨tg,src,tests,0⟩,⟨gK,fF,iK,0⟩] sc ps) (tE X.K Ξ (KH nt cap it gd ft fL md i4 f)) :=
 cb (By (act:=zP (.ListComp el [⟨tg,src,tests,0⟩,⟨gK,fF,iK,0⟩] sc ps) fF 0) hc S T.jF hi (λcl C s H ex pn=>by
   obtain⟨y1,y2,y3,y4,y5,W⟩:=hY cl C s H ex pn;exact⟨y1,y2,λD Z it=>yp (d:=1) (act:=λY=>EX (.ListComp el [⟨tg,src,tests,0⟩,⟨gK,fF,iK,0⟩] sc ps) el 1 _ D Y) rfl hc rfl y3 y4 T2.jF y5 (λY=>Bx rfl W) (λ_=>rfl) (xc _)⟩) (λ_ _ _=>rfl) hs)
  (Q5 (Pre:=f9 cK) T gF (λi hi=>(nM oK i hi).1) (xP T2 cF A1 (λ_ h=>h) (λ_ _ _ _ _=>trivial)) λd Z U V=>f9.of gF (nM oJ) V)
end
open Classical in
def ki (nt:Nat) (caps:Env) (g:D->Env->Option Env) (t:adq Bool) (f:adq D) (γ:ae->Prop):List D->ae->Res (List D)
 | [],s=>if γ s then ok [] s else none
 |d::Z,s=>if γ s then (match g d (Ï nt none++caps) with
  |none=>none
  |some env=>ak (ne (t env s)) λb s=>if b=true then ak (ne (f env s)) λx s=>ak (ki nt caps g t f γ Z s) λY s=>ok (x::Y) s
   else ki nt caps g t f γ Z s) else none
def r9 (nt:Nat) (cap:List Nat) (it:adq (List D×(ae->Prop))) (g:D->Env->Option Env) (t:adq Bool) (f:adq D):adq D:=λenv s =>
 ak (it env s) λp s=>gZ p.1 (ak (ki nt (dP cap env) g t f p.2 p.1 s) λZ s=>ok (.lst Z) s)
def ItG (K:ĥ) (w:Wd) (J:It) (ds:List D) (γ:ae->Prop):Prop:=∀Z,Le K w Z->aL K Z->γ Z.aD->∀i,
 (∀d,ds[i]?=some d->J.go i Z.H/\∀x X,J.tF i Z.H x X->∃Y,Y.H=X/\Le K Z Y/\aL K Y/\Y.aD=Z.aD/\DV K Y d x)/\(ds.length<=i->J.stop i Z.H)
def v9 (K:ĥ) (Ξ:Wd->aQ->Prop) (f:adq (List D×(ae->Prop))):TI:=fun σ H R=>∃w env,w.H=H/\aL K w/\bQ K w env σ/\Out K Ξ w (f env w.aD) λZ p=>∀J,ItG K Z J p.1 p.2->R J Z.H
section
variable {K:ĥ} {Ξ:Wd->aQ->Prop}
def Q6 (σ:St) (H:Hp) (Q:VK) :
  tE K Ξ (r9 nt cap it g ft f) σ H Q->pP (v9 K Ξ it) nt cap (gD K g) (tT K bI ft) (tE K bI f) σ H Q:=by
 intro zzz;obtain⟨w,env,rfl,S,r,h⟩:=zzz;refine⟨w,env,rfl,S,r,(Out.ak h).mono λD p l1 S1 C J n=>?_⟩;obtain⟨U,F⟩:=p;obtain⟨l,C⟩:=pd C;have l:U.length<=Ø:=l;refine⟨λi m R k=>m=U.length-i/\i<=U.length/\R.length<=i/\∃X Y,X.H=k/\Le K D X/\aL K X/\aq K X Y R/\Out K Ξ X (ki nt (dP cap env) g ft f F (U.drop i) X.aD) λV M=>∀T,aq K V (Y++M) T->∀p,V.H p=none->Q (.ref p) (upd V.H p (.lst T)),
  ⟨U.length,rfl,ü _,ü _,D,[],rfl,Le.refl _,S1,rfl,(Out.ak C).mono λV M O L h2 T E p P=>?_⟩,?_⟩
 ·exact h2 (V.grow p (.lst T)) (Fw.grow P).le (L.grow P) rfl (.ref p) ⟨p,T,rfl,⟨(show ¬ V.Z p from pC L P),cW⟩,(Fw.grow P).le.all E⟩
 intro i m R k zzz;obtain⟨rfl,hi,ha,X,Y,rfl,I,B,A,W⟩:=zzz;by_cases z:i<U.length
 ·right
  rw[Ŝ z] at W;unfold ki at W;by_cases N:F X.aD
  ·rw[Þ N] at W
   obtain⟨gH,hy⟩:=(n X I B N i).1 _ (Ô z)
   cases u:g U[i] (Ï nt none++dP cap env) with
   |none=>rw[u] at W;exact W.elim
   |some t =>
    rw[u] at W;refine⟨gH,by omega,λs j=>s.length<=i+1/\∃X Y,X.H=j/\Le K D X/\aL K X/\aq K X Y s/\Out K Ξ X (ki nt (dP cap env) g ft f F (U.drop (i+1)) X.aD) λV M=>∀T,aq K V (Y++M) T->∀p,V.H p=none->Q (.ref p) (upd V.H p (.lst T)),
     λs j ⟨FL,q⟩=>⟨U.length-(i+1),by omega,rfl,z,FL,q⟩,λo x H3 ho y=>?_⟩
    obtain⟨V,rfl,O,L,es,dv⟩:=hy x H3 y;refine⟨V,_,U[i],t,rfl,L,(r.le (l1.trans (I.trans O))).block nt cap o ho,dv,u,fun jy c=>?_⟩;rw[<- es] at W;refine⟨V,t,rfl,L,c,(Out.ak (W.from O)).ne.mono λa b G S3 h3=>?_⟩
    cases b with
    |true =>
     refine⟨a,t,rfl,S3,c.le G,(Out.ak h3).ne.mono λw4 d l4 S4 h4 v wR=>⟨by rw[Ð];simp;omega,w4,Y++[d],rfl,I.trans (O.trans (G.trans l4)),S4,aq.append ((O.trans (G.trans l4)).all A) (aq.one wR),(Out.ak h4).mono λw5 M l5 S5 h5 T E p P=>?_⟩⟩;exact aI S5 h5 T (by rw[Ĩ] at E;exact E) p P
    |false =>
     exact⟨by omega,a,Y,rfl,I.trans (O.trans G),S3,(O.trans G).all A,h3⟩
  ·rw[å N] at W
   exact W.elim
 ·left
  have e:i=U.length:=by omega
  subst e;rw[acN] at W;unfold ki at W;by_cases N:F X.aD
  ·rw[Þ N] at W
   exact⟨(n X I B N _).2 (adv _),by omega,λp P=>aI B W R (by rw[Ē];exact A) p P⟩
  ·rw[å N] at W
   exact W.elim
def Se (R R':It->Hp->Prop) (i:∀J H',R J H'->R' J H') (h:v9 K Ξ it σ H R):v9 K Ξ it σ H R':=by
 obtain⟨w,env,Z,S,Y,h⟩:=h;exact⟨w,env,Z,S,Y,h.mono λV p _ _ X J W=>i J _ (X J W)⟩
end
section
variable {X:Cx} {Ξ:Wd->aQ->Prop} {a b:ľ} {fa:adq (List D)} {pos:Pos}
def JG (hc:X.calm=true) (S:pF X sc N nt cap) (T:Tg X.K g0 gd nt) (hi:PI X tg src (v9 X.K Ξ it))
 (hY:∀(cl:List (Str×ä)) (C:ä) (s:Å) (H:Hp) (ex:List ä) (pn:List (ä×Obj)),PG (fu X N sc cl C s H ex pn) tg g0/\PF (fu X N sc cl C s H ex pn) tests (tT X.K bI ft)/\PE (fu X N sc cl C s H ex pn) el (tE X.K bI f))
 (hs:∀x,ý src X.env x=pure x:=by intro _;rfl):PE X (.ListComp el [⟨tg,src,tests,0⟩] sc ps) (tE X.K Ξ (r9 nt cap it gd ft f)) :=
 cb (BB hc S T.jF hi hY hs) fun σ H Q h=>A6 T.imp (λR Z i h=>Se R Z i h) (Q6 σ H Q h)
end
end DI
namespace L2
open PySem
open PySem.Spec PyProof.Rows
structure Fly (P:ó) (w:Ĕ) (outer:List Env) (H:Hp) (s:Å) (H':Hp) (B:œ) (a:ä) (cls a0:Ç) (h:œ):Prop where
 fl:Heap.FlyingW B outer a cls a0 h
 old:∀b o,s.heap.get? b=some o->H b=none->b∉fH outer->B.get? b=some o
 there:∀b o,s.heap.get? b=some o->b∉fH outer->∃o',B.get? b=some o'
 slot:∀b o,s.heap.get? b=some o->b∈fH outer->∃sl,h.get? b=some { o with slots:=sl }
 aE:bT P w H' B
 free:∀b o,s.heap.get? b=some o->H b=none->H' b=none
 jr:∀b xs,H b=some (.tup xs)->H' b=some (.tup xs)
 iQ:∀b o u,H b=some (.bS o u)->H' b=some (.bS o u)
 jV:∀b ps,H b=some (.lZ ps)->∃more,H' b=some (.lZ (ps++more))
def Dm (h:œ) (a:ä) (m:Option ä):Prop:=∀Z,m=some Z->∃o,h.get? a=some o/\o.dict=some Z
def Dm.ax (h:œ) (a:ä):Dm h a none:=λ_ z=>by cases z
def Oc (P:ó) (w:Ĕ):jA:=λouter H s E e Z=>∃a cls X Y B m,e=.ref a/\Z.os=s.os/\adl Z.gens/\Fly P w outer H s Y B a cls X Z.heap/\Dm Z.heap a m/\E cls m Y
structure Lv (X:Cx) (E:XK):Prop where
 xe:X.xe=λe s'=>á (í X.prog X.w) X.A (leaving X.env e) (λ_ nj=>Oc X.prog X.w X.outer X.pW X.cY E e nj) (λe' nj=>Oc X.prog X.w X.outer X.pW X.cY E e' nj) s'
 qm:X.stack=X.env::X.outer
 fr:X.env.frame=some X.env.locals
 ex:X.ex=[]
end L2
namespace DI
open PySem L2
abbrev GG (K:ĥ) (mg:Str->Option Ç) (x:Str) (st:ado) (ps:List Str):Prop:=∃f fd,Gd K mg x st ps f fd
abbrev ba (P:ó) (w:Ĕ) (K:ĥ) (mg:Str->Option Ç) (base:œ) (x:Str) (st:ado) (ps:List Str) (k:Nat) (fn:List D->ae->Res D):Prop:=∀{f:ä} {fd:ő},Gd K mg x st ps f fd->dH P w K mg base fK k f fd ps (kQ K fn)
noncomputable def zR (N ps:List Str) (sc:acf):Bool:=decide (sc.kind=.function)&&!sc.isCoroutine&&!sc.isGenerator&&decide N.Nodup&&decide (N.take ps.length=ps)&&ps.all (λx=>decide (sc.names.lookup x=some .local\/sc.names.lookup x=some .cell))&&sc.names.all (λy=>decide (y.2≠.free))
def yT (h:zR N ps sc=true):rQ N ps sc:=by
 unfold zR at h;simp only[È,ĵ,Í,õ] at h;obtain⟨⟨⟨⟨⟨⟨Z,Y⟩,X⟩,W⟩,V⟩,U⟩,T⟩:=h;exact⟨Z,Y,X,W,V,U,T⟩
def bb (G:Gd K mg x st ps f fd) (N:List Str) (S:zR N ps (dJ st)=true)
 (hb:N.Nodup->∀(bO:Ç) (A:Ĉ) (outer:List PySem.Env) (s:Å) (H:Hp) (E:XK),bC k (A.deeper (ac1 x (dJ st) s.heap.objs.size f bO))->dj (mV fK P w K mg base N x (dJ st) f bO A outer s H E).qq (ik st) (tS K bI b)) :
  dH P w K mg base fK (k+1) f fd ps (kQ K (aN ps.length N.length b)):=DF G.fn (yT S) (hb (yT S).nd)
section
variable {X:Cx} {Ξ:Wd->aQ->Prop} {e a b c tg el src:ľ} {es rest tests:List ľ} {pos:Pos} {f g h:adq D} {fa:adq (List D)} {ft gt:adq Bool}
def aB {k n:Nat} {x:Str} {st:ado} {ps:List Str} {fn:List D->ae->Res D} {p:Pos} (G:GG X.K X.mg x st ps) (F:ba X.prog X.w X.K X.mg X.base x st ps k fn) (hr:bC n X.A) (ha:PA X (e::es) (tA X.K Ξ fa)) (hk:k<=n:=by decide) (hg:Gl X x:=by rfl) (gB:(x==("__debug__":Str))=false:=by decide)
  (he:ß (e::es) X.env=(false,ţ e X.env)::ß es X.env:=by rfl) (bU:(ũ pos (ß es X.env)).any (·.1)=false:=by rfl):PE X (.Call (.Name x p) (e::es) [] pos) (tE X.K Ξ (aw fn fa)):=by
 obtain⟨f,fd,G⟩:=G;exact CO (F G) (hr.mono hk) hg G.mg G.fn.kp G.b ha gB he bU
def au (ha:PE X a (tE X.K Ξ f)) (hs:ß [a] X.env=(false,ţ a X.env)::ß [] X.env:=by rfl):PA X [a] (tA X.K Ξ (af f ah)):=aX ha cA hs
def aO (ha:PE X a (tE X.K Ξ f)) (hb:PE X b (tE X.K Ξ g)) (h1:ß [a,b] X.env=(false,ţ a X.env)::ß [b] X.env:=by rfl) (h2:ß [b] X.env=(false,ţ b X.env)::ß [] X.env:=by rfl):PA X [a,b] (tA X.K Ξ (af f (af g ah))):=aX ha (aX hb cA h2) h1
def dX (ha:PE X a (tE X.K Ξ f)) (hb:PE X b (tE X.K Ξ g)) (hc:PE X c (tE X.K Ξ h)) (h1:ß [a,b,c] X.env=(false,ţ a X.env)::ß [b,c] X.env:=by rfl) (h2:ß [b,c] X.env=(false,ţ b X.env)::ß [c] X.env:=by rfl) (h3:ß [c] X.env=(false,ţ c X.env)::ß [] X.env:=by rfl):PA X [a,b,c] (tA X.K Ξ (af f (af g (af h ah)))):=aX ha (aX hb (aX hc cA h3) h2) h1
def eG {x:Str} {px:Pos} {sc:acf} {ps:Pos} (N:List Str) {cap:List Nat} {it:adq (List D)} (hi:PI X (.Name x px) src (dD X.K Ξ it))
  (hY:∀(cl:List (Str×ä)) (C:ä) (s:Å) (H:Hp) (ex:List ä) (pn:List (ä×Obj)),PF (fu X N sc cl C s H ex pn) tests (tT X.K bI ft)/\PE (fu X N sc cl C s H ex pn) el (tE X.K bI f))
  (hc:X.calm=true:=by rfl) (S:C2 sc X.env.scope.names X.N N 1 cap=true:=by kernel_rfl) (nd:N.Nodup:=by decide +kernel) (h0:N[0]?=some x:=by rfl) (hx:∀cl C s H ex pn,(fu X N sc cl C s H ex pn).env.scope.names.lookup x=some .local:=by intros;rfl) (hs:∀x,ý src X.env x=pure x:=by intro _;rfl) :
  PE X (.ListComp el [⟨.Name x px,src,tests,0⟩] sc ps) (tE X.K Ξ (cE 1 cap it (gN 0) ft f)) :=
 KC hc (vD S) (mB 0) hi (λcl C s H ex pn=>⟨gW nd h0 (.inl (hx cl C s H ex pn)) (.inr (hx cl C s H ex pn)),hY cl C s H ex pn⟩) hs
end
end DI
namespace L2
open PySem PySem.Spec PyProof.Rows PySem.W
structure adX (env:Env) (names:List (Str×abg)) (cl:List (Str×ä)):Prop where
 adY:∀x c,cl.lookup x=some c->env.cells.lookup x=some c
 all:∀x,(x,NameKind.free)∈names->∃c,cl.lookup x=some c
structure adU (N:List Str) (scope:acf):Prop where
 co:scope.isCoroutine=false
 gen:scope.isGenerator=false
 kind:scope.kind=.function
 yO:∀x∈scope.names,x.2≠.cell
end L2
namespace DI
open PySem L2 PySem.W
section
variable {X:Cx} {Ξ:Wd->aQ->Prop} {pos:Pos}
def adZ (X:Cx) (H:Hp) (s:Å):œ:=hideAll s.heap (fH X.stack++wk s.heap H)
end
end DI
namespace L2
open PySem PySem.Spec PyProof.Rows PySem.W
section
variable {X:Cx} {π:List (ä×Obj)} {σ:St} {H:Hp} {s:Å}
noncomputable abbrev Cx.held (X:Cx) (a:ä):Cx:={ X with A:=X.A.mark (some (.ref a)),calm:=false,xe:=λ_ _=>False }
end
end L2
namespace DI
open PySem L2 PySem.W
end DI
namespace L2
open PySem PySem.Spec PySem.Calls PyProof.Rows PySem.W PySem.Builtin PySem.Builtin.ObjectAttr PySem.Builtin.Getset_descriptor
end L2
namespace DI
open PySem L2 PySem.W
open PyProof.Rows PySem.SeqAt
end DI
namespace L2
open PySem PySem.Spec PyProof.Rows PySem.W
end L2
namespace DI
open PySem L2 PySem.W
end DI
namespace L2
open PySem PySem.Spec PyProof.Rows PySem.W
structure ZF (k:Nat) (A:Ĉ):Prop where
 dp:A.depth+3*k+5<recursionLimit
 un:A.units+16*k+200<acg
structure ad0 (P:ó) (w:Ĕ) (K:ĥ) (mg:Str->Option Ç) (base:œ) (k:Nat) (f:ä) (fd:ő) (ps:List Str) (sp:Sp):Prop where
 len:∀vs H Q E,sp vs H Q E->vs.length=ps.length
 run:∀(A:Ĉ) (outer:List Env) (s:Å) (H:Hp) (args:Args) (us:List Ç) (vs:List V) (Q:VK) (E:XK),ZF k A->oi P w K mg base A outer s H->BindsTo s fd args (ps.zip us)->Vals vs us->sp vs H Q E ->
  Ź (í P w) A (.call (.ref f) args) (CR fK outer P w H s Q E) s
noncomputable abbrev _root_.PySem.Around.ad1 (A:Ĉ):Ĉ:={ A with handled:=none }
end L2
namespace DI
open PySem L2 PySem.W
end DI
namespace L2
open PySem PySem.Spec PyProof.Rows
end L2
namespace DI
open PySem L2
end DI
namespace L2
open PySem PySem.Spec PyProof.Rows
section
variable {X:Cx} {π:List (ä×Obj)} {σ:St} {H:Hp} {s:Å} {Z:ä->Prop}
mutual
theorem DV.sF (I:Inv X π σ H s):∀{d:acZ} {v:V} {u:Ç},DV X.K Z H d v->RelV v u->d.showable=true->d.shown.length<=Ø->∃bs,ReadAtMost s.heap d.depth bs/\ReprK X.prog X.w bs s.heap d.depth u d.shown
 | .none,v,u,h,r,hs,W=>by
  obtain⟨as,Y⟩:=h.reads I r;exact acC Y hs (λz=>by simp[abe] at z) W
 | .bool b,v,u,h,r,hs,W=>by
  obtain⟨as,Y⟩:=h.reads I r;exact acC Y hs (λz=>by simp[abe] at z) W
 | .int i,v,u,h,r,hs,W=>by
  obtain⟨as,Y⟩:=h.reads I r;exact acC Y hs (λz=>by simp[abe] at z) W
 | .str x,v,u,h,r,hs,W=>by
  obtain⟨as,Y⟩:=h.reads I r;exact acC Y hs (λz=>by simp[abe] at z) W
 | .dict G,v,u,h,r,hs,W=>by
  obtain⟨as,Y,J⟩:=h.u4 I r rfl;exact acC Y hs (λ_=>J) W
 | .tuple U,v,u,h,r,hs,W=>by
  have P:(tupleText (Œ U)).length<=Ø:=by simpa only [PyData.shown] using W
  obtain⟨as,Y⟩:=h.reads I r;simp only[DV] at h;obtain⟨a,L,e,O,S⟩:=h;subst e;cases r;obtain⟨its,rv,⟨o,e,c,n,R⟩,_⟩:=I.tuple O;obtain⟨bs,T,Q⟩:=aq.sF I S rv (by simpa [abr] using hs) (λt N=>Ú (tupleText_mem_le N) P);have M:a∉bs:=not_mem_of_deeper Y (by simp only[PyData.depth];omega) T;refine⟨a::bs,ReadAtMost.cons Y (by simp only[PyData.depth];omega) T,?_⟩;simp only[PyData.depth,PyData.shown];exact ReprK.tuple e c R M Q
 | .list U,v,u,h,r,hs,W=>by
  have P:(listText (Œ U)).length<=Ø:=by simpa only [PyData.shown] using W
  obtain⟨as,Y⟩:=h.reads I r;simp only[DV] at h;obtain⟨a,L,e,_,O,S⟩:=h;subst e;cases r;obtain⟨its,rv,⟨o,n,e,c,_,R⟩,_⟩:=I.list (bh.of O);obtain⟨bs,T,Q⟩:=aq.sF I S rv (by simpa [abr] using hs) (λt N=>Ú (listText_mem_le N) P);have M:a∉bs:=not_mem_of_deeper Y (by simp only[PyData.depth];omega) T;refine⟨a::bs,ReadAtMost.cons Y (by simp only[PyData.depth];omega) T,?_⟩;simp only[PyData.depth,PyData.shown]
  cases its with
  |nil =>
   have:L=[]:=by cases rv;rfl
   subst this
   have:U=[]:=by cases U with
    |nil=>rfl
    |cons d U=>obtain⟨_,_,z,_⟩:=S;cases z
   subst this;simp only[Œ,listText_nil];exact ReprK.listEmpty e c R
  |cons x l=>exact ReprK.list e c R M (by simpa using Q.length_eq) (λi y e=>Q.item i y (by simpa using e))
theorem aq.sF (I:Inv X π σ H s):∀{ds:List acZ} {vs:List V} {us:List Ç},aq X.K Z H ds vs->Vals vs us->Ŷ ds=true->(∀t∈Œ ds,t.length<=Ø) ->
  ∃bs,ReadAtMost s.heap (Ļ ds) bs/\ReprAllK X.prog X.w bs s.heap (Ļ ds) us (Œ ds)
 | [],vs,us,h,r,_,_=>by
  have e:vs=[]:=h;subst e;cases r
  exact⟨[],(λ_ h=>nomatch h),by simp only[Œ];exact .nil⟩
 |d::ds,vs,us,h,r,hs,W=>by
  obtain⟨v,F,e,T,S⟩:=h;subst e;have U:d.showable=true/\Ŷ ds=true:=by simpa [Ŷ] using hs
  cases r with
  |cons R Q =>
   obtain⟨P,O,N⟩:=DV.sF I T R U.1 (W _ (by simp only[Œ];exact Ñ ..));obtain⟨M,L,J⟩:=aq.sF I S Q U.2 (λt G=>W t (by simp only[Œ];exact Ò _ G));refine⟨P++M,(O.mono (by simp only[Ļ];exact ac3 _ _)).append (L.mono (by simp only[Ļ];exact abN _ _)),?_⟩;simp only[Ļ,Œ];exact .cons ((N.more λb Y=>þ _ Y).level_le (ac3 _ _)) (J.more_le (λb Y=>Ê _ Y) (abN _ _))
end
end
def Q7 {X:Cx} {k:Nat} (hr:bC k X.A):cT X (.builtin "repr") (λxs H Q=>∃(x:V) (ds:List acZ) (Z:ä->Prop),xs=[x]/\DV X.K Z H (.tuple ds) x/\(PyData.tuple ds).showable=true/\(PyData.tuple ds).depth<=100/\(PyData.tuple ds).shown.length<=Ø/\Q (.str (PyData.tuple ds).shown) H):=by
 intro D s σ H xs C Q I r h;obtain⟨x,ds,Z,rfl,Y,hs,B,O,q⟩:=h;obtain⟨u,rfl,R⟩:=vals1 r;have P:(tupleText (Œ ds)).length<=Ø:=by simpa only [PyData.shown] using O
 have W:X.A.units+((PyData.tuple ds).depth+1)<acg:=by have:=hr.un;omega
 obtain⟨as,N⟩:=Y.reads I R;simp only[DV] at Y;obtain⟨a,xs,e,M,U⟩:=Y;subst e;cases R;obtain⟨its,rv,⟨o,e,c,n,T⟩,_⟩:=I.tuple M;obtain⟨bs,L,S⟩:=aq.sF I U rv (by simpa [abr] using hs) (λt J=>Ú (tupleText_mem_le J) P);have G:a∉bs:=not_mem_of_deeper N (by simp only[PyData.depth];omega) L;simp only[PyData.depth] at W;refine call_repr_slot (by omega) ⟨o,e,c⟩ F.slot_tuple_repr (call_tuple_reprK e c T G S hr.gd (λb _=>Clear.nil b) (by show X.A.units+1 + _ < acg;omega) (λ_ _ z=>z) (λy t E S=>⟨_,_,rfl,?_⟩) P);refine⟨.str _,H,I.kept (t':=E) S,⟨t,rfl⟩,?_⟩;simpa only [PyData.shown] using q
end L2
namespace DI
open PySem L2
def sW (d:D):Bool:=plain d&&(py d).showable&&decide ((py d).depth<=100)&&decide ((py d).shown.length<=Ø)
def sX (ds:List D) (s:ae):Res D:=match ds with
 | [.bl b]=>ok (.int (if b then 1 else 0)) s
 |_=>none
def MJ {X:Cx} {Ξ:Wd->aQ->Prop}:cT X (.type "int") (rC X.K Ξ sX):=by
 intro V s σ H U T Q I r zzz;obtain⟨w,R,rfl,S,Z,h⟩:=zzz;unfold sX at h;split at h
 ·rename_i b
  obtain⟨v,rfl,Y⟩:=lu Z;have e:v=.bl b:=Y;subst e;obtain⟨u,rfl,W⟩:=vals1 r;have e:u=.bool b:=W;subst e;exact call_int_bool ⟨.int _,w.H,I.tok _,⟨_,rfl⟩,aI S h _ rfl⟩
 ·exact h.elim
end DI
namespace L2
open PySem PySem.Spec PySem.Calls PyProof.Rows PySem.W PySem.Builtin PySem.Builtin.ObjectAttr PySem.Builtin.Getset_descriptor
end L2
namespace DI
open PySem L2 PySem.W
end DI
namespace L2
open PySem PySem.Spec PyProof.Rows PySem.W
end L2
namespace DI
open PySem L2 PySem.W
noncomputable def qg {α:Type} (f:Str) (v:α):List (Str×α)->List (Str×α)
 | []=>[(f,v)]
 |(g,x)::r=>if g=f then (g,v)::r else (g,x)::qg f v r
def nh (c:Str) (d:D) (s:ae):Option (Nat×List (Str×D)):=match d with
 | .ai k=>(match s[k]? with
  |some (.ins Z fs)=>if decide (Z=c)=true then some (k,fs) else none
  |_=>none)
 |_=>none
def Ci {c:Str} {d:D} {s:ae} {k:Nat} {fs:List (Str×D)} (h:nh c d s=some (k,fs)):d=.ai k/\s[k]?=some (.ins c fs):=by
 unfold nh at h;split at h
 ·split at h
  ·rename_i e
   split at h
   ·rename_i Z
    cases h;rw[ċ Z] at e;exact⟨rfl,e⟩
   ·cases h
  ·cases h
 ·cases h
section
variable {K:ĥ} {w:Wd}
theorem KI:∀{fs:List (Str×D)} {vs:List (Str×V)} {f:Str} {d:D},vs.map (·.1)=fs.map (·.1)->aq K w (fs.map (·.2)) (vs.map (·.2))->fs.lookup f=some d->∃v,vs.lookup f=some v/\DV K w d v
 | [],vs,f,d,_,_,h=>by cases h
 |(g,x)::fs,vs,f,d,e,Y,h=>by
  cases vs with
  |nil=>cases e
  |cons p vs =>
   obtain⟨X,v⟩:=p;simp only[Î,ş] at e;obtain⟨rfl,e⟩:=e;obtain⟨T,r,e1,W,U⟩:=Y;cases e1;rw[ļ] at h |-
   cases Z:f==X with
   |true =>
    rw[Z] at h;cases h;exact⟨v,rfl,W⟩
   |false =>
    rw[Z] at h;exact KI e U h
theorem KJ:∀{fs:List (Str×D)} {vs:List (Str×V)} {f:Str},vs.map (·.1)=fs.map (·.1)->fs.lookup f=none->vs.lookup f=none
 | [],vs,f,e,_=>by
  cases vs with
  |nil=>rfl
  |cons _ _=>cases e
 |(g,x)::fs,vs,f,e,h=>by
  cases vs with
  |nil=>cases e
  |cons p vs =>
   obtain⟨Y,v⟩:=p;simp only[Î,ş] at e;obtain⟨rfl,e⟩:=e;rw[ļ] at h |-
   cases Z:f==Y with
   |true=>rw[Z] at h;cases h
   |false =>
    rw[Z] at h;exact KJ e h
theorem LV {f:Str} {d:D} {v:V} (dv:DV K w d v):∀{fs:List (Str×D)} {vs:List (Str×V)},vs.map (·.1)=fs.map (·.1)->aq K w (fs.map (·.2)) (vs.map (·.2))->(fq f v vs).map (·.1)=(qg f d fs).map (·.1)/\aq K w ((qg f d fs).map (·.2)) ((fq f v vs).map (·.2))
 | [],vs,e,_=>by
  cases vs with
  |nil=>exact⟨rfl,aq.one dv⟩
  |cons _ _=>cases e
 |(g,x)::fs,vs,e,X=>by
  cases vs with
  |nil=>cases e
  |cons p vs =>
   obtain⟨W,u⟩:=p;simp only[Î,ş] at e;obtain⟨rfl,e⟩:=e;obtain⟨R,r,e1,U,Y⟩:=X;cases e1;unfold fq qg;by_cases Z:W=f
   ·rw[Þ Z,Þ Z]
    exact⟨by simp only[Î,e],⟨v,_,rfl,dv,Y⟩⟩
   ·rw[å Z,å Z]
    obtain⟨T,S⟩:=LV dv e Y;exact⟨by simp only[Î,T],⟨u,_,rfl,U,S⟩⟩
def C5 {c:Str} {k:Nat} {fs:List (Str×D)} {v:V} (S:aL K w) (dv:DV K w (.ai k) v) (e:w.aD[k]?=some (.ins c fs)):∃a C dx vs,w.ρ[k]?=some a/\v=.ref a/\nsIn K â c=some (some (.ref C))/\w.H a=some (.ins C dx vs)/\vs.map (·.1)=fs.map (·.1)/\aq K w (fs.map (·.2)) (vs.map (·.2)):=by
 simp only[DV] at dv;obtain⟨a,e1,rfl⟩:=dv;obtain⟨C,dx,vs,Z,Y,X,W⟩:=S.cell k a _ e1 e;exact⟨a,C,dx,vs,e1,rfl,Z,Y,X,W⟩
end
def zS (K:ĥ) (c f:Str):Prop:=∃C,nsIn K â c=some (some (.ref C))/\jz K C/\mG K C f
def sY (c f:Str) (d:D) (s:ae):Res D:=match nh c d s with
 |some (_,fs)=>(match fs.lookup f with
  |some x=>ok x s
  |none=>none)
 |none=>none
def zr (c f:Str) (fv fo:adq D):adq Fl:=λenv s=>ak (fv env s) λv s=>ak (fo env s) λo s=>match nh c o s with
 |some (k,fs)=>if decide (fs.length<1000)=true then ok (.nx env) (s.set k (.ins c (qg f v fs))) else none
 |none=>none
section
variable {X:Cx} {Ξ:Wd->aQ->Prop} {e o value:ľ} {pos pos':Pos} {g fo fv:adq D} {c f:Str}
def MK (hF:zS X.K c f) (he:PE X e (tE X.K Ξ g)) (hb:aby e f X.env (ţ e X.env)=ţ e X.env:=by rfl):PE X (.Attribute e f pos) (tE X.K Ξ (e1 (sY c f) g)) :=
 cb (Xh he hb) fun σ H Q V=>by
  obtain⟨w,env,U,S,T,h⟩:=V;subst U;refine⟨w,env,rfl,S,T,(Out.ak h).mono λB d A Y Z v R=>?_⟩;obtain⟨C,P,O,N⟩:=hF;unfold sY at Z;split at Z
  ·rename_i k fs e1
   obtain⟨rfl,M⟩:=Ci e1;split at Z
   ·rename_i x e2
    obtain⟨a,z,L,J,_,rfl,W,I,G,F⟩:=C5 Y R M;rw[P] at W;cases W;obtain⟨u,E,D⟩:=KI G F e2;exact⟨a,C,L,J,u,rfl,I,O,N,E,aI Y Z _ D⟩
   ·exact Z.elim
  ·exact Z.elim
def ZG (hF:zS X.K c f) (ho:PE X o (tE X.K Ξ fo)) (hv:PE X value (tE X.K Ξ fv)) (hs:acW value (some (.Attribute o f pos')) pos.line X.env=pure false:=by rfl):PS X (.Assign [.Attribute o f pos'] value pos) (tS X.K Ξ (zr c f fv fo)) :=
 jP (Xi ho hv hs) λj σ H F=>by
  obtain⟨w,env,E,S,U,h⟩:=F;subst E;refine⟨w,env,rfl,S,U,(Out.ak h).mono λD y O B A u x=>?_⟩;refine⟨D,env,rfl,B,U.le O,(Out.ak A).mono λi d N T Z v t=>?_⟩;obtain⟨C,M,s,r⟩:=hF;split at Z
  ·rename_i k fs e1
   obtain⟨rfl,R⟩:=Ci e1;split at Z
   ·rename_i Q
    have Q:=ċ Q;obtain⟨a,g,W,V,L,rfl,J,q,I,p⟩:=C5 T t R;rw[M] at J;cases J;have Y:V.length=fs.length:=by have:=Ķ List.length I;simpa using this
    refine⟨a,C,W,V,rfl,q,s,r,by rw[Y];exact Q,?_⟩;have G:(Cell.ins c fs)≠.dead:=by intro z;cases z
    have P:=(Fw.put (K:=X.K) (o:=.ins C W (fq f u V)) (c:=.ins c (qg f y fs)) T L R G).le;obtain⟨n,m⟩:=LV (N _ _ x) I p;have l:=T.zI (o:=.ins C W (fq f u V)) (c:=.ins c (qg f y fs)) L R G ⟨C,W,_,M,cW,n,P.all m⟩;exact Z _ P l rfl σ (U.le (O.trans (N.trans P)))
   ·exact Z.elim
  ·exact Z.elim
end
def sG (f:adq D):adq (List D×(ae->Prop)):=λenv s=>ak (f env s) λd s=>match res d s with
 | .lst Z=>ok (Z,λs=>res d s=.lst Z) s
 |_=>none
def LW {X:Cx} {Ξ:Wd->aQ->Prop} {a tg:ľ} {f:adq D} (hl:PE X a (tE X.K Ξ f)):PI X tg a (v9 X.K Ξ (sG f)) :=
 pE (J5 hl) fun σ H R O=>by
  obtain⟨w,env,N,S,M,h⟩:=O;subst N;refine⟨w,env,rfl,S,M,(Out.ak h).mono λC d B V Z v U=>?_⟩;split at Z
  ·rename_i A e1
   obtain⟨a,L,rfl,J,y⟩:=jh V U e1;refine⟨a,rfl,⟨L,bh.of J⟩,aI V Z _ λI G T F i=>?_⟩;obtain⟨p,Y,e,W,Q⟩:=jh T (G _ _ U) F;cases e;refine⟨λx ex=>?_,λhl=>⟨Y,bh.of W,by rw[<- Q.length];exact hl⟩⟩;obtain⟨u,P,E⟩:=Q.get' i x ex;exact⟨⟨Y,u,bh.of W,P⟩,λz t ⟨e1,e2⟩=>⟨I,e1.symm,Le.refl _,T,rfl,by
    have q:=e2 Y (bh.of W);rw[P] at q;cases q;exact E⟩⟩
  ·exact Z.elim
structure Gm (K:ĥ) (c m q:Str) (st:ado) (ps:List Str) (f:ä) (fd:ő):Prop where
 fn:oG K m q st f fd
 b:Binds K fd ps []
def GM (K:ĥ) (c m q:Str) (st:ado) (ps:List Str):Prop:=∃C f fd,nsIn K â c=some (some (.ref C))/\jz K C/\Meth K C m f/\Gm K c m q st ps f fd
abbrev qP (P:ó) (w:Ĕ) (K:ĥ) (mg:Str->Option Ç) (base:œ) (c m q:Str) (st:ado) (ps:List Str) (k:Nat) (fn:List D->ae->Res D):Prop:=∀{f:ä} {fd:ő},Gm K c m q st ps f fd->dH P w K mg base fK k f fd ps (kQ K fn)
def yU {P:ó} {w:Ĕ} {K:ĥ} {mg:Str->Option Ç} {base:œ} {c m q:Str} {st:ado} {f:ä} {fd:ő} {ps:List Str} {k:Nat} {b:adq Fl} (G:Gm K c m q st ps f fd) (N:List Str) (S:zR N ps (dJ st)=true)
  (hb:N.Nodup->∀(bO:Ç) (A:Ĉ) (outer:List PySem.Env) (s:Å) (H:Hp) (E:XK),bC k (A.deeper (ac1 q (dJ st) s.heap.objs.size f bO))->dj (mV fK P w K mg base N q (dJ st) f bO A outer s H E).qq (ik st) (tS K bI b)) :
  dH P w K mg base fK (k+1) f fd ps (kQ K (aN ps.length N.length b)):=DF G.fn (yT S) (hb (yT S).nd)
def vF (c m:Str) (fn:List D->ae->Res D) (fo:adq D) (fa:adq (List D)):adq D:=λenv s=>ak (fo env s) λo s=>match nh c o s with
 |some (_,fs)=>if (fs.lookup m).isNone=true then ak (fa env s) λZ s=>fn (o::Z) s else none
 |none=>none
def jk (c m:Str) (fn:List D->ae->Res D) (fo:adq D) (fa:adq (List D)):adq D:=vF c m (λZ s=>ne (fn Z s)) fo fa
def zt (c:Str) (fn:List D->ae->Res D):adq D:=λ_ s=>ak (ne (fn [.ai s.length] (s++[.ins c []]))) λd Z=>match d with
 | .ax=>ok (.ai s.length) Z
 |_=>none
def GK (K:ĥ) (mg:Str->Option Ç) (c q:Str) (st:ado) (ps:List Str):Prop:=∃C f fd,nsIn K â c=some (some (.ref C))/\mg c=some (.ref C)/\Mk K C f/\Gm K c "__init__" q st ps f fd
section
variable {X:Cx} {E:XK} {Ξ:Wd->aQ->Prop} {e o:ľ} {es:List ľ} {pos apos:Pos} {fo:adq D} {fa:adq (List D)} {c m q:Str} {st:ado} {ps:List Str} {k n:Nat} {fn:List D->ae->Res D} {pl:Sem Bool}
def IT {C:ä} {σ:St} {H:Hp} {Q:VK} {t:TA} (hC:nsIn X.K â c=some (some (.ref C))) (ht:∀w' env (R:List V->Hp->Prop),aL X.K w'->bQ X.K w' env σ->Out X.K Ξ w' (fa env w'.aD) (λw1 ds=>∀vs,aq X.K w1 ds vs->R vs w1.H)->t σ w'.H R)
  (aC:tE X.K Ξ (jk c m fn fo fa) σ H Q):Dw C m (kQ X.K fn) [] E0 (tE X.K Ξ fo) t σ H Q:=by
 obtain⟨w,env,O,S,W,h⟩:=aC;subst O;unfold jk vF at h;refine⟨w,env,rfl,S,W,(Out.ak h).mono λw1 d N U Z v T=>?_⟩;split at Z
 ·rename_i k fs e1
  obtain⟨rfl,M⟩:=Ci e1;split at Z
  ·rename_i L
   obtain⟨a,A,J,vs,z,rfl,P,I,G,y⟩:=C5 U T M;rw[hC] at P;cases P;refine⟨a,J,vs,rfl,I,KJ G (Option.isNone_iff_eq_none.mp L),?_⟩;refine ht w1 env _ U (W.le N) ((Out.ak Z).mono λF ds E D B x Y=>?_);rw[Ē];exact⟨F,.ai k::ds,rfl,D,⟨_,_,rfl,E _ _ T,Y⟩,B.ne⟩
  ·exact Z.elim
 ·exact Z.elim
def ML (hM:GM X.K c m q st ps) (F:qP X.prog X.w X.K X.mg X.base c m q st ps k fn) (hr:bC n X.A) (ho:PE X o (tE X.K Ξ fo)) (ha:PA X (e::es) (tA X.K Ξ fa)) (hk:k<=n:=by decide)
  (iC:ß (e::es) X.env=(false,ţ e X.env)::ß es X.env:=by rfl) (bU:(ũ pos (ß es X.env)).any (·.1)=false:=by rfl)
  (ht:ţ (.Call (.Attribute o m apos) (e::es) [] pos) X.env=(do
   let ov <- ţ o X.env
   abO apos.atName
   let (f,first) <- abj [ov] (getMethod ov m pl)
   callWith pos f first (ũ pos (ß (e::es) X.env)) (ac7 pos (abl [] X.env))):=by rfl) :
  PE X (.Call (.Attribute o m apos) (e::es) [] pos) (tE X.K Ξ (jk c m fn fo fa)):=by
 obtain⟨C,f,fd,Z,Y,W,G⟩:=hM;exact cb (Vb ho Y W (F G) (hr.mono hk) G.b .nil zj ha iC bU ht) fun σ H Q h=>IT Z (λV env R U T S=>⟨V,env,rfl,U,T,S⟩) h
def C6 (hM:GM X.K c m q st ps) (F:qP X.prog X.w X.K X.mg X.base c m q st ps k fn) (hr:bC n X.A) (ho:PE X o (tE X.K Ξ fo)) (hk:k<=n:=by decide)
  (ht:ţ (.Call (.Attribute o m apos) [] [] pos) X.env=(do
   let ov <- ţ o X.env
   abO apos.atName
   let (f,first) <- abj [ov] (getMethod ov m pl)
   callWith pos f first (ũ pos (ß [] X.env)) (ac7 pos (abl [] X.env))):=by rfl) :
  PE X (.Call (.Attribute o m apos) [] [] pos) (tE X.K Ξ (jk c m fn fo ah)):=by
 obtain⟨C,f,fd,Z,Y,W,G⟩:=hM;exact cb (Th ho Y W (F G) (hr.mono hk) G.b .nil zj ht) fun σ H Q h=>IT Z (λT env R V S U=>aI V (a:=([]:List D)) U _ rfl) h
def ZH {p:Pos} (hM:GK X.K X.mg c q st ps) (F:qP X.prog X.w X.K X.mg X.base c "__init__" q st ps k fn) (hr:bC n X.A) (hk:k+1<=n:=by decide) (hg:Gl X c:=by rfl) (gB:(c==("__debug__":Str))=false:=by decide) :
  PE X (.Call (.Name c p) [] [] pos) (tE X.K Ξ (zt c fn)):=by
 obtain⟨C,f,fd,R,P,M,G⟩:=hM;refine cb (Tj M (F G) (hr.mono hk) hg P G.b .nil zj gB) fun σ H Q O=>?_;obtain⟨w,env,N,S,u,h⟩:=O;subst N;intro x Z L Y ne;have W:(w.grow Z (.own x)).H x=none:=by show upd w.H Z _ x=none;rw[bu (ŕ ne)];exact L
 have V:=S.grow (o:=.own x) Y;have J:=(Fw.grow (K:=X.K) (o:=.own x) Y).le;have I:=(Fw.cell (K:=X.K) (o:=.ins C Z []) (c:=.ins c []) V W).le;have E:=V.sr (o:=.ins C Z []) (c:=.ins c []) W ⟨C,Z,[],R,cW,rfl,rfl⟩;have U:DV X.K ((w.grow Z (.own x)).cell x (.ins C Z []) (.ins c [])) (.ai w.aD.length) (.ref x):=by
  refine⟨x,?_,rfl⟩;show (w.ρ++[x])[w.aD.length]?=some x;rw[<- S.len];simp
 refine⟨_,[.ai w.aD.length],rfl,E,aq.one U,?_⟩;have D:Out X.K Ξ ((w.grow Z (.own x)).cell x (.ins C Z []) (.ins c [])) _ _:=(Out.ak h).from (J.trans I);refine D.ne.mono λt d B z T v y=>?_
 cases d with
 |ax=>exact⟨y,aI z T _ (B _ _ U)⟩
 |_=>exact T.elim
end
end DI
namespace ST
open PySem PySem.W PyProof.Rows
section
variable {α:Type} {O:Ord α} {x:Nat->α} {prog:ó} {w:Ĕ} {A:Ĉ} {E:Ç->Å->Prop} {s:Å}
def Uh {l:ä} {us:List Ç} {Q:List Ç->Å->Prop} (ht:IsTup s.heap l us.toArray) (hz:us.length<=Ø)
  (h:∀h1,s.heap.objs.size<=h1.objs.size->(∀c o,s.heap.get? c=some o->h1.get? c=some o)->Q us { s with heap:=h1 }):á (í prog w) A (collect (.ref l)) Q E s:=by
 obtain⟨o,X,W,n,V⟩:=ht;have Y:(s.heap.push (abh "list" #[] 0)).get? l=some o:=Á _ X;have Z:(s.heap.push (abh "list" #[] 0)).get? s.heap.objs.size=some (abh "list" #[] 0):=Ë _ rfl;unfold collect;refine À (wpAny_runValue (ı entry_proto_collect' ?_));show á _ _ (newList [] >>= λm=>again (.builtin "list.__iadd__" ⟨[m,.ref l],[]⟩)) _ _ s;refine À (acb (Ä ⟨ab8 _ (by decide +kernel),ı entry_list_iadd' ?_⟩))
 show á _ _ (ŭ (.ref s.heap.objs.size) (.ref l) _) _ _ { s with heap:=s.heap.push (abh "list" #[] 0) }
 unfold ŭ;refine À (abV (T:="tuple") ⟨o,Y,W⟩ ?_);rw[Þ (by rw[show (Ŗ "tuple"==Ŗ "tuple")=true from rfl];simp)];refine À (listItems_at Y V (À (listItems_at (xs:=#[]) (n:=0) Z rfl ?_)));rw[å (by simp)];refine À (listUpdate_at (xs:=#[]) (n:=0) Z rfl (Ä ?_) (ü _) (by show (#[]++us.toArray).size<=Ø+1;simp only[Array.size_append,Û,Ć];omega))
 show á (í prog w) A (load s.heap.objs.size >>= _) Q E { s with heap:=(s.heap.push (abh "list" #[] 0)).update s.heap.objs.size (Ŀ (·++us.toArray)) }
 refine À (wpAny_load (get?_update_seq Z _) ?_);show á _ _ (pure ((#[]:Array Ç)++us.toArray).toList) Q E _;rw[show ((#[]:Array Ç)++us.toArray).toList=us by simp];refine Ä (h _ ?_ λc o e=>?_)
 ·rw[Heap.size_update,size_push'];exact ł _
 ·rw[abT _ _ _ _ (à (Ó e))]
  exact Á _ e
def Q8 {l:ä} {us:List Ç} {Q:Ç->Å->Prop} (hl:IsTup s.heap l us.toArray) (hz:us.length<64)
  (hk:2<=us.length->∀h1,(∀c o,s.heap.get? c=some o->h1.get? c=some o)->v7 prog w A.in1.in1 O x us { s with heap:=h1 })
  (hQ:∀(q:Array Nat) h' b e,Pm us.length q->Up O (ky x q) us.length->(∀c o,s.heap.get? c=some o->h'.get? c=some o)->s.heap.objs.size<=b->h'.get? b=some (abh "list" (q.toList.map λi=>us.getD i Value.none).toArray e)->Q (.ref b) { s with heap:=h' }) :
  á (í prog w) A (call (.builtin "sorted") [.ref l]) Q E s:=by
 have line:us.length<=Ø:=by rw[Ÿ];omega
 refine abJ kind_sorted plain_sorted entry_sorted (args_sorted1 _) ?_;unfold Ť.«sorted»;refine À (m:=checkCount "sorted" 1 1 _) (Ä (À (Uh hl line λh1 W Y=>À (acb ?_ line))))
 show á _ _ _ _ _ { s with heap:=h1.push (abh "list" us.toArray 0) }
 have X:(h1.push (abh "list" us.toArray 0)).get? h1.objs.size=some (abh "list" us.toArray 0):=Ë _ rfl;have old:∀c o,s.heap.get? c=some o->c≠h1.objs.size/\(h1.push (abh "list" us.toArray 0)).get? c=some o:=λc o e=>⟨à (Ó (Y c o e)),Á _ (Y c o e)⟩;refine À (Ġ (Ď slot_list_sort ⟨_,X,rfl⟩ entry_list_sort (HC X hz (λz h' Z=>hk z h' λc o e=>Z c o (old c o e).1 (old c o e).2) λq h' e V U Z T=>⟨_,rfl,?_⟩) (args_list_sort _)));exact Ä ⟨_,rfl,hQ q h' _ e V U (λc o e=>Z c o (old c o e).1 (old c o e).2) W T⟩
end
end ST
namespace TK
open PySem PySem.W PyProof.Rows DI L2
def uN (ds:List D) (s:ae):Res D:=match ds with
 | [.tup Z]=>if Z.length<64 then bq (pR Z) s else none
 |_=>none
def Ui {X:Cx} {Ξ:Wd->aQ->Prop} {k:Nat} (hr:bC k X.A):cT X (.builtin "sorted") (rC X.K Ξ uN):=by
 intro n s σ H N m Q I r zzz;obtain⟨w,l,rfl,S,Y,h⟩:=zzz;unfold uN at h;split at h
 ·rename_i F
  obtain⟨v,rfl,M⟩:=lu Y;simp only[DI.DV] at M;obtain⟨a,N,rfl,E,Y⟩:=M;split at h
  ·rename_i j
   obtain⟨g,e2,h⟩:=ff h;obtain⟨u,rfl,D⟩:=vals1 r;cases D;obtain⟨its,W,C,B⟩:=I.tuple E;have R:its.length=F.length:=W.length.symm.trans Y.length.symm;have V:=e2;unfold pR at V;split at V
   ·rename_i Z
    obtain⟨U,z⟩:=Z;clear V;subst z;rw[yr] at e2;cases e2;have L:U.length=its.length:=by rw[R,Â]
    refine ST.Q8 (O:=cP) (x:=λi=>U.getD i (.cC 0 0 0)) C (by omega) (λy f P=>JF (fx.keep (λb o T _ _=>P b o T) _ _ (yR I _ _ _ (KD U) Y W)) y (by have:=hr.un;show X.A.units+1+1+100<acg;have:acg=9900:=rfl;omega) _) λq c b e Z J P T t=>?_;have G:∀i∈q.toList,i<(U.map Pg.d).length:=λi hi=>by rw[<- R];exact ë.mp (Z.2.mem_iff.mp hi)
    rw[<- L] at Z J;have p:=I.aE.fresh T;refine⟨.ref b,_,I.laid (o:=.lst (q.toList.map λi=>N.getD i .ax)) (t':=s.toks) P T ⟨?_,_,e,IQ W (by rw[R];exact G),t⟩,rfl,?_⟩
    ·rw[Â,Ą,Z.1,L,W.length.symm];exact B
    ·refine vV S ?_ h b p
     rw[<- JC Z J];exact JB Y G
   ·cases V
  ·exact h.elim
 ·exact h.elim
end TK
namespace DI
open PySem L2
def zT (ds:List D) (s:ae):Res D:=match ds with
 | [.lst Z]=>(match lL Z with
  |some Y=>ok (.int Y.sum) s
  |none=>none)
 |_=>none
def Sg {K:ĥ} {w:Wd} {ns:List Int}:∀{vs:List V} {us:List Ç},aq K w (ns.map D.int) vs->Vals vs us->∃xs:List (Int×Tok),us=xs.map (λp=>.int p.1 p.2)/\xs.map (·.1)=ns:=by
 induction ns with
 |nil =>
  intro vs us h r;have e:vs=[]:=h;subst e;cases r;exact⟨[],rfl,rfl⟩
 |cons n ns ih =>
  intro vs us h r;obtain⟨v,W,rfl,Z,h⟩:=h;have e:v=.int n:=Z;subst e
  cases r with
  |cons Y X =>
   obtain⟨t,rfl⟩:=Y;obtain⟨xs,rfl,rfl⟩:=ih h X;exact⟨(n,t)::xs,rfl,rfl⟩
def ZI {X:Cx} {Ξ:Wd->aQ->Prop} (hc:X.calm=true):cT X (.builtin "sum") (rC X.K Ξ zT):=by
 intro L s σ H xs Y Q I r zzz;obtain⟨w,J,rfl,S,W,h⟩:=zzz;unfold zT at h;split at h
 ·rename_i G
  obtain⟨v,rfl,Z⟩:=lu W;split at h
  ·rename_i F e
   have e:=yo e;subst e;simp only[DV] at Z;obtain⟨l,all,rfl,V,U⟩:=Z;obtain⟨u,rfl,T⟩:∃u,Y=[u]/\RelV (.ref l) u:=by
    cases r with
    |cons R P=>cases P;exact⟨_,rfl,R⟩
   have e:u=Ł l:=T;subst e;obtain⟨its,rv,O,E⟩:=I.list V.sq;obtain⟨xs,rfl,rfl⟩:=Sg U rv;refine sum_intListG (xs:=xs.toArray) (I.ok.hd hc) (by have:=O.isList;unfold intItems;rw[List.map_toArray];exact this) λD C N M=>⟨.int (xs.map (λp:Int×Tok=>p.1)).sum,w.H,I.kept M,⟨N,?_⟩,aI S h _ rfl⟩;rw[preSum_eq,acm (by simp)]
  ·exact h.elim
 ·exact h.elim
mutual
noncomputable def deep (s:ae):D->D
 | .tup Z=>.tup (fC s Z)
 | .lst Z=>.lst (fC s Z)
 | .ai k=>res (.ai k) s
 | .ax=>.ax
 | .bl b=>.bl b
 | .int i=>.int i
 | .str x=>.str x
 | .bA Y=>.bA Y
 | .ty n=>.ty n
 | .bV X=>.bV X
 | .exc c m=>.exc c m
 | .cN a W Z=>.cN a W Z
noncomputable def fC (s:ae):List D->List D
 | []=>[]
 |d::Z=>deep s d::fC s Z
end
mutual
theorem DV.deep (S:aL K w):∀{d:D} {v:V},DV K w d v->plain (DI.deep w.aD d)=true->L2.DV K (λ_=>False) w.H (DI.py (DI.deep w.aD d)) v
 | .tup X,v,h,p=>by
  simp only[DV] at h;obtain⟨a,Z,e,Y,r⟩:=h;simp only[DI.deep,DI.py,L2.DV];exact⟨a,Z,e,Y,aq.deep S r (by simpa only [DI.deep,plain] using p)⟩
 | .lst X,v,h,p=>by
  simp only[DV] at h;obtain⟨a,Z,e,Y,r⟩:=h;simp only[DI.deep,DI.py,L2.DV];exact⟨a,Z,e,not_false,Y.2,aq.deep S r (by simpa only [DI.deep,plain] using p)⟩
 | .ai _,_,h,p=>DV.res S h p
 | .ax,_,h,_=>h
 | .bl _,_,h,_=>h
 | .int _,_,h,_=>h
 | .str _,_,h,_=>h
 | .bA _,_,h,p=>DV.py h p
 | .ty _,_,_,p=>by cases p
 | .bV _,_,_,p=>by cases p
 | .exc _ _,_,_,p=>by cases p
 | .cN _ _ _,_,_,p=>by cases p
theorem aq.deep (S:aL K w):∀{ds:List D} {vs:List V},aq K w ds vs->iJ (DI.fC w.aD ds)=true->L2.aq K (λ_=>False) w.H (DI.bW (DI.fC w.aD ds)) vs
 | [],_,h,_=>h
 |d::ds,vs,h,p=>by
  simp only[aq] at h;obtain⟨v,r,e,Z,Y⟩:=h;simp only[DI.fC,iJ,È] at p;exact⟨v,r,e,DV.deep S Z p.1,aq.deep S Y p.2⟩
end
def lB (ds:List D) (s:ae):Res D:=match ds with
 | [.tup Z]=>if sW (.tup (fC s Z))=true then ok (.str (py (.tup (fC s Z))).shown) s else none
 |_=>none
def rS (hr:bC k X.A):cT X (.builtin "repr") (rC X.K Ξ lB):=by
 intro Y s σ H N W Q I r zzz;obtain⟨w,M,rfl,S,V,h⟩:=zzz;unfold lB at h;split at h
 ·rename_i d
  obtain⟨v,rfl,U⟩:=lu V;split at h
  ·rename_i Z
   simp only[sW,È,Í] at Z;obtain⟨⟨⟨T,R⟩,P⟩,O⟩:=Z;exact Q7 hr Y s σ w.H _ W Q I r ⟨v,_,_,rfl,DV.deep S U T,R,P,O,aI S h _ rfl⟩
  ·exact h.elim
 ·exact h.elim
end DI
namespace HZ
open PySem PySem.Spec PyProof.Rows
open AutoSeq1 (wpAny_loadPart')
section
variable {P:ó} {w:Ĕ} {A:Ĉ} {E:Ç->Å->Prop} {s:Å}
def Si (l:ä) (items:Array Ç) (n:Nat) (bA:Option ä) (sl:Array (Option Ç)) :
  Meets (Ť.«enumerate.__new__» ⟨[.type "enumerate",.ref l],[]⟩) (λ_ R s=>s.heap.get? l=some { cls:=.type "list",dict:=bA,data:=.seq items n,slots:=sl } /\
   R (.ok (.ret (.ref (s.heap.push { cls:=.type "list_iterator",data:=.fields #[.ref l,.int 0 0] }).objs.size)))
    { s with heap:=(s.heap.push { cls:=.type "list_iterator",data:=.fields #[.ref l,.int 0 0] }).push { cls:=.type "enumerate",data:=.fields #[.none,.bool false,.ref s.heap.objs.size,Ś 0,.none,.none] } }) :=
 .of_wp λprog w A R s h=>by
  obtain⟨X,W,V,U,T⟩:=s;obtain⟨Z,h⟩:=h;have ss:=sub_enumerate;have Y:Heap.IsList (Shared.heap ⟨X,W,V,U,T⟩) l items:=⟨_,Z,rfl,n,rfl⟩
  wp_walk using abq Z
  refine wpAny_stack_any λst=>Ä ?_;split
  ·rename_i c _ _ _ _ _
   cases (c==Ŗ "enumerate")
   ·wp_walk using abq Z,Ō Y
    exact⟨_,rfl,h⟩
   ·wp_walk using abq Z,Ō Y
    exact⟨_,rfl,h⟩
  ·wp_walk using abq Z,Ō Y
   exact⟨_,rfl,h⟩
def O7 (hL:s.heap.IsList l items)
 (h:∀h',IsEnum h' (s.heap.objs.size+1) s.heap.objs.size 0 .none->h'.IsListIter s.heap.objs.size l 0->h'.objs.size=s.heap.objs.size+2 ->
 (∀b o,s.heap.get? b=some o->h'.get? b=some o)->Q (.ref (s.heap.objs.size+1)) { s with heap:=h' }) :
  á (í P w) A (call (.type "enumerate") [.ref l]) Q E s:=by
 obtain⟨⟨c,V,U,T⟩,S,Z,n,Y⟩:=hL
 replace Z:c=.type "list":=Z
 replace Y:U=.seq items n:=Y
 subst Z Y;refine callType_new F.called_enumerate (by decide) (F.typeCall_enumerate_1 _) (F.newCall_enumerate_1 _) (λobj=>F.args_object_init_2 obj _) F.entry_enumerate_new
  (Si l items n V T) ⟨S,?_⟩
 have W:(s.heap.push { cls:=.type "list_iterator",data:=.fields #[.ref l,.int 0 0] }).objs.size=s.heap.objs.size+1:=û ..;have X:=Ë (s.heap.push { cls:=.type "list_iterator",data:=.fields #[.ref l,.int 0 0] })
   (o:={ cls:=.type "enumerate",data:=.fields #[.none,.bool false,.ref s.heap.objs.size,Ś 0,.none,.none] }) rfl
 show _/\_;rw[W] at X |-;exact⟨⟨_,X,rfl⟩,h _ X ⟨_,Á _ (Ë _ rfl),rfl,rfl⟩ (by rw[û,W]) λb o x=>Á _ (Á _ x)⟩
end
end HZ
namespace L2
open PySem PySem.Spec PyProof.Rows
def E6 (K:ĥ) (a:ä):It :=
 ⟨λi H=>∃Z x,bh K H a Z/\Z[i]?=some x,λi H v Y=>∃p x,H p=none/\v=.ref p/\Y=upd H p (.tup [.int i,x])/\∀Z,bh K H a Z->Z[i]?=some x,λi H=>∃Z,bh K H a Z/\Z.length<=i⟩
def Q9 {P:ó} {w:Ĕ} {K:ĥ} {elts:List ľ} {kk:Nat} {pos:Pos} (a e it:ä) (bK:it≠e) :
  Turn P w K (.Tuple elts kk pos) (E6 K a) [e,it] e (λi h=>(∃old,IsEnum h e it i old)/\h.IsListIter it a i) where
 mem:=by simp
 obj:=λi h st c Y=>by
  have U:c=e\/c=it:=by simpa using Y
  rcases U with rfl|rfl
  ·obtain⟨old,q⟩:=st.1;exact⟨_,q,λv q=>nomatch q⟩
  ·obtain⟨o,e,_,d⟩:=st.2;exact⟨o,e,λv q=>by rw[d] at q;cases q⟩
 keep:=λi h F st k=>⟨by obtain⟨old,q⟩:=st.1;exact⟨old,k e (by simp) _ q⟩,st.2.at λo q=>k it (by simp) o q⟩
 item:=by
  intro X T hw S Y i D s σ H E I W st R;subst T hw S;obtain⟨t,x,V,ex⟩:=R;obtain⟨O,N,M,r⟩:=I.list V;obtain⟨u,p,n⟩:=N.get ex;have L:X.A.in1.handled=none:=I.ok.hd Y;obtain⟨old,Z⟩:=st.1;refine HZ.RV (HZ.B4 L it a O.toArray) Z ⟨st.2,M.isList⟩ (by simpa using p) bK (Lw I V (W e (by simp))) λF m l j c4 f=>⟨_,rfl,?_⟩;refine wpAny_letOwnedTupleGo_enum m λC b J=>?_;have hn:H s.heap.objs.size=none:=I.aE.fresh (adv _);have B:e<s.heap.objs.size:=Ó Z;have qa:IsTup C s.heap.objs.size #[.int i s.toks,u]:=⟨_,J.extBut _ _ (ĸ B) j,rfl,_,rfl⟩
  have I2:Inv X D σ (upd H s.heap.objs.size (.tup [.int i,x])) { s with heap:=C,toks:=s.toks+1 }:=I.ID (ch:=[e,it]) (λc o G q=>by
   have z:c≠e/\c≠it:=by simpa using G
   exact J.extBut c o z.1 (f c o z.1 z.2 q)) W (adv _) ⟨by show 2<=Ø;decide,[.int i s.toks,u],.cons ⟨_,rfl⟩ (.cons n .nil),qa⟩
  refine⟨.ref s.heap.objs.size,_,I2,rfl,⟨_,x,hn,rfl,rfl,λxs' q1=>?_⟩,?_,λc y=>?_⟩
  ·rw[I.Bo q1 V];exact ex
  ·exact⟨⟨_,b⟩,l.1.extBut J.extBut bK⟩
  ·rw[bu]
   ·exact(W c y).1
   ·intro z
    have U:c=e\/c=it:=by simpa using y
    have:c<s.heap.objs.size:=by
     rcases U with q|q
     ·rw[q];exact B
     ·rw[q];obtain⟨o,g,_⟩:=st.2;exact Ó g
    rw[z] at this;exact ú _ this
 done:=by
  intro X T hw S Y i D s σ H E I W st R;subst T hw S;obtain⟨t,V,hle⟩:=R;obtain⟨O,N,M,r⟩:=I.list V;have L:X.A.in1.handled=none:=I.ok.hd Y;have l1:=N.length;obtain⟨old,Z⟩:=st.1;refine HZ.TN (HZ.B4 L it a O.toArray) Z ⟨st.2,M.isList⟩ (by simp;omega) λF c7=>⟨rfl,I.Bc (t':=s.toks) (ch:=[e,it]) (λc o G q=>by
   have z:c≠e/\c≠it:=by simpa using G
   exact c7 c o z.2 q) W⟩
 self:=λA i s Q E st h=>by
  obtain⟨old,Z⟩:=st.1;exact wpAny_pyIter_enum Z h
section
variable {X:Cx} {elts:List ľ} {kk:Nat} {tp:Pos}
def aa1 (K:ĥ) (ta:TA):TI:=fun σ H R=>ta σ H λY Z=>∃a X,Y=[.ref a]/\bh K Z a X/\R (E6 K a) Z
def Uj {a:ľ} {ta:TA} {p pos:Pos} (hg:Gl X "enumerate") (hm:X.mg "enumerate"=none) (ha:PA X [a] ta) (hs:ß [a] X.env=[(false,ţ a X.env)]:=by rfl) :
  PI X (.Tuple elts kk tp) (.Call (.Name "enumerate" p) [a] [] pos) (aa1 X.K ta):=by
 intro U s σ H R I h;refine Call_ (lj I hg hm RW (Ĺ (aJ (ha pos U s σ H _ I h) λE Z ⟨D,T,Y,S,Q⟩=>?_) hs rfl));obtain⟨a,C,e,P,q⟩:=Q;subst e;obtain⟨u,rfl,O⟩:=vals1 S;cases O;obtain⟨N,_,M,_⟩:=Y.list P;refine HZ.O7 (items:=N.toArray) M.isList λL W J B G=>?_
 refine wpAny_pyIter_enum (s:={ Z with heap:=L }) W ?_
 refine⟨_,[Z.heap.objs.size+1,Z.heap.objs.size],_,_,T,rfl,Y.kept (t':=Z.toks) G,Q9 a _ _ (à (ĉ _)),⟨⟨_,W⟩,J⟩,λb F=>?_,q⟩;have V:Z.heap.objs.size<=b:=by
  have z:b=Z.heap.objs.size+1\/b=Z.heap.objs.size:=by simpa using F
  rcases z with z|z
  ·rw[z];exact ł _
  ·rw[z];exact adv _
 exact Y.oh V (Y.aE.fresh V)
end
end L2
namespace DI
open PySem L2
def Sj (h:DV K w (.lst ds) (.ref a)):nv K w (E6 K a) (mP ds):=λJ S R i=>by
 have V:=S _ _ h;simp only[DV] at V;obtain⟨p,Y,e,X,U⟩:=V;cases e;refine⟨λd Z=>?_,λQ=>⟨Y,X.sq,by rw[<- U.length];simpa [mP] using Q⟩⟩;unfold mP at Z;rw[è,List.getElem?_zipIdx] at Z
 cases W:ds[i]? with
 |none=>rw[W] at Z;cases Z
 |some x =>
  rw[W] at Z;have Z:D.tup [.int ((0+i:Nat):Int),x]=d:=adw Z;rw[Nat.zero_add] at Z;subst Z;obtain⟨v,ev,P⟩:=U.get' i x W;refine⟨⟨Y,v,X.sq,ev⟩,λz I ⟨r,H,O,N,M,L⟩=>?_⟩;have T:=L Y X.sq;rw[ev] at T;cases T;subst N M;exact IM R O rfl P
section
variable {X:Cx} {Ξ:Wd->aQ->Prop} {a:ľ} {pos:Pos} {fa:adq (List D)}
def C7 (fa:adq (List D)):adq (List D):=λenv s=>ak (fa env s) λZ s=>match Z with
 | [.lst Y]=>ok (mP Y) s
 |_=>none
def VX (hg:Gl X "enumerate") (hm:X.mg "enumerate"=none) (ha:PA X [a] (tA X.K Ξ fa)) (hs:ß [a] X.env=[(false,ţ a X.env)]:=by rfl) :
  PI X (.Tuple elts kk zB) (.Call (.Name "enumerate" p) [a] [] pos) (dD X.K Ξ (C7 fa)) :=
 pE (Uj hg hm ha hs) fun σ H R V=>by
  obtain⟨w,env,U,S,T,h⟩:=V;subst U;refine⟨w,env,rfl,S,T,(Out.ak h).mono λJ I G Q Z F P=>?_⟩;split at Z
  ·obtain⟨v,r,rfl,Y,O⟩:=P
   have N:r=[]:=O;subst N;have W:=Y;simp only[DV] at W;obtain⟨p,M,rfl,L,_⟩:=W;exact⟨p,M,rfl,L.sq,aI Q Z _ (Sj Y)⟩
  ·exact Z.elim
end
end DI
namespace DI.aK
open PySem L2 DI
noncomputable section
def yu:List D->ae->Res D:=aN 2 3 (ay (aZ (aw uu (af (aa 0) (af (aa 1) ah))) (gN 2)) (ay (bE (aY (e2 vW (aa 2) (e2 vA (eC (.int 10)) (eC (.int 18))))) (aM (eNew (af (e2 su (aa 2) (e2 vA (eC (.int 10)) (eC (.int 18)))) (af (eC (.bl true)) ah)))) bM) (aM (eNew (af (e2 ku (aa 2) (eC (.int 2147483647))) (af (eC (.bl false)) ah))))))
def xW:List D->ae->Res D:=aN 1 1 (ay (bE (aY (e2 mW (aa 0) (eC (.int (479999))))) nu bM) (aM (cg (af (e2 pQ (aa 0) (eC (.int (480)))) (af (e2 ku (e2 pQ (aa 0) (eC (.int (24)))) (eC (.int (20)))) (af (e2 ku (aa 0) (eC (.int (24)))) ah))))))
def xX:List D->ae->Res D:=aN 1 4 (ay (bE (ie (fm (cx (eB fR (af (aa 0) (af (eC (.ty "tuple")) ah))))) (aY (e2 dB (eB bN (af (aa 0) ah)) (eC (.int 3))))) (aM (eC (.bl false))) bM) (ay (aZ (aa 0) (gT [(gN 1),(gN 2),(gN 3)])) (aM (cH (aw mv (af (aa 1) (af (eC (.int (1000))) ah))) (cH (aw mv (af (aa 2) (af (eC (.int (20))) ah))) (aw mv (af (aa 3) (af (eC (.int (24))) ah))))))))
def xE:List D->ae->Res D:=aN 1 1 (aM (cH (eB fR (af (aa 0) (af (eC (.ty "list")) ah))) (cH (e2 ot (eB bN (af (aa 0) ah)) (eC (.int (20)))) (eB mY (af (r9 1 [] (sG (aa 0)) (gN 0) cy (aw xX (af (aa 0) ah))) ah)))))
def xS:List D->ae->Res D:=aN 1 4 (ay (aZ (aa 0) (gT [(gN 1),(gN 2),(gN 3)])) (aM (e2 bX (e2 bX (e2 fO (aa 1) (eC (.int (480)))) (e2 fO (aa 2) (eC (.int (24))))) (aa 3))))
def uF:List D->ae->Res D:=aN 1 1 (ay (bE (fm (cx (aw xE (af (aa 0) ah)))) nu bM) (aM (aw xW (af (eB zT (af (r9 1 [] (sG (aa 0)) (gN 0) cy (aw xS (af (aa 0) ah))) ah)) ah))))
def nK:List D->ae->Res D:=aN 1 1 (bE (fm (cx (aw xq (af (aa 0) (af (eC (.int (9))) ah))))) nu bM)
def xF:List D->ae->Res D:=aN 3 4 (ay (aZ (e2 ar (aa 0) (aa 2)) (gN 3)) (aM (sQ (eB ou (af (cE 1 [3,0] (cZ (aa 1)) (gN 0) cy (l9 (aw rA (af (aa 1) (af (e2 ar (aa 2) (aa 0)) ah))) (aw rA (af (e2 ar (aa 2) (aa 0)) (af (aa 1) ah))))) ah)))))
def ml:List D->ae->Res D:=aN 1 3 (ay (aZ (eY (af (cg ah) ah)) (gN 1)) (ay (fW (cV (af (eB bN (af (aa 0) ah)) ah)) (gN 2) (aZ (e2 bX (aa 1) (cE 1 [2,0] (cZ (aa 1)) (gN 0) (cx (aw xF (af (aa 2) (af (aa 0) (af (aa 1) ah))))) (e2 bX (aa 0) (cg (af (aa 1) ah))))) (gN 1))) (aM (e1 CZ (aa 1)))))
def rH:List D->ae->Res D:=aN 1 2 (ay (cB (aw nK (af (aa 0) ah))) (ay (bE (aY (e2 bH (eB bN (af (aa 0) ah)) (eC (.int 1)))) (aM (eNew ah)) bM) (ay (aZ (eB bN (af (aw ml (af (aa 0) ah)) ah)) (gN 1)) (aM (u5 1 [1,0] (cV (af (eB bN (af (aa 0) ah)) ah)) (gN 0) (aY (e2 jY (eB bN (af (aw ml (af (e2 bX (i9 (aa 2) i8 (iT (aa 0))) (i9 (aa 2) (iT (e2 bX (aa 0) (eC (.int 1)))) i8)) ah)) ah)) (aa 1))) (aa 0))))))
def xG:List D->ae->Res D:=aN 1 1 (bE (fm (cx (aw rp (af (aa 0) ah)))) nu bM)
def uj:List D->ae->Res D:=aN 1 3 (ay (aZ (eNew ah) (gN 1)) (ay (fW (cV (af (eB bN (af (aa 0) ah)) ah)) (gN 2) (bE (ei (cx (e2 ar (aa 0) (aa 2))) (ei (aY (e2 mW (aa 2) (eC (.int 0)))) (cx (e2 ar (aa 0) (e2 su (aa 2) (eC (.int 1))))))) (ow (cg (af (e2 ar (e2 ar (aa 1) (e1 iq (eC (.int 1)))) (eC (.int 0))) (af (aa 2) ah))) (aa 1) (e1 iq (eC (.int 1)))) (bE (cx (e2 ar (aa 0) (aa 2))) (cB (gr (aa 1) (cg (af (aa 2) (af (aa 2) ah))))) bM))) (aM (oo (aa 1)))))
def uO:List D->ae->Res D:=aN 2 2 (aM (cH (aw rf (af (e2 ar (aa 0) (eC (.int (0)))) (af (e2 ar (aa 1) (eC (.int (1)))) ah))) (aw rf (af (e2 ar (aa 0) (eC (.int (1)))) (af (e2 ar (aa 1) (eC (.int (0)))) ah)))))
def uq:List D->ae->Res D:=aN 2 2 (ay (cB (aw xR (af (aa 0) ah))) (ay (cB (aw xG (af (aa 1) ah))) (aM (KH 3 [1,0] (cV (af (eC (.int (4))) ah)) (gN 0) cy (cZ (aw uj (af (cE 1 [3] (cZ (aw ua (af (aa 4) (af (aa 0) ah)))) (gN 0) cy (aw uO (af (aa 1) (af (aa 0) ah)))) ah))) (gT [gN 1,gN 2]) cy (cg (af (aa 0) (af (aa 1) (af (aa 2) ah))))))))
def uG:List D->ae->Res D:=aN 1 1 (ay (cB (aw nK (af (aa 0) ah))) (aM (eB bN (af (aw ml (af (aa 0) ah)) ah))))
def xH:List D->ae->Res D:=aN 3 3 (aM (cH (aw rA (af (e2 ar (aa 0) (aa 2)) (af (e2 ar (aa 0) (aa 1)) ah))) (l9 (e2 dB (e2 ar (aa 0) (aa 2)) (e2 ar (aa 0) (aa 1))) (e2 jY (aa 1) (aa 2)))))
def ue:Nat->List D->ae->Res D
 |0=>λ_ _=>none
 |n+1=>aN 4 5 (ay (fW (cV (af (eB bN (af (aa 0) ah)) ah)) (gN 4) (bE (ei (aY (e2 my (aa 4) (aa 3))) (cx (aw xH (af (aa 0) (af (aa 1) (af (aa 4) ah)))))) (ay (v8 (eC (.bl true)) (aa 3) (aa 4)) (bE (ie (aY (e2 my (aa 4) (aa 2))) (cx (aw (ue n) (af (aa 0) (af (e2 pT (aa 2) (aa 4)) (af (aa 2) (af (aa 3) ah))))))) (ay (v8 (aa 1) (aa 2) (aa 4)) (aM (eC (.bl true)))) bM)) bM)) (aM (eC (.bl false))))
def xu:List D->ae->Res D:=aN 1 3 (ay (aZ vE (gN 1)) (ay (fW (cV (af (eB bN (af (aa 0) ah)) ah)) (gN 2) (cB (aw (ue 12) (af (aa 0) (af (aa 2) (af (aa 1) (af vE ah))))))) (aM (aa 1))))
def xY:List D->ae->Res D:=aN 2 3 (ay (aZ (eNew (af (aa 0) ah)) (gN 2)) (ay (zJ 20 (aY (e2 sE (e2 ar (aa 2) (e1 iq (eC (.int 1)))) (aa 1))) (cB (gr (aa 2) (e2 pT (aa 1) (e2 ar (aa 2) (e1 iq (eC (.int 1)))))))) (aM (eB eU (af (aa 2) ah)))))
def uA:List D->ae->Res D:=aN 1 3 (ay (cB (aw nK (af (aa 0) ah))) (ay (aZ (aw xu (af (aa 0) ah)) (gN 1)) (ay (aZ (DQ (aa 1)) (gN 2)) (aM (eB eU (af (cE 1 [2,1] (cV (af (eB bN (af (aa 0) ah)) ah)) (gN 0) (aY (e2 my (aa 0) (aa 2))) (aw xY (af (aa 0) (af (aa 1) ah)))) ah))))))
def t9:List D->ae->Res D:=aN 1 1 (ay (cB (aw nK (af (aa 0) ah))) (aM (aw ml (af (aa 0) ah))))
def xI:List D->ae->Res D:=aN 1 1 (bE (fm (cx (aw mr (af (aa 0) ah)))) nu bM)
def uB:List D->ae->Res D:=aN 2 2 (ay (cB (aw nK (af (aa 0) ah))) (ay (cB (aw xI (af (aa 1) ah))) (aM (e2 su (eB bN (af (aw ml (af (e2 bX (aa 0) (cg (af (aa 1) ah))) ah)) ah)) (eB bN (af (aw ml (af (aa 0) ah)) ah))))))
def sd:List D->ae->Res D:=aN 4 7 (ay (aZ (e2 bX (cE 1 [] (cZ (aa 0)) (gN 0) cy (aw rH (af (aa 0) ah))) (eY (af (aw uq (af (aa 2) (af (aa 3) ah))) (af (aw uq (af (aa 2) (af (cg (af (cg ah) (af (cg ah) ah))) ah))) ah)))) (gN 4)) (ay (aZ (eY (af (aw uF (af (aa 1) ah)) ah)) (gN 5)) (ay (fW (cZ (aa 0)) (gN 6) (aZ (e2 bX (aa 5) (eY (af (aw uG (af (aa 6) ah)) (af (aw uA (af (aa 6) ah)) (af (aw t9 (af (aa 6) ah)) (af (aw uB (af (aa 6) (af (e2 ar (aa 3) (eC (.int 0))) ah))) ah)))))) (gN 5))) (aM (cg (af (aa 4) (af (aa 5) ah)))))))
def eR:List D->ae->Res D:=aN 2 4 (ay (bE (cx (e2 ar (aa 0) (eC (.int 1)))) (ay (aZ (e2 ku (e2 ar (aa 0) (eC (.int 0))) (aa 1)) (gN 2)) (ay (ow (e2 pQ (e2 ar (aa 0) (eC (.int 0))) (aa 1)) (aa 0) (eC (.int 0))) (aM (aa 2)))) bM) (ay (ow (e2 ku (e2 bX (e2 fO (e2 ar (aa 0) (eC (.int 0))) (eC (.int 48271))) (eC (.int 29))) (eC (.int 2147483647))) (aa 0) (eC (.int 0))) (ay (aZ (e2 ku (e2 bX (e2 bX (e2 fO (e2 ar (aa 0) (eC (.int 0))) (e2 ar (aa 0) (eC (.int 0)))) (e2 fO (eC (.int 39373)) (e2 ar (aa 0) (eC (.int 0))))) (eC (.int 7))) (eC (.int 2147483629))) (gN 3)) (ay (aZ (e2 ku (e2 bX (e2 fO (aa 3) (aa 3)) (e2 fO (eC (.int 16807)) (aa 3))) (eC (.int 2147483587))) (gN 3)) (aM (e2 ku (e2 pQ (aa 3) (eC (.int 8))) (aa 1)))))))
def uH:List D->ae->Res D:=aN 1 4 (ay (aZ (e2 ar (eY (af (eC (.int 2)) (af (eC (.int 4)) (af (eC (.int 8)) ah)))) (aw eR (af (aa 0) (af (eC (.int 3)) ah)))) (gN 1)) (ay (aZ (cE 1 [0] (cV (af (aa 1) ah)) (gN 0) cy (aw eR (af (aa 1) (af (eC (.int 3)) ah)))) (gN 2)) (ay (aZ (eB eU (af (cE 1 [2] (cV (af (aa 1) ah)) (gN 0) (aY (e2 bH (e2 ar (aa 1) (aa 0)) (eC (.int 1)))) (aa 0)) ah)) (gN 3)) (aM (cg (af (aa 3) (af (eB eU (af (cE 1 [2] (cV (af (aa 1) ah)) (gN 0) (aY (e2 bH (e2 ar (aa 1) (aa 0)) (eC (.int 2)))) (aa 0)) ah)) ah)))))))
def yF:List D->ae->Res D:=aN 2 4 (ay (ox 2 3 (af (e2 ar (eY (af (eC (.int 0)) (af (aw eR (af (aa 0) (af (eC (.int 4)) ah))) ah))) (aw eR (af (aa 0) (af (eC (.int 2)) ah)))) (af (aw eR (af (aa 0) (af (aa 1) ah))) ah))) (ay (bE (aY (e2 bH (aw eR (af (aa 0) (af (eC (.int 3)) ah))) (eC (.int 0)))) (aM (cg (af (eC (.str "mended")) (af (aa 2) (af (aa 3) (af (aw eR (af (aa 0) (af (e2 ar (eY (af (eC (.int 2)) (af (eC (.int 4)) (af (eC (.int 8)) ah)))) (aw eR (af (aa 0) (af (eC (.int 3)) ah)))) ah))) ah)))))) bM) (aM (cg (af (eC (.str "made")) (af (aa 2) (af (aa 3) (af (aw uH (af (aa 0) ah)) ah))))))))
def AM:adq Fl:=(ay (bE (ei (aY (e2 bH (e2 ar (aa 6) (eC (.int 0))) (eC (.str "mended")))) (ei (aY (e2 bH (e2 ar (aa 6) (eC (.int 1))) (aa 1))) (aY (e2 bH (e2 ar (aa 6) (eC (.int 3))) (aa 2))))) (cB (gr (aa 5) (e2 ar (aa 6) (eC (.int 2))))) bM) (bE (ei (aY (e2 bH (e2 ar (aa 6) (eC (.int 0))) (eC (.str "made")))) (aY (e2 bH (e2 ar (aa 6) (eC (.int 1))) (aa 1)))) (ay (aZ (e2 bX (aa 3) (e2 fO (eY (af (e2 ar (aa 6) (eC (.int 2))) ah)) (eB sX (af (e2 di (aa 2) (e2 ar (e2 ar (aa 6) (eC (.int 3))) (eC (.int 0)))) ah)))) (gN 3)) (aZ (e2 bX (aa 4) (e2 fO (eY (af (e2 ar (aa 6) (eC (.int 2))) ah)) (eB sX (af (e2 di (aa 2) (e2 ar (e2 ar (aa 6) (eC (.int 3))) (eC (.int 1)))) ah)))) (gN 4))) bM))
def AN:adq Fl:=(ay (bE (ei (aY (e2 di (aa 8) (aa 5))) (aY (e2 di (aa 8) (aa 3)))) (aM (eC (.bl false))) bM) (ay (aZ (l9 (e2 di (aa 8) (aa 3)) (cH (aa 7) (e2 gX (aa 8) (aa 5)))) (gN 7)) (bE (ei (cx (aa 7)) (aY (e2 di (aa 8) (aa 4)))) (aM (eC (.bl false))) bM)))
def xw:List D->ae->Res D:=aN 3 9 (ay (sV 3 4 5 (af (eY ah) (af (eY ah) (af (eNew ah) ah)))) (ay (fW (cZ (aa 0)) (gN 6) AM) (ay (aZ (eC (.bl false)) (gN 7)) (ay (fW (cV (af (eC (.int 31)) ah)) (gN 8) AN) (aM (eC (.bl true)))))))
def HQ:adq Fl:=(bE (fm (cx (aw xw (af (aa 0) (af (aa 1) (af (aa 2) ah)))))) (aM (eC (.bl false))) bM)
def HR:adq Fl:=(fW (cV (af (eC (.int 8)) ah)) (gN 2) HQ)
def xZ:List D->ae->Res D:=aN 1 3 (ay (bE (aY (e2 mW (eB bN (af (aa 0) ah)) (eC (.int 24)))) (aM (eC (.bl false))) bM) (ay (fW (cV (af (eC (.int 4)) ah)) (gN 1) HR) (aM (eC (.bl true)))))
def JH:adq Fl:=(ay (aZ (aw yF (af (aa 0) (af (aa 3) ah))) (gN 5)) (bE (ei (aY (e2 gX (aa 5) (aa 2))) (cx (aw xZ (af (e2 bX (aa 2) (eY (af (aa 5) ah))) ah)))) (cB (gr (aa 2) (aa 5))) bM))
def yG:List D->ae->Res D:=aN 2 6 (ay (ox 2 3 (af (eNew ah) (af (e2 ar (eY (af (eC (.int 31)) (af (eC (.int 6)) (af (eC (.int 12)) ah)))) (aw eR (af (aa 0) (af (eC (.int 3)) ah)))) ah))) (ay (fW (cV (af (aa 1) ah)) (gN 4) JH) (aM (eB eU (af (eB TK.ve (af (aa 2) ah)) ah)))))
def yv:List D->ae->Res D:=aN 2 2 (aM (eB eU (af (cE 1 [0] (cV (af (aa 1) ah)) (gN 0) (aY (e2 bH (aw eR (af (aa 1) (af (eC (.int 2)) ah))) (eC (.int 1)))) (aa 0)) ah)))
def uP:List D->ae->Res D:=aN 2 8 (ay (ox 2 3 (af (e2 bX (eC (.int 1)) (aw eR (af (aa 0) (af (aa 1) ah)))) (af (aw eR (af (aa 0) (af (eC (.int 4)) ah))) ah))) (ay (aZ (eNew ah) (gN 4)) (ay (fW (cV (af (aa 2) ah)) (gN 5) (ay (aZ (aw yv (af (aa 0) (af (e2 ar (eY (af (eC (.int 2)) (af (eC (.int 3)) (af (eC (.int 4)) (af (eC (.int 8)) ah))))) (aa 3)) ah))) (gN 6)) (ay (bE (ei (aY (e2 dB (aa 4) (eY ah))) (aY (e2 bH (aw eR (af (aa 0) (af (eC (.int 4)) ah))) (eC (.int 0))))) (ay (aZ (e2 ar (aa 4) (aw eR (af (aa 0) (af (eB bN (af (aa 4) ah)) ah)))) (gN 7)) (aZ (Al (aY (e2 bH (aw eR (af (aa 0) (af (eC (.int 2)) ah))) (eC (.int 0)))) (eB eU (af (e1 uE (e2 bX (aa 7) (aa 6))) ah)) (aa 7)) (gN 6))) bM) (cB (gr (aa 4) (aa 6)))))) (aM (eB eU (af (aa 4) ah))))))
def yi:List D->ae->Res D:=aN 1 3 (ay (fW (C7 (af (aa 0) ah)) (gT [(gN 1),(gN 2)]) (cB (gr (aa 2) (cg (af (eC (.str "mark")) (af (aa 1) ah)))))) (aM (e2 bH (cE 1 [] (cZ (aa 0)) (gN 0) cy (e2 ar (aa 0) (e1 iq (eC (.int 1))))) (cE 1 [] (cV (af (eB bN (af (aa 0) ah)) ah)) (gN 0) cy (cg (af (eC (.str "mark")) (af (aa 0) ah)))))))
def rg:List D->ae->Res D:=aN 1 1 (bE (fm (cx (aw uy (af (aa 0) ah)))) nu bM)
def qY:List D->ae->Res D:=aN 2 2 (ay (bE (fm (cx (aw rB (af (aa 1) ah)))) nu bM) (cB (gr (e1 (sY "Diary" "books") (aa 0)) (aa 1))))
def nJ:List D->ae->Res D:=aN 1 1 (aM (e2 ar (e1 (sY "Diary" "books") (aa 0)) (e1 iq (eC (.int 1)))))
def qZ:List D->ae->Res D:=aN 2 2 (ay (cB (aw rg (af (aa 1) ah))) (cB (jk "Diary" "keep" qY (aa 0) (af (eB eU (af (eB TK.uN (af (e2 bX (jk "Diary" "book_now" nJ (aa 0) ah) (cg (af (aa 1) ah))) ah)) ah)) ah))))
def ug:List D->ae->Res D:=aN 1 1 (zr "Diary" "books" (eNew (af (cg ah) ah)) (aa 0))
def zu:List D->ae->Res D:=aN 1 13 (ay (aZ (aw yu (af (aa 0) (af (eC (.int 0)) ah))) (gN 1)) (ay (ox 2 3 (af (eY (af (aw uP (af (aa 1) (af (eC (.int 9)) ah))) (af (aw uP (af (aa 1) (af (eC (.int 6)) ah))) ah))) (af (aw yG (af (aa 1) (af (aw eR (af (aa 1) (af (eC (.int 12)) ah))) ah))) ah))) (ay (sV 4 5 6 (af (eNew (af (cg (af (eC (.int 1)) (af (eC (.int 2)) (af (eC (.int 3)) ah)))) (af (cg (af (eC (.int 0)) (af (aw eR (af (aa 1) (af (eC (.int 20)) ah))) (af (eC (.int 23)) ah)))) ah))) (af (aw uH (af (aa 1) ah)) (af (zt "Diary" ug) ah)))) (ay (bE (ei (aY (e2 dB (aa 3) (cg ah))) (aY (e2 bH (e2 ar (e2 ar (aa 3) (eC (.int 0))) (eC (.int 0))) (eC (.str "made"))))) (cB (jk "Diary" "tell" qZ (aa 6) (af (e2 ar (aa 3) (eC (.int 0))) ah))) bM) (ay (ox 7 8 (af (jk "Diary" "book_now" nJ (aa 6) ah) (af (eB lB (af (cg (af (aa 2) (af (aa 4) (af (aa 3) ah)))) ah)) ah))) (ay (aZ (aw sd (af (aa 2) (af (aa 4) (af (aa 3) (af (aa 5) ah))))) (gN 9)) (ay (aZ (eB lB (af (aa 9) ah)) (gN 10)) (ay (aZ (aw sd (af (aa 2) (af (aa 4) (af (aa 3) (af (aa 5) ah))))) (gN 11)) (ay (bE (ie (aY (e2 dB (eB lB (af (aa 11) ah)) (aa 10))) (ie (aY (e2 dB (eB lB (af (cg (af (aa 2) (af (aa 4) (af (aa 3) ah)))) ah)) (aa 8))) (fm (cx (aw yi (af (e2 bX (e2 ar (aa 9) (eC (.int 0))) (e2 ar (aa 11) (eC (.int 0)))) ah)))))) (aM (eC (.bl false))) bM) (ay (bE (ie (aY (e2 dB (eB lB (af (aw sd (af (aa 2) (af (aa 4) (af (aa 3) (af (aa 5) ah))))) ah)) (aa 10))) (aY (e2 dB (jk "Diary" "book_now" nJ (aa 6) ah) (aa 7)))) (aM (eC (.bl false))) bM) (ay (aZ (aw uF (af (aa 4) ah)) (gN 12)) (ay (cB (gr (aa 4) (cg (af (eC (.int 0)) (af (eC (.int 0)) (af (eC (.int 1)) ah)))))) (aM (cH (e2 bH (aa 12) (e2 ar (e2 ar (aa 9) (eC (.int 1))) (eC (.int 0)))) (e2 bH (eB lB (af (cg (af (aa 2) (af (i9 (aa 4) i8 (iT (eC (.int 2)))) (af (aa 3) ah)))) ah)) (aa 8))))))))))))))))
end
noncomputable def top (i:Nat):ado:=PySem.Challenge.pw_twinmoulds_k54_told_lists_are_the_askers.main.body.getD i (.Pass ⟨0,0,0,0⟩)
noncomputable def j7 (c:ado) (j:Nat):ado:=match c with
 | .ClassDef _ _ _ b _ _ _ _ _ _ _=>b.getD j (.Pass ⟨0,0,0,0⟩)
 |_=>.Pass ⟨0,0,0,0⟩
noncomputable abbrev wa:List Str:=[ady,adC]
noncomputable abbrev E7:List Str:=["many"]
noncomputable abbrev bJ:List Str:=["thing"]
noncomputable abbrev E8:List Str:=["thing","many"]
noncomputable abbrev Np:List Str:=["count"]
noncomputable abbrev E9:List Str:=["counts"]
noncomputable abbrev Fb:List Str:=["things"]
noncomputable abbrev Fc:List Str:=["thing","most"]
noncomputable abbrev sZ:List Str:=["marks","others"]
noncomputable abbrev Nq:List Str:=["heap","places","place"]
noncomputable abbrev iO:List Str:=["heap"]
noncomputable abbrev DR:List Str:=["pages","mould","mark","half"]
noncomputable abbrev vG:List Str:=["pages","mould","mark"]
noncomputable abbrev DT:List Str:=["days","day","later"]
noncomputable abbrev DU:List Str:=["pages"]
noncomputable abbrev MM:List Str:=["holds"]
noncomputable abbrev DW:List Str:=["sheet","sure"]
noncomputable abbrev zw:List Str:=["book","mould","mark"]
noncomputable abbrev DY:List Str:=["days_by_mark","day"]
noncomputable abbrev MN:List Str:=["book","mould"]
noncomputable abbrev DZ:List Str:=["book","sheet"]
noncomputable abbrev D2:List Str:=["heap","place","other"]
noncomputable abbrev ZJ:List Str:=["heap","place","ahead","tried"]
noncomputable abbrev MO:List Str:=["place","behind"]
noncomputable abbrev D5:List Str:=["heap","marks"]
noncomputable abbrev MP:List Str:=[adE,adF,adG,adH]
noncomputable abbrev pU:List Str:=[adx,adz]
noncomputable abbrev MQ:List Str:=[adx]
noncomputable abbrev MR:List Str:=[adx,"_law_days"]
noncomputable abbrev MS:List Str:=[adB,adD,adA]
noncomputable abbrev MT:List Str:=[adB]
noncomputable abbrev MU:List Str:=[adx,"_law_most"]
noncomputable abbrev MV:List Str:=["_law_told"]
noncomputable abbrev D6:List Str:=["self","pages"]
noncomputable abbrev sH:List Str:=["self"]
noncomputable abbrev D7:List Str:=["self","page"]
noncomputable abbrev ZK:List Str:=[ady]
structure aW (K:ĥ) (mg:Str->Option Ç):Prop where
 se:mg "all"=none
 C8:mg "any"=none
 VY:mg "bool"=none
 PC:mg "enumerate"=none
 C9:mg "int"=none
 mm:mg "isinstance"=none
 dY:mg "len"=none
 VZ:mg "list"=none
 XZ:mg "max"=none
 dw:mg "range"=none
 rT:mg "repr"=none
 Qb:mg "reversed"=none
 LX:mg "set"=none
 yj:mg "sorted"=none
 X0:mg "sum"=none
 gU:mg "tuple"=none
 X1:mg "zip"=none
 pf:∃t,mg "MARKS"=some (.int (8) t)
 uC:∃t,mg "MOULDS"=some (.int (4) t)
 pk:∃t,mg "DAYS"=some (.int (31) t)
 rJ:∃t,mg "QUIRE"=some (.int (24) t)
 yk:∃t,mg "QUIRES"=some (.int (20) t)
 yH:∃t,mg "REAM"=some (.int (480) t)
 BF:∃t,mg "REAMS"=some (.int (1000) t)
 Cj:∃t,mg "MOST"=some (.int (479999) t)
 Bi:∃t,mg "COUNTS"=some (.int (20) t)
 BG:∃t,mg "PAGES"=some (.int (24) t)
 sg:∃t,mg "HAS"=some (.int (0) t)
 rL:∃t,mg "LACKS"=some (.int (1) t)
 Ck:∃t,mg "HEAP"=some (.int (9) t)
 AO:zS K "Diary" "books"
 O8:GM K "Diary" "keep" "Diary.keep" (j7 (top 55) 5) D6
 AK:GM K "Diary" "book_now" "Diary.book_now" (j7 (top 55) 4) sH
 O9:GM K "Diary" "tell" "Diary.tell" (j7 (top 55) 1) D7
 Uk:GK K mg "Diary" "Diary.__init__" (j7 (top 55) 0) sH
 Qc:GG K mg "_law_cell_at" (top 79) wa
 Sm:GG K mg "_law_state" (top 80) wa
 Qd:GG K mg "count_of" (top 32) E7
 PD:GG K mg "is_number" (top 15) bJ
 rj:GG K mg "is_below" (top 16) E8
 Qe:GG K mg "is_count" (top 29) bJ
 Pa:GG K mg "are_counts" (top 30) bJ
 PH:GG K mg "sheets_of" (top 31) Np
 IU:GG K mg "summed" (top 28) E9
 HD:GG K mg "is_rising" (top 20) Fb
 Ic:GG K mg "is_mark" (top 17) bJ
 xJ:GG K mg "are_marks" (top 37) bJ
 OC:GG K mg "are_laid_marks" (top 41) Fc
 uh:GG K mg "need_heap" (top 63) bJ
 A7:GG K mg "has_all" (top 40) sZ
 Pb:GG K mg "is_strange" (top 64) Nq
 qV:GG K mg "most_strangers" (top 65) iO
 Sn:GG K mg "needed" (top 62) iO
 AV:GG K mg "are_apart" (top 39) sZ
 HS:GG K mg "is_sheet" (top 38) bJ
 Qf:GG K mg "is_mould" (top 18) bJ
 So:GG K mg "is_day" (top 19) bJ
 Ie:GG K mg "is_page" (top 42) bJ
 Qg:GG K mg "are_laid" (top 43) bJ
 xK:GG K mg "days_seen" (top 48) DR
 AQ:GG K mg "days_mended" (top 49) vG
 OF:GG K mg "is_any_behind" (top 47) DT
 Ra:GG K mg "clashes" (top 46) vG
 PJ:GG K mg "faults_of" (top 45) DU
 Ig:GG K mg "is_book" (top 44) bJ
 PK:GG K mg "need_book" (top 53) bJ
 Pc:GG K mg "need_sheet" (top 51) bJ
 PL:GG K mg "stretches" (top 77) MM
 Ul:GG K mg "agree" (top 76) DW
 OI:GG K mg "days_present" (top 74) zw
 OV:GG K mg "days_absent" (top 75) zw
 HU:GG K mg "marks_on" (top 73) DY
 OW:GG K mg "sure_sheets" (top 72) MN
 HE:GG K mg "places_of" (top 71) DZ
 Sq:GG K mg "fewest" (top 58) iO
 Pd:GG K mg "may_follow" (top 68) D2
 OX:GG K mg "find_behind" (top 67) ZJ
 OJ:GG K mg "places_ahead" (top 66) iO
 Qh:GG K mg "row_from" (top 69) MO
 Rb:GG K mg "rows_of" (top 59) iO
 OK:GG K mg "strangers_of" (top 60) iO
 Pe:GG K mg "need_marks" (top 50) bJ
 Rc:GG K mg "more_by" (top 61) D5
 Cm:GG K mg "_law_all" (top 90) MP
 gf:GG K mg "_law_take" (top 81) pU
 IV:GG K mg "_law_sheet" (top 83) MQ
 Um:GG K mg "_law_page" (top 84) MR
 OL:GG K mg  adI (top 85) MS
 Qi:GG K mg "_law_is_book" (top 86) MT
 Uo:GG K mg "_law_book" (top 87) pU
 Sr:GG K mg "_law_marks" (top 82) pU
 JI:GG K mg "_law_heap" (top 88) MU
 Rf:GG K mg "_law_marked" (top 89) MV
 PM:GG K mg "need_page" (top 52) bJ
section
variable {P:ó} {w:Ĕ} {K:ĥ} {mg:Str->Option Ç} {base:œ}
def Qj (F:aW K mg):ba P w K mg base "_law_cell_at" (top 79) wa 1 uu:=λ{_ _} G =>
 bb G wa (by kernel_rfl) λY _ _ _ _ _ _ Z=>(aH (cj (bx (sU Z) (ag 1) (bt dZ rfl F.dY ee (au (ag 0))) (bF _)) (aF (aP (aT (ag 0) (ag 1)))) ck) (aF (aP az)))
def Ss (F:aW K mg):ba P w K mg base "_law_state" (top 80) wa 2 yu:=λ{_ _} G =>
 bb G [ady,adC,"_law_cell"] (by kernel_rfl) λZ _ _ _ _ _ _ Y=>(aH (bB 2 Z (aB F.Qc (Qj F) Y (aO (ag 0) (ag 1)))) (aH (cj (bx Ni (ag 2) (bG Mr az az) (bF _)) (aF (aP (jS (aO (bG DG (ag 2) (bG Mr az az)) fE)))) ck) (aF (aP (jS (aO (bG n6 (ag 2) az) fE))))))
def Qk (F:aW K mg):ba P w K mg base "count_of" (top 32) E7 1 xW:=λ{_ _} G =>
 bb G E7 (by kernel_rfl) λZ _ _ _ _ _ _ Y=>(aH (cj (bx zL (ag 0) (cq F.Cj rfl) (bF _)) nL ck) (aF (aP (cX (dX (bG zm (ag 0) (cq F.yH rfl)) (bG n6 (bG zm (ag 0) (cq F.rJ rfl)) (cq F.yk rfl)) (bG n6 (ag 0) (cq F.rJ rfl)))))))
def PN (F:aW K mg):ba P w K mg base "is_number" (top 15) bJ 1 A2:=λ{_ _} G =>
 bb G bJ (by kernel_rfl) λZ _ _ _ _ _ _ Y=>(aF (aP (dO (bt mT rfl F.mm mq (aO (ag 0) (mZ DM rfl F.C9))) (dO (DE (bt mT rfl F.mm mq (aO (ag 0) (mZ XM rfl F.VY)))) (fk (fj Ni (ag 0) az (bF _)))))))
def rl (F:aW K mg):ba P w K mg base "is_below" (top 16) E8 2 mv:=λ{_ _} G =>
 bb G E8 (by kernel_rfl) λY _ _ _ _ _ _ Z=>(aF (aP (dO (aB F.PD (PN F) Z (au (ag 0))) (fk (fj (sU Z) (ag 0) (ag 1) (bF _))))))
def Ql (F:aW K mg):ba P w K mg base "is_count" (top 29) bJ 3 xX:=λ{_ _} G =>
 bb G ["thing","reams","quires","sheets"] (by kernel_rfl) λY _ _ _ _ _ _ Z=>(aH (cj (PW.pt (w_or (ip (dA (bt mT rfl F.mm mq (aO (ag 0) (mZ gY rfl F.gU))))) (mO (bx (lS Z) (bt dZ rfl F.dY ee (au (ag 0))) az (bF _))))) (aF (aP fE)) ck) (aH (zl (ag 0) (vw rfl (iG (df 1 Y) (iG (df 2 Y) (iG (df 3 Y) u6))))) (aF (aP (dO (aB F.rj (rl F) Z (aO (ag 1) (cq F.BF rfl))) (dO (aB F.rj (rl F) Z (aO (ag 2) (cq F.yk rfl))) (fk (aB F.rj (rl F) Z (aO (ag 3) (cq F.rJ rfl))))))))))
def Pf (F:aW K mg):ba P w K mg base "are_counts" (top 30) bJ 4 xE:=λ{_ _} G=>by
 have Z:(["count"]:List Str).Nodup:=by decide +kernel
 exact bb G bJ (by kernel_rfl) λX _ _ _ _ _ _ Y=>(aF (aP (dO (bt mT rfl F.mm mq (aO (ag 0) (mZ XN rfl F.VZ))) (dO (fj vX (bt dZ rfl F.dY ee (au (ag 0))) (cq F.Bi rfl) (bF _)) (fk (bt (sx rfl) rfl F.se sy (au (JG (N:=["count"]) (nt:=1) (cap:=[]) rfl (vD (by kernel_rfl)) (mB 0) (LW (ag 0)) (λcl C s H ex W=>⟨(gW (i:=0) Z rfl (Or.inl rfl)),dQ,(aB F.Qe (Ql F) Y (au (ag 0)))⟩)))))))))
def PQ (F:aW K mg):ba P w K mg base "sheets_of" (top 31) Np 1 xS:=λ{_ _} G =>
 bb G ["count","reams","quires","sheets"] (by kernel_rfl) λZ _ _ _ _ _ _ Y=>(aH (zl (ag 0) (vw rfl (iG (df 1 Z) (iG (df 2 Z) (iG (df 3 Z) u6))))) (aF (aP (bG fz (bG fz (bG mQ (ag 1) (cq F.yH rfl)) (bG mQ (ag 2) (cq F.rJ rfl))) (ag 3)))))
def IW (F:aW K mg):ba P w K mg base "summed" (top 28) E9 5 uF:=λ{_ _} G=>by
 have Y:(["count"]:List Str).Nodup:=by decide +kernel
 exact bb G E9 (by kernel_rfl) λX _ _ _ _ _ _ Z=>(aH (cj (ip (dA (aB F.Pa (Pf F) Z (au (ag 0))))) nL ck) (aF (aP (aB F.Qd (Qk F) Z (au (bt (ZI rfl) rfl F.X0 ZD (au (JG (N:=["count"]) (nt:=1) (cap:=[]) rfl (vD (by kernel_rfl)) (mB 0) (LW (ag 0)) (λcl C s H ex W=>⟨(gW (i:=0) Y rfl (Or.inl rfl)),dQ,(aB F.PH (PQ F) Z (au (ag 0)))⟩)))))))))
def HF (F:aW K mg):ba P w K mg base "is_rising" (top 20) Fb 1 oW:=λ{_ _} G=>by
 have Z:(["ahead","behind"]:List Str).Nodup:=by decide +kernel
 exact bb G Fb (by kernel_rfl) λX _ _ _ _ _ _ Y=>(aF (aP (bt (sx rfl) rfl F.se sy (au (KC (N:=["ahead","behind"]) (nt:=2) (cap:=[]) rfl (vD (by kernel_rfl)) (CN (rE 0 (rE 1 Cc))) (Zl rfl F.X1 (aO (ag 0) (zN (ag 0) (zo az) zM))) (λcl C s H ex W=>⟨(yL rfl (o9 (gW (i:=0) Z rfl (Or.inl rfl)) (o9 (gW (i:=1) Z rfl (Or.inl rfl)) yy))),dQ,(fj (sU Y) (ag 0) (ag 1) (bF _))⟩))))))
def Ih (F:aW K mg):ba P w K mg base "is_mark" (top 17) bJ 3 rq:=λ{_ _} G =>
 bb G bJ (by kernel_rfl) λY _ _ _ _ _ _ Z=>(aF (aP (aB F.rj (rl F) Z (aO (ag 0) (cq F.pf rfl)))))
def xM (F:aW K mg):ba P w K mg base "are_marks" (top 37) bJ 4 mr:=λ{_ _} G =>
 bb G bJ (by kernel_rfl) λY _ _ _ _ _ _ Z=>(aF (aP (dO (bt mT rfl F.mm mq (aO (ag 0) (mZ gY rfl F.gU))) (dO (bt (sx rfl) rfl F.se sy (au (eG ["mark"] (fV (ag 0)) (λ_ _ _ _ _ _=>⟨dQ,(aB F.Ic (Ih F) Z (au (ag 0)))⟩)))) (fk (aB F.HD (HF F) Z (au (ag 0))))))))
def OD (F:aW K mg):ba P w K mg base "are_laid_marks" (top 41) Fc 5 xq:=λ{_ _} G =>
 bb G Fc (by kernel_rfl) λY _ _ _ _ _ _ Z=>(aF (aP (dO (bt mT rfl F.mm mq (aO (ag 0) (mZ gY rfl F.gU))) (dO (Ko vX vX az (bt dZ rfl F.dY ee (au (ag 0))) (ag 1)) (fk (bt (sx rfl) rfl F.se sy (au (eG ["marks"] (fV (ag 0)) (λ_ _ _ _ _ _=>⟨dQ,(aB F.xJ (xM F) Z (au (ag 0)))⟩)))))))))
def ui (F:aW K mg):ba P w K mg base "need_heap" (top 63) bJ 6 nK:=λ{_ _} G =>
 bb G bJ (by kernel_rfl) λY _ _ _ _ _ _ Z=>(aF (cj (ip (dA (aB F.OC (OD F) Z (aO (ag 0) (cq F.Ck rfl))))) nL ck))
def A8 (F:aW K mg):ba P w K mg base "has_all" (top 40) sZ 1 rA:=λ{_ _} G =>
 bb G sZ (by kernel_rfl) λY _ _ _ _ _ _ Z=>(aF (aP (bt (sx rfl) rfl F.se sy (au (eG ["mark","marks"] (fV (ag 1)) (λ_ _ _ _ _ _=>⟨dQ,(fj (hZ Z) (ag 0) (ag 1) rfl)⟩))))))
def Ph (F:aW K mg):ba P w K mg base "is_strange" (top 64) Nq 2 xF:=λ{_ _} G =>
 bb G ["heap","places","place","marks"] (by kernel_rfl) λY _ _ _ _ _ _ Z=>(aH (bB 3 Y (aT (ag 0) (ag 2))) (aF (aP (DE (bt (DH rfl) rfl F.C8 DN (au (eG ["other","marks","heap"] (fV (ag 1)) (λ_ _ _ _ _ _=>⟨dQ,(vO (aB F.A7 (A8 F) Z (aO (ag 1) (aT (ag 2) (ag 0)))) (fk (aB F.A7 (A8 F) Z (aO (aT (ag 2) (ag 0)) (ag 1)))))⟩))))))))
def qW (F:aW K mg):ba P w K mg base "most_strangers" (top 65) iO 4 ml:=λ{_ _} G =>
 bb G ["heap","told","place"] (by kernel_rfl) λZ _ _ _ _ _ _ Y=>(aH (bB 1 Z (hU (au (cX cA)))) (aH (iN Ģ rfl (dN rfl F.dw (au (bt dZ rfl F.dY ee (au (ag 0))))) (df 2 Z) (aF (bB 1 Z (bG fz (ag 1) (eG ["places","place","heap"] (fV (ag 1)) (λ_ _ _ _ _ _=>⟨(lJ (dA (aB F.Pb (Ph F) Y (dX (ag 2) (ag 0) (ag 1))))),(bG fz (ag 0) (cX (au (ag 1))))⟩)))))) (aF (aP (T9 (ag 1) rfl rfl F.XZ rfl F.dY)))))
def Su (F:aW K mg):ba P w K mg base "needed" (top 62) iO 7 rH:=λ{_ _} G=>by
 have Y:(["place","many","heap"]:List Str).Nodup:=by decide +kernel
 exact bb G ["heap","many"] (by kernel_rfl) λX _ _ _ _ _ _ Z=>(aH (eT (aB F.uh (ui F) Z (au (ag 0)))) (aH (cj (bx (dR Z) (bt dZ rfl F.dY ee (au (ag 0))) az (bF _)) (aF (aP (jS cA))) ck) (aH (bB 1 X (bt dZ rfl F.dY ee (au (aB F.qV (qW F) Z (au (ag 0)))))) (aF (aP (Ub (N:=["place","many","heap"]) (nt:=1) (cap:=[1,0]) rfl (vD (by kernel_rfl)) (mB 0) (dN rfl F.dw (au (bt dZ rfl F.dY ee (au (ag 0))))) (λcl C s H ex W=>⟨(gW (i:=0) Y rfl (Or.inl rfl)),(lJ (bx (sU Z) (bt dZ rfl F.dY ee (au (aB F.qV (qW F) Z (au (bG fz (zN (ag 2) zM (zo (ag 0))) (zN (ag 2) (zo (bG fz (ag 0) az)) zM)))))) (ag 1) (bF _))),(ag 0)⟩)))))))
def AW (F:aW K mg):ba P w K mg base "are_apart" (top 39) sZ 1 rf:=λ{_ _} G =>
 bb G sZ (by kernel_rfl) λY _ _ _ _ _ _ Z=>(aF (aP (DE (bt (DH rfl) rfl F.C8 DN (au (eG ["mark","others"] (fV (ag 0)) (λ_ _ _ _ _ _=>⟨dQ,(fj (hZ Z) (ag 0) (ag 1) rfl)⟩)))))))
def HV (F:aW K mg):ba P w K mg base "is_sheet" (top 38) bJ 5 rp:=λ{_ _} G =>
 bb G ["thing","has","lacks"] (by kernel_rfl) λY _ _ _ _ _ _ Z=>(aH (cj (PW.pt (w_or (ip (dA (bt mT rfl F.mm mq (aO (ag 0) (mZ gY rfl F.gU))))) (mO (bx (lS Z) (bt dZ rfl F.dY ee (au (ag 0))) az (bF _))))) (aF (aP fE)) ck) (aH (zl (ag 0) (vw rfl (iG (df 1 Y) (iG (df 2 Y) u6)))) (aF (aP (dO (aB F.xJ (xM F) Z (au (ag 1))) (dO (aB F.xJ (xM F) Z (au (ag 2))) (fk (aB F.AV (AW F) Z (aO (ag 1) (ag 2))))))))))
def Qm (F:aW K mg):ba P w K mg base "is_mould" (top 18) bJ 3 xU:=λ{_ _} G =>
 bb G bJ (by kernel_rfl) λY _ _ _ _ _ _ Z=>(aF (aP (aB F.rj (rl F) Z (aO (ag 0) (cq F.uC rfl)))))
def Sv (F:aW K mg):ba P w K mg base "is_day" (top 19) bJ 3 yt:=λ{_ _} G =>
 bb G bJ (by kernel_rfl) λY _ _ _ _ _ _ Z=>(aF (aP (aB F.rj (rl F) Z (aO (ag 0) (cq F.pk rfl)))))
def Ii (F:aW K mg):ba P w K mg base "is_page" (top 42) bJ 6 uy:=λ{_ _} G =>
 bb G ["thing","word","mould","day","what"] (by kernel_rfl) λY _ _ _ _ _ _ Z=>(aH (cj (PW.pt (w_or (ip (dA (bt mT rfl F.mm mq (aO (ag 0) (mZ gY rfl F.gU))))) (mO (bx (lS Z) (bt dZ rfl F.dY ee (au (ag 0))) az (bF _))))) (aF (aP fE)) ck) (aH (zl (ag 0) (vw rfl (iG (df 1 Y) (iG (df 2 Y) (iG (df 3 Y) (iG (df 4 Y) u6)))))) (aH (cj (PW.pt (w_or (ip (dA (aB F.Qf (Qm F) Z (au (ag 2))))) (mO (ip (dA (aB F.So (Sv F) Z (au (ag 3)))))))) (aF (aP fE)) ck) (aH (cj (bx (dR Z) (ag 1) ko (bF _)) (aF (aP (aB F.HS (HV F) Z (au (ag 4))))) ck) (aF (aP (dO (fj (dR Z) (ag 1) ko (bF _)) (fk (aB F.Ic (Ih F) Z (au (ag 4)))))))))))
def Qn (F:aW K mg):ba P w K mg base "are_laid" (top 43) bJ 7 xV:=λ{_ _} G =>
 bb G bJ (by kernel_rfl) λY _ _ _ _ _ _ Z=>(aF (aP (dO (bt mT rfl F.mm mq (aO (ag 0) (mZ gY rfl F.gU))) (dO (fj vX (bt dZ rfl F.dY ee (au (ag 0))) (cq F.BG rfl) (bF _)) (dO (bt (sx rfl) rfl F.se sy (au (eG ["page"] (fV (ag 0)) (λ_ _ _ _ _ _=>⟨dQ,(aB F.Ie (Ii F) Z (au (ag 0)))⟩)))) (fk (aB F.HD (HF F) Z (au (ag 0)))))))))
def xN (F:aW K mg):ba P w K mg base "days_seen" (top 48) DR 1 kZ:=λ{_ _} G =>
 bb G DR (by kernel_rfl) λY _ _ _ _ _ _ Z=>(aF (aP (eG ["page","mould","mark","half"] (fV (ag 0)) (λ_ _ _ _ _ _=>⟨(lJ (PW.pt (w_and (bx (dR Z) (aT (ag 0) az) ko (bF _)) (w_and (bx (dR Z) (aT (ag 0) az) (ag 1) (bF _)) (ji (bx (hZ Z) (ag 2) (aT (aT (ag 0) az) (ag 3)) rfl)))))),(aT (ag 0) az)⟩))))
def AR (F:aW K mg):ba P w K mg base "days_mended" (top 49) vG 1 qX:=λ{_ _} G =>
 bb G vG (by kernel_rfl) λY _ _ _ _ _ _ Z=>(aF (aP (eG ["page","mould","mark"] (fV (ag 0)) (λ_ _ _ _ _ _=>⟨(lJ (PW.pt (w_and (bx (dR Z) (aT (ag 0) az) ko (bF _)) (w_and (bx (dR Z) (aT (ag 0) az) (ag 1) (bF _)) (ji (bx (dR Z) (aT (ag 0) az) (ag 2) (bF _))))))),(aT (ag 0) az)⟩))))
def OG (F:aW K mg):ba P w K mg base "is_any_behind" (top 47) DT 1 xr:=λ{_ _} G =>
 bb G DT (by kernel_rfl) λY _ _ _ _ _ _ Z=>(aF (aP (bt (DH rfl) rfl F.C8 DN (au (eG ["other","day","later"] (fV (ag 0)) (λ_ _ _ _ _ _=>⟨dQ,(Ko (sU Z) vX (ag 1) (ag 0) (ag 2))⟩))))))
def Rg (F:aW K mg):ba P w K mg base "clashes" (top 46) vG 2 uz:=λ{_ _} G=>by
 have Y:(["day","later","lacked","mended"]:List Str).Nodup:=by decide +kernel
 exact bb G ["pages","mould","mark","lacked","mended"] (by kernel_rfl) λX _ _ _ _ _ _ Z=>(aH (bB 3 X (aB F.xK (xN F) Z (aX (ag 0) (aX (ag 1) (aX (ag 2) (aX (cq F.rL rfl) cA)))))) (aH (bB 4 X (aB F.AQ (AR F) Z (dX (ag 0) (ag 1) (ag 2)))) (aF (aP (VG (N:=["day","later","lacked","mended"]) (nt:=2) (cap:=[3,4]) rfl (zk (by kernel_rfl)) (mB 0) (uL 0) (mB 1) (uL 1) (fV (QX (aB F.xK (xN F) Z (aX (ag 0) (aX (ag 1) (aX (ag 2) (aX (cq F.sg rfl) cA))))) rfl rfl F.yj yq rfl F.LX Mw)) (λcl C s H ex W=>⟨(gW (i:=0) Y rfl (Or.inl rfl)),dQ,(XE rfl F.dw (aO (ag 0) (cq F.pk rfl))),(gW (i:=1) Y rfl (Or.inl rfl)),(lJ (PW.pt (w_and (PW.pt (w_or (bx (hZ Z) (ag 1) (ag 2) rfl) (mO (PW.pt (w_and (bx (dR Z) (ag 1) (ag 0) (bF _)) (ji (bx (hZ Z) (ag 0) (ag 3) rfl))))))) (ji (ip (dA (aB F.OF (OG F) Z (dX (ag 3) (ag 0) (ag 1))))))))),(cX (aO (ag 0) (ag 1)))⟩))))))
def PR (F:aW K mg):ba P w K mg base "faults_of" (top 45) DU 3 xQ:=λ{_ _} G=>by
 have Z:(["mould","mark","day","later","pages"]:List Str).Nodup:=by decide +kernel
 exact bb G DU (by kernel_rfl) λX _ _ _ _ _ _ Y=>(aF (aP (VH (N:=["mould","mark","day","later","pages"]) (nt:=4) (cap:=[0]) rfl (zk (by kernel_rfl)) (mB 0) (uL 0) (mB 1) (uL 1) (CN (rE 2 (rE 3 Cc))) (yM [2,3]) (dN rfl F.dw (au (cq F.uC rfl))) (λcl C s H ex W=>⟨(gW (i:=0) Z rfl (Or.inl rfl)),dQ,(dN rfl F.dw (au (cq F.pf rfl))),(gW (i:=1) Z rfl (Or.inl rfl)),dQ,(fV (aB F.Ra (Rg F) Y (dX (ag 4) (ag 0) (ag 1)))),(yL rfl (o9 (gW (i:=2) Z rfl (Or.inl rfl)) (o9 (gW (i:=3) Z rfl (Or.inl rfl)) yy))),dQ,(cX (aX (ag 0) (aX (ag 1) (aX (ag 2) (aX (ag 3) cA)))))⟩))))
def Ij (F:aW K mg):ba P w K mg base "is_book" (top 44) bJ 8 rB:=λ{_ _} G =>
 bb G bJ (by kernel_rfl) λY _ _ _ _ _ _ Z=>(aF (aP (dO (aB F.Qg (Qn F) Z (au (ag 0))) (fk (TK.XW (aB F.PJ (PR F) Z (au (ag 0))))))))
def PU (F:aW K mg):ba P w K mg base "need_book" (top 53) bJ 9 xR:=λ{_ _} G =>
 bb G bJ (by kernel_rfl) λY _ _ _ _ _ _ Z=>(aF (cj (ip (dA (aB F.Ig (Ij F) Z (au (ag 0))))) nL ck))
def Pj (F:aW K mg):ba P w K mg base "need_sheet" (top 51) bJ 6 xG:=λ{_ _} G =>
 bb G bJ (by kernel_rfl) λY _ _ _ _ _ _ Z=>(aF (cj (ip (dA (aB F.HS (HV F) Z (au (ag 0))))) nL ck))
def PV (F:aW K mg):ba P w K mg base "stretches" (top 77) MM 1 uj:=λ{_ _} G =>
 bb G ["holds","told","at"] (by kernel_rfl) λZ _ _ _ _ _ _ Y=>(aH (bB 1 Z (jS cA)) (aH (iN Ģ rfl (dN rfl F.dw (au (bt dZ rfl F.dY ee (au (ag 0))))) (df 2 Z) (aF (cj (PW.pt (w_and (dA (aT (ag 0) (ag 2))) (w_and (bx zL (ag 2) az (bF _)) (ji (dA (aT (ag 0) (bG DG (ag 2) az))))))) (aF (DJ (cX (aO (aT (aT (ag 1) (sR sv az)) az) (ag 2))) (ag 1) (sR sv az))) (aF (cj (dA (aT (ag 0) (ag 2))) (aF (eT (lK (ag 1) (cX (aO (ag 2) (ag 2)))))) ck))))) (aF (aP (DD (ag 1))))))
def Uq (F:aW K mg):ba P w K mg base "agree" (top 76) DW 2 uO:=λ{_ _} G =>
 bb G DW (by kernel_rfl) λY _ _ _ _ _ _ Z=>(aF (aP (dO (aB F.AV (AW F) Z (aO (aT (ag 0) (cq F.sg rfl)) (aT (ag 1) (cq F.rL rfl)))) (fk (aB F.AV (AW F) Z (aO (aT (ag 0) (cq F.rL rfl)) (aT (ag 1) (cq F.sg rfl))))))))
def OM (F:aW K mg):ba P w K mg base "days_present" (top 74) zw 2 xt:=λ{_ _} G =>
 bb G ["book","mould","mark","shown","mended","present","stays","day"] (by kernel_rfl) λZ _ _ _ _ _ _ Y=>(aH (bB 3 Z (aB F.xK (xN F) Y (aX (ag 0) (aX (ag 1) (aX (ag 2) (aX (cq F.sg rfl) cA)))))) (aH (bB 4 Z (aB F.AQ (AR F) Y (dX (ag 0) (ag 1) (ag 2)))) (aH (bB 5 Z (jS cA)) (aH (bB 6 Z fE) (aH (iN Ģ rfl (dN rfl F.dw (au (cq F.pk rfl))) (df 7 Z) (aH (bB 6 Z (vO (fj (hZ Y) (ag 7) (ag 3) rfl) (fk (dO (ag 6) (fk (fj (yC Y) (ag 7) (ag 4) rfl)))))) (aF (cj (dA (ag 6)) (aF (eT (lK (ag 5) (ag 7)))) ck)))) (aF (aP (DD (ag 5)))))))))
def OY (F:aW K mg):ba P w K mg base "days_absent" (top 75) zw 2 xy:=λ{_ _} G =>
 bb G ["book","mould","mark","lacked","mended","absent","barred","day"] (by kernel_rfl) λZ _ _ _ _ _ _ Y=>(aH (bB 3 Z (aB F.xK (xN F) Y (aX (ag 0) (aX (ag 1) (aX (ag 2) (aX (cq F.rL rfl) cA)))))) (aH (bB 4 Z (aB F.AQ (AR F) Y (dX (ag 0) (ag 1) (ag 2)))) (aH (bB 5 Z (jS cA)) (aH (bB 6 Z fE) (aH (iN Ģ rfl (Zq rfl F.Qb rfl F.dw (au (cq F.pk rfl))) (df 7 Z) (aH (cj (PW.pt (w_or (dA (ag 6)) (w_or (bx (hZ Y) (ag 7) (ag 3) rfl) (mO (bx (hZ Y) (ag 7) (ag 4) rfl))))) (aF (eT (lK (ag 5) (ag 7)))) ck) (aF (bB 6 Z (dO (vO (ag 6) (fk (fj (hZ Y) (ag 7) (ag 3) rfl))) (fk (fj (yC Y) (ag 7) (ag 4) rfl))))))) (aF (aP (DD (ag 5)))))))))
def HW (F:aW K mg):ba P w K mg base "marks_on" (top 73) DY 1 uw:=λ{_ _} G =>
 bb G DY (by kernel_rfl) λY _ _ _ _ _ _ Z=>(aF (aP (jN lh rfl F.gU gY (au (eG ["mark","day","days_by_mark"] (dN rfl F.dw (au (cq F.pf rfl))) (λ_ _ _ _ _ _=>⟨(lJ (bx (hZ Z) (ag 1) (aT (ag 2) (ag 0)) rfl)),(ag 0)⟩))))))
def OZ (F:aW K mg):ba P w K mg base "sure_sheets" (top 72) MN 3 ua:=λ{_ _} G =>
 bb G ["book","mould","present","absent"] (by kernel_rfl) λY _ _ _ _ _ _ Z=>(aH (bB 2 Y (eG ["mark","book","mould"] (dN rfl F.dw (au (cq F.pf rfl))) (λ_ _ _ _ _ _=>⟨dQ,(aB F.OI (OM F) Z (dX (ag 1) (ag 2) (ag 0)))⟩))) (aH (bB 3 Y (eG ["mark","book","mould"] (dN rfl F.dw (au (cq F.pf rfl))) (λ_ _ _ _ _ _=>⟨dQ,(aB F.OV (OY F) Z (dX (ag 1) (ag 2) (ag 0)))⟩))) (aF (aP (eG ["day","present","absent"] (dN rfl F.dw (au (cq F.pk rfl))) (λ_ _ _ _ _ _=>⟨dQ,(cX (aO (aB F.HU (HW F) Z (aO (ag 1) (ag 0))) (aB F.HU (HW F) Z (aO (ag 2) (ag 0)))))⟩))))))
def HG (F:aW K mg):ba P w K mg base "places_of" (top 71) DZ 10 uq:=λ{_ _} G=>by
 have Y:(["mould","first","last","sheet","book"]:List Str).Nodup:=by decide +kernel
 exact bb G DZ (by kernel_rfl) λX _ _ _ _ _ _ Z=>(aH (eT (aB F.PK (PU F) Z (au (ag 0)))) (aH (eT (aB F.Pc (Pj F) Z (au (ag 1)))) (aF (aP (Ug (N:=["mould","first","last","sheet","book"]) (nt:=3) (cap:=[1,0]) rfl (zk (by kernel_rfl)) (mB 0) (uL 0) (CN (rE 1 (rE 2 Cc))) (yM [1,2]) (dN rfl F.dw (au (cq F.uC rfl))) (λcl C s H ex W=>⟨(gW (i:=0) Y rfl (Or.inl rfl)),dQ,(fV (aB F.PL (PV F) Z (au (eG ["sure","sheet"] (fV (aB F.OW (OZ F) Z (aO (ag 4) (ag 0)))) (λ_ _ _ _ _ _=>⟨dQ,(aB F.Ul (Uq F) Z (aO (ag 1) (ag 0)))⟩))))),(yL rfl (o9 (gW (i:=1) Y rfl (Or.inl rfl)) (o9 (gW (i:=2) Y rfl (Or.inl rfl)) yy))),dQ,(cX (dX (ag 0) (ag 1) (ag 2)))⟩))))))
def Sw (F:aW K mg):ba P w K mg base "fewest" (top 58) iO 7 uG:=λ{_ _} G =>
 bb G iO (by kernel_rfl) λY _ _ _ _ _ _ Z=>(aH (eT (aB F.uh (ui F) Z (au (ag 0)))) (aF (aP (bt dZ rfl F.dY ee (au (aB F.qV (qW F) Z (au (ag 0))))))))
def Pk (F:aW K mg):ba P w K mg base "may_follow" (top 68) D2 2 xH:=λ{_ _} G =>
 bb G D2 (by kernel_rfl) λY _ _ _ _ _ _ Z=>(aF (aP (dO (aB F.A7 (A8 F) Z (aO (aT (ag 0) (ag 2)) (aT (ag 0) (ag 1)))) (fk (vO (fj (lS Z) (aT (ag 0) (ag 2)) (aT (ag 0) (ag 1)) (bF _)) (fk (fj (sU Z) (ag 1) (ag 2) (bF _))))))))
def Hu:rQ ["heap","place","ahead","tried","other"] ["heap","place","ahead","tried"] (dJ (top 67)):=⟨rfl,rfl,rfl,by decide +kernel,rfl,by decide +kernel,by decide +kernel⟩
theorem Hv (F:aW K mg) {f:ä} {fd:ő} (G:Gd K mg "find_behind" (top 67) ["heap","place","ahead","tried"] f fd):∀n,dH P w K mg base fK (3+n) f fd ["heap","place","ahead","tried"] (kQ K (ue n))
 |0=>Zo λ_ _=>rfl
 |n+1=>by
  have Y:=Hu.nd;have ih:=Hv F G n;exact DF G.fn Hu λX A outer s H E Z=>(aH (iN Ģ rfl (dN rfl F.dw (au (bt dZ rfl F.dY ee (au (ag 0))))) (df 4 Y) (aF (cj (PW.pt (w_and (bx (BE Z) (ag 4) (ag 3) rfl) (ji (dA (aB F.Pd (Pk F) Z (dX (ag 0) (ag 1) (ag 4)) (hk:=by simp only[Nat.add_eq];omega)))))) (aH (MG Z fE (ag 3) (ag 4)) (aF (cj (PW.pt (w_or (bx (BE Z) (ag 4) (ag 2) rfl) (mO (dA (CO ih Z rfl G.mg G.fn.kp G.b (aX (ag 0) (aX (MF Z (ag 2) (ag 4)) (aX (ag 2) (aX (ag 3) cA))))))))) (aH (MG Z (ag 1) (ag 2) (ag 4)) (aF (aP fE))) ck))) ck))) (aF (aP fE)))
def ON (F:aW K mg):ba P w K mg base "places_ahead" (top 66) iO 16 xu:=λ{_ _} G=>by
 obtain⟨_,_,Z⟩:=F.OX;exact bb G ["heap","ahead","place"] (by kernel_rfl) λY _ _ _ _ _ _ X=>(aH (bB 1 Y LS) (aH (iN Ģ rfl (dN rfl F.dw (au (bt dZ rfl F.dY ee (au (ag 0))))) (df 2 Y) (aF (eT (CO (Hv F Z 12) (X.mono (by decide)) rfl Z.mg Z.fn.kp Z.b (aX (ag 0) (aX (ag 2) (aX (ag 1) (aX LS cA)))))))) (aF (aP (ag 1)))))
def Qo (F:aW K mg):ba P w K mg base "row_from" (top 69) MO 1 xY:=λ{_ _} G =>
 bb G ["place","behind","row"] (by kernel_rfl) λY _ _ _ _ _ _ Z=>(aH (bB 2 Y (jS (au (ag 0)))) (aH (Zk 20 Ģ (bx (Zw Z) (aT (ag 2) (sR sv az)) (ag 1) rfl) (aF (eT (lK (ag 2) (MF Z (ag 1) (aT (ag 2) (sR sv az))))))) (aF (aP (jN lh rfl F.gU gY (au (ag 2)))))))
def Rh (F:aW K mg):ba P w K mg base "rows_of" (top 59) iO 17 uA:=λ{_ _} G =>
 bb G ["heap","ahead","behind"] (by kernel_rfl) λY _ _ _ _ _ _ Z=>(aH (eT (aB F.uh (ui F) Z (au (ag 0)))) (aH (bB 1 Y (aB F.OJ (ON F) Z (au (ag 0)))) (aH (bB 2 Y (XX 1 (N:=["place","ahead"]) (cap:=[1]) Z rfl (zk (by kernel_rfl)))) (aF (aP (jN lh rfl F.gU gY (au (eG ["place","behind","ahead"] (dN rfl F.dw (au (bt dZ rfl F.dY ee (au (ag 0))))) (λ_ _ _ _ _ _=>⟨(lJ (bx (BE Z) (ag 0) (ag 2) rfl)),(aB F.Qh (Qo F) Z (aO (ag 0) (ag 1)))⟩)))))))))
def OO (F:aW K mg):ba P w K mg base "strangers_of" (top 60) iO 7 t9:=λ{_ _} G =>
 bb G iO (by kernel_rfl) λY _ _ _ _ _ _ Z=>(aH (eT (aB F.uh (ui F) Z (au (ag 0)))) (aF (aP (aB F.qV (qW F) Z (au (ag 0))))))
def Pl (F:aW K mg):ba P w K mg base "need_marks" (top 50) bJ 5 xI:=λ{_ _} G =>
 bb G bJ (by kernel_rfl) λY _ _ _ _ _ _ Z=>(aF (cj (ip (dA (aB F.xJ (xM F) Z (au (ag 0))))) nL ck))
def Ri (F:aW K mg):ba P w K mg base "more_by" (top 61) D5 7 uB:=λ{_ _} G =>
 bb G D5 (by kernel_rfl) λY _ _ _ _ _ _ Z=>(aH (eT (aB F.uh (ui F) Z (au (ag 0)))) (aH (eT (aB F.Pe (Pl F) Z (au (ag 1)))) (aF (aP (bG DG (bt dZ rfl F.dY ee (au (aB F.qV (qW F) Z (au (bG fz (ag 0) (cX (au (ag 1)))))))) (bt dZ rfl F.dY ee (au (aB F.qV (qW F) Z (au (ag 0))))))))))
def Cn (F:aW K mg):ba P w K mg base "_law_all" (top 90) MP 18 sd:=λ{_ _} G =>
 bb G [adE,adF,adG,adH,"_law_lists","_law_found","_law_heap_here"] (by kernel_rfl) λY _ _ _ _ _ _ Z=>(aH (bB 4 Y (bG fz (eG ["_law_heap_here"] (fV (ag 0)) (λ_ _ _ _ _ _=>⟨dQ,(aB F.Sn (Su F) Z (au (ag 0)))⟩)) (hU (aO (aB F.HE (HG F) Z (aO (ag 2) (ag 3))) (aB F.HE (HG F) Z (aO (ag 2) (cX (aO (cX cA) (cX cA))))))))) (aH (bB 5 Y (hU (au (aB F.IU (IW F) Z (au (ag 1)))))) (aH (iN Ģ rfl (fV (ag 0)) (df 6 Y) (aF (bB 5 Y (bG fz (ag 5) (hU (aX (aB F.Sq (Sw F) Z (au (ag 6))) (aX (aB F.Rb (Rh F) Z (au (ag 6))) (aX (aB F.OK (OO F) Z (au (ag 6))) (aX (aB F.Rc (Ri F) Z (aO (ag 6) (aT (ag 3) az))) cA))))))))) (aF (aP (cX (aO (ag 4) (ag 5))))))))
def gg (F:aW K mg):ba P w K mg base "_law_take" (top 81) pU 1 eR:=λ{_ _} G =>
 bb G [adx,adz,"_law_found","_law_mixed"] (by kernel_rfl) λZ _ _ _ _ _ _ Y=>(aH (cj (dA (aT (ag 0) az)) (aH (bB 2 Z (bG n6 (aT (ag 0) az) (ag 1))) (aH (DJ (bG zm (aT (ag 0) az) (ag 1)) (ag 0) az) (aF (aP (ag 2))))) ck) (aH (DJ (bG n6 (bG fz (bG mQ (aT (ag 0) az) az) az) az) (ag 0) az) (aH (bB 3 Z (bG n6 (bG fz (bG fz (bG mQ (aT (ag 0) az) (aT (ag 0) az)) (bG mQ az (aT (ag 0) az))) az) az)) (aH (bB 3 Z (bG n6 (bG fz (bG mQ (ag 3) (ag 3)) (bG mQ az (ag 3))) az)) (aF (aP (bG n6 (bG zm (ag 3) az) (ag 1))))))))
def IY (F:aW K mg):ba P w K mg base "_law_sheet" (top 83) MQ 2 uH:=λ{_ _} G =>
 bb G [adx,adz,"_law_parts","_law_has"] (by kernel_rfl) λY _ _ _ _ _ _ Z=>(aH (bB 1 Y (aT (hU (dX az az az)) (aB F.gf (gg F) Z (aO (ag 0) az)))) (aH (bB 2 Y (eG [adA,adx] (dN rfl F.dw (au (ag 1))) (λ_ _ _ _ _ _=>⟨dQ,(aB F.gf (gg F) Z (aO (ag 1) az))⟩))) (aH (bB 3 Y (jN lh rfl F.gU gY (au (eG [adA,"_law_parts"] (dN rfl F.dw (au (ag 1))) (λ_ _ _ _ _ _=>⟨(lJ (bx (dR Z) (aT (ag 1) (ag 0)) az (bF _))),(ag 0)⟩))))) (aF (aP (cX (aO (ag 3) (jN lh rfl F.gU gY (au (eG [adA,"_law_parts"] (dN rfl F.dw (au (ag 1))) (λ_ _ _ _ _ _=>⟨(lJ (bx (dR Z) (aT (ag 1) (ag 0)) az (bF _))),(ag 0)⟩)))))))))))
def Ur (F:aW K mg):ba P w K mg base "_law_page" (top 84) MR 3 yF:=λ{_ _} G =>
 bb G [adx,"_law_days",adD,"_law_day"] (by kernel_rfl) λY _ _ _ _ _ _ Z=>(aH (u9 2 3 rfl Y (aO (aT (hU (aO az (aB F.gf (gg F) Z (aO (ag 0) az)))) (aB F.gf (gg F) Z (aO (ag 0) az))) (aB F.gf (gg F) Z (aO (ag 0) (ag 1))))) (aH (cj (bx (dR Z) (aB F.gf (gg F) Z (aO (ag 0) az)) az (bF _)) (aF (aP (cX (aX ko (aX (ag 2) (aX (ag 3) (aX (aB F.gf (gg F) Z (aO (ag 0) (aT (hU (dX az az az)) (aB F.gf (gg F) Z (aO (ag 0) az))))) cA))))))) ck) (aF (aP (cX (aX ko (aX (ag 2) (aX (ag 3) (aX (aB F.IV (IY F) Z (au (ag 0))) cA)))))))))
def OP (F:aW K mg):ba P w K mg base  adI (top 85) MS 1 xw:=λ{_ _} G =>
 bb G [adB,adD,adA,"_law_shown","_law_lacked","_law_mended","_law_page_here","_law_sure","_law_day"] (by kernel_rfl) λY _ _ _ _ _ _ Z=>(aH (LU 3 4 5 rfl Y (dX (hU cA) (hU cA) (jS cA))) (aH (iN Ģ rfl (fV (ag 0)) (df 6 Y) (aH (cj (PW.pt (w_and (bx (dR Z) (aT (ag 6) az) ko (bF _)) (w_and (bx (dR Z) (aT (ag 6) az) (ag 1) (bF _)) (ji (bx (dR Z) (aT (ag 6) az) (ag 2) (bF _)))))) (aF (eT (lK (ag 5) (aT (ag 6) az)))) ck) (aF (cj (PW.pt (w_and (bx (dR Z) (aT (ag 6) az) ko (bF _)) (ji (bx (dR Z) (aT (ag 6) az) (ag 1) (bF _))))) (aH (bB 3 Y (bG fz (ag 3) (bG mQ (hU (au (aT (ag 6) az))) (jN MJ rfl F.C9 DM (au (fj (hZ Z) (ag 2) (aT (aT (ag 6) az) az) rfl)))))) (aF (bB 4 Y (bG fz (ag 4) (bG mQ (hU (au (aT (ag 6) az))) (jN MJ rfl F.C9 DM (au (fj (hZ Z) (ag 2) (aT (aT (ag 6) az) az) rfl)))))))) ck)))) (aH (bB 7 Y fE) (aH (iN Ģ rfl (dN rfl F.dw (au az)) (df 8 Y) (aH (cj (PW.pt (w_and (bx (hZ Z) (ag 8) (ag 5) rfl) (ji (bx (hZ Z) (ag 8) (ag 3) rfl)))) (aF (aP fE)) ck) (aH (bB 7 Y (vO (fj (hZ Z) (ag 8) (ag 3) rfl) (fk (dO (ag 7) (fk (fj (yC Z) (ag 8) (ag 5) rfl)))))) (aF (cj (PW.pt (w_and (dA (ag 7)) (ji (bx (hZ Z) (ag 8) (ag 4) rfl)))) (aF (aP fE)) ck))))) (aF (aP fE))))))
def Qp (F:aW K mg):ba P w K mg base "_law_is_book" (top 86) MT 2 xZ:=λ{_ _} G =>
 bb G [adB,adD,adA] (by kernel_rfl) λZ _ _ _ _ _ _ Y=>(aH (cj (bx zL (bt dZ rfl F.dY ee (au (ag 0))) az (bF _)) (aF (aP fE)) ck) (aH (iN Ģ rfl (dN rfl F.dw (au az)) (df 1 Z) (aF (iN Ģ rfl (dN rfl F.dw (au az)) (df 2 Z) (aF (cj (ip (dA (aB F.OL (OP F) Y (dX (ag 0) (ag 1) (ag 2))))) (aF (aP fE)) ck))))) (aF (aP fE))))
def Us (F:aW K mg):ba P w K mg base "_law_book" (top 87) pU 4 yG:=λ{_ _} G =>
 bb G [adx,adz,adB,"_law_days","_law_turn","_law_page_here"] (by kernel_rfl) λY _ _ _ _ _ _ Z=>(aH (u9 2 3 rfl Y (aO (jS cA) (aT (hU (dX az az az)) (aB F.gf (gg F) Z (aO (ag 0) az))))) (aH (iN Ģ rfl (dN rfl F.dw (au (ag 1))) (df 4 Y) (aH (bB 5 Y (aB F.Um (Ur F) Z (aO (ag 0) (ag 3)))) (aF (cj (PW.pt (w_and (bx (yC Z) (ag 5) (ag 2) rfl) (ji (dA (aB F.Qi (Qp F) Z (au (bG fz (ag 2) (hU (au (ag 5)))))))))) (aF (eT (lK (ag 2) (ag 5)))) ck)))) (aF (aP (jN lh rfl F.gU gY (au (bt (TK.VR Z) rfl F.yj yq (au (ag 2)))))))))
def Sx (F:aW K mg):ba P w K mg base "_law_marks" (top 82) pU 2 yv:=λ{_ _} G =>
 bb G pU (by kernel_rfl) λY _ _ _ _ _ _ Z=>(aF (aP (jN lh rfl F.gU gY (au (eG [adA,adx] (dN rfl F.dw (au (ag 1))) (λ_ _ _ _ _ _=>⟨(lJ (bx (dR Z) (aB F.gf (gg F) Z (aO (ag 1) az)) az (bF _))),(ag 0)⟩))))))
def JJ (F:aW K mg):ba P w K mg base "_law_heap" (top 88) MU 3 uP:=λ{_ _} G =>
 bb G [adx,"_law_most",adz,"_law_way","_law_found","_law_turn","_law_marks_here","_law_other"] (by kernel_rfl) λY _ _ _ _ _ _ Z=>(aH (u9 2 3 rfl Y (aO (bG fz az (aB F.gf (gg F) Z (aO (ag 0) (ag 1)))) (aB F.gf (gg F) Z (aO (ag 0) az)))) (aH (bB 4 Y (jS cA)) (aH (iN Ģ rfl (dN rfl F.dw (au (ag 2))) (df 5 Y) (aH (bB 6 Y (aB F.Sr (Sx F) Z (aO (ag 0) (aT (hU (aX az (aX az (aX az (aX az cA))))) (ag 3))))) (aH (cj (PW.pt (w_and (bx (lS Z) (ag 4) (hU cA) (bF _)) (ji (bx (dR Z) (aB F.gf (gg F) Z (aO (ag 0) az)) az (bF _))))) (aH (bB 7 Y (aT (ag 4) (aB F.gf (gg F) Z (aO (ag 0) (bt dZ rfl F.dY ee (au (ag 4))))))) (aF (bB 6 Y (aaP (bx (dR Z) (aB F.gf (gg F) Z (aO (ag 0) az)) az (bF _)) (jN lh rfl F.gU gY (au (QY (bG fz (ag 7) (ag 6)) rfl rfl F.yj yq rfl F.LX Mw))) (ag 7))))) ck) (aF (eT (lK (ag 4) (ag 6))))))) (aF (aP (jN lh rfl F.gU gY (au (ag 4))))))))
def Rj (F:aW K mg):ba P w K mg base "_law_marked" (top 89) MV 1 yi:=λ{_ _} G =>
 bb G ["_law_told",adC,"_law_one"] (by kernel_rfl) λZ _ _ _ _ _ _ Y=>(aH (iN Ģ rfl (VX rfl F.PC (au (ag 0))) (vw rfl (iG (df 1 Z) (iG (df 2 Z) u6))) (aF (eT (lK (ag 2) (cX (aO ko (ag 1))))))) (aF (aP (fj (dR Y) (eG ["_law_one"] (fV (ag 0)) (λ_ _ _ _ _ _=>⟨dQ,(aT (ag 0) (sR sv az))⟩)) (eG [adC] (dN rfl F.dw (au (bt dZ rfl F.dY ee (au (ag 0))))) (λ_ _ _ _ _ _=>⟨dQ,(cX (aO ko (ag 0)))⟩)) (bF _)))))
def PX (F:aW K mg):ba P w K mg base "need_page" (top 52) bJ 7 rg:=λ{_ _} G =>
 bb G bJ (by kernel_rfl) λY _ _ _ _ _ _ Z=>(aF (cj (ip (dA (aB F.Ie (Ii F) Z (au (ag 0))))) nL ck))
def Pn (F:aW K mg):qP P w K mg base "Diary" "keep" "Diary.keep" (j7 (top 55) 5) D6 9 qY:=λ{_ _} G =>
 yU G D6 (by kernel_rfl) λY _ _ _ _ _ _ Z=>(aH (cj (ip (dA (aB F.Ig (Ij F) Z (au (ag 1))))) nL ck) (aF (eT (lK (MK F.AO (ag 0)) (ag 1)))))
def AL (F:aW K mg):qP P w K mg base "Diary" "book_now" "Diary.book_now" (j7 (top 55) 4) sH 1 nJ:=λ{_ _} G =>
 yU G sH (by kernel_rfl) λZ _ _ _ _ _ _ Y=>(aF (aP (aT (MK F.AO (ag 0)) (sR sv az))))
def Po (F:aW K mg):qP P w K mg base "Diary" "tell" "Diary.tell" (j7 (top 55) 1) D7 10 qZ:=λ{_ _} G =>
 yU G D7 (by kernel_rfl) λY _ _ _ _ _ _ Z=>(aH (eT (aB F.PM (PX F) Z (au (ag 1)))) (aF (eT (ML F.O8 (Pn F) Z (ag 0) (au (jN lh rfl F.gU gY (au (bt (TK.Ui Z) rfl F.yj yq (au (bG fz (C6 F.AK (AL F) Z (ag 0)) (cX (au (ag 1)))))))))))))
def Pp (F:aW K mg):qP P w K mg base "Diary" "__init__" "Diary.__init__" (j7 (top 55) 0) sH 1 ug:=λ{_ _} G =>
 yU G sH (by kernel_rfl) λZ _ _ _ _ _ _ Y=>(aF (ZG F.AO (ag 0) (jS (au (cX cA)))))
def X2 (F:aW K mg):ba P w K mg base "law" (top 91) ZK 19 zu:=λ{_ _} G =>
 bb G [ady,adx,adE,adG,adF,adH,"_law_diary","_law_now","_law_kept","_law_one","_law_shown","_law_two","_law_told"] (by kernel_rfl) λY _ _ _ _ _ _ Z=>(aH (bB 1 Y (aB F.Sm (Ss F) Z (aO (ag 0) az))) (aH (u9 2 3 rfl Y (aO (hU (aO (aB F.JI (JJ F) Z (aO (ag 1) az)) (aB F.JI (JJ F) Z (aO (ag 1) az)))) (aB F.Uo (Us F) Z (aO (ag 1) (aB F.gf (gg F) Z (aO (ag 1) az)))))) (aH (LU 4 5 6 rfl Y (dX (jS (aO (cX (dX az az az)) (cX (dX az (aB F.gf (gg F) Z (aO (ag 1) az)) az)))) (aB F.IV (IY F) Z (au (ag 1))) (ZH F.Uk (Pp F) Z))) (aH (cj (PW.pt (w_and (bx (lS Z) (ag 3) (cX cA) (bF _)) (ji (bx (dR Z) (aT (aT (ag 3) az) az) ko (bF _))))) (aF (eT (ML F.O9 (Po F) Z (ag 6) (au (aT (ag 3) az))))) ck) (aH (u9 7 8 rfl Y (aO (C6 F.AK (AL F) Z (ag 6)) (bt (rS Z) rfl F.rT rZ (au (cX (dX (ag 2) (ag 4) (ag 3))))))) (aH (bB 9 Y (aB F.Cm (Cn F) Z (aX (ag 2) (aX (ag 4) (aX (ag 3) (aX (ag 5) cA)))))) (aH (bB 10 Y (bt (rS Z) rfl F.rT rZ (au (ag 9)))) (aH (bB 11 Y (aB F.Cm (Cn F) Z (aX (ag 2) (aX (ag 4) (aX (ag 3) (aX (ag 5) cA)))))) (aH (cj (PW.pt (w_or (bx (lS Z) (bt (rS Z) rfl F.rT rZ (au (ag 11))) (ag 10) (bF _)) (w_or (bx (lS Z) (bt (rS Z) rfl F.rT rZ (au (cX (dX (ag 2) (ag 4) (ag 3))))) (ag 8) (bF _)) (mO (ip (dA (aB F.Rf (Rj F) Z (au (bG fz (aT (ag 9) az) (aT (ag 11) az)))))))))) (aF (aP fE)) ck) (aH (cj (PW.pt (w_or (bx (lS Z) (bt (rS Z) rfl F.rT rZ (au (aB F.Cm (Cn F) Z (aX (ag 2) (aX (ag 4) (aX (ag 3) (aX (ag 5) cA))))))) (ag 10) (bF _)) (mO (bx (lS Z) (C6 F.AK (AL F) Z (ag 6)) (ag 7) (bF _))))) (aF (aP fE)) ck) (aH (bB 12 Y (aB F.IU (IW F) Z (au (ag 4)))) (aH (eT (lK (ag 4) (cX (dX az az az)))) (aF (aP (dO (fj (dR Z) (ag 12) (aT (aT (ag 9) az) az) (bF _)) (fk (fj (dR Z) (bt (rS Z) rfl F.rT rZ (au (cX (dX (ag 2) (zN (ag 4) zM (zo az)) (ag 3))))) (ag 8) (bF _))))))))))))))))))
end
end DI.aK
namespace DI
open PySem L2
def Wp {α:Type} (r:Res α) (Q:α->ae->Prop):Prop:=∃a s,r=some (.ok a,s)/\Q a s
section
variable {α β:Type} {r:Res α} {k:α->ae->Res β} {Q Q':α->ae->Prop} {R:β->ae->Prop} {env:Env} {s:ae}
theorem Wp.ok {a:α} (h:Q a s):Wp (DI.ok a s) Q:=⟨a,s,rfl,h⟩
def Wp.mono (h:Wp r Q) (i:∀a s,Q a s->Q' a s):Wp r Q':=by
 obtain⟨a,s,e,q⟩:=h;exact⟨a,s,e,i a s q⟩
theorem Wp.ak (h:Wp r λa s=>Wp (k a s) R):Wp (DI.ak r k) R:=by
 obtain⟨a,s,e,b,Z,Y,q⟩:=h;exact⟨b,Z,by rw[e];exact Y,q⟩
theorem Wp.ne (h:Wp r Q):Wp (DI.ne r) Q:=by
 obtain⟨a,s,e,q⟩:=h;exact⟨a,s,by rw[e];rfl,q⟩
def ads (e:r=some (.ok a,s)) (h:Q a s):Wp r Q:=⟨a,s,e,h⟩
def Wp.seq {f g:adq Fl} {Q:Fl->ae->Prop} (h:Wp (f env s) λfl s=>match fl with
  | .nx env=>Wp (g env s) Q
  |fl=>Q fl s):Wp (ay f g env s) Q:=by
 obtain⟨fl,Z,e,h⟩:=h;unfold ay;rw[e]
 cases fl with
 |nx env=>exact h
 |rt d=>exact⟨_,_,rfl,h⟩
 |bk e=>exact⟨_,_,rfl,h⟩
 |ct e=>exact⟨_,_,rfl,h⟩
def Wp.iV {Q:Fl->ae->Prop} (I:Nat->Env->ae->Prop) (all:List D) (h0:I 0 env s)
 (step:∀i d env s,all[i]?=some d->I i env s->∃aA,g d env=some aA/\Wp (b aA s) λfl s=>match fl with
   | .nx e=>I (i+1) e s
   | .ct e=>I (i+1) e s
   | .bk e=>Q (.nx e) s
   | .rt d=>Q (.rt d) s) (fin:∀env s,I all.length env s->Q (.nx env) s):Wp (lH g b all env s) Q:=by
 have key:∀(Z:List D) (i:Nat) (env:Env) (s:ae),all.drop i=Z->i<=all.length->I i env s->Wp (lH g b Z env s) Q:=by
  intro Z
  induction Z with
  |nil =>
   intro i env s Y hi h;have e:i=all.length:=by
    have:=Ķ List.length Y;simp at this;omega
   subst e;exact Wp.ok (fin _ _ h)
  |cons d Z ih =>
   intro i env s Y hi h;have X:all[i]?=some d:=by
    have:=Ķ (λl=>l[0]?) Y;simpa using this
   have W:all.drop (i+1)=Z:=by
    have:=Ķ (List.drop 1) Y;simpa [List.drop_drop] using this
   obtain⟨aA,U,T⟩:=step i d env s X h;have V:=(Æ.mp X).1;unfold lH;rw[U];refine Wp.ak (T.mono λfl s q=>?_)
   cases fl with
   |nx e=>exact ih (i+1) e s W V q
   |ct e=>exact ih (i+1) e s W V q
   |bk e=>exact Wp.ok q
   |rt d=>exact Wp.ok q
 exact key all 0 env s rfl (ü _) h0
def uQ {nt:Nat} {t:adq Bool} {Q:List D->ae->Prop} (I:Nat->List D->ae->Prop) (all:List D) (h0:I 0 [] s)
 (step:∀i d acc s,all[i]?=some d->I i acc s->∃env,g d (Ï nt none++caps)=some env/\Wp (t env s) λb s=>if b=true then Wp (f env s) λx s=>I (i+1) (acc++[x]) s else I (i+1) acc s)
 (fin:∀acc s,I all.length acc s->Q acc s):Wp (dW nt caps g t f all s) Q:=by
 have key:∀(Z:List D) (i:Nat) (acc:List D) (s:ae),all.drop i=Z->i<=all.length->I i acc s->Wp (dW nt caps g t f Z s) λX s=>Q (acc++X) s:=by
  intro Z
  induction Z with
  |nil =>
   intro i acc s Y hi h;have e:i=all.length:=by
    have:=Ķ List.length Y;simp at this;omega
   subst e;exact Wp.ok (by rw[Ē];exact fin _ _ h)
  |cons d Z ih =>
   intro i acc s Y hi h;have W:all[i]?=some d:=by
    have:=Ķ (λl=>l[0]?) Y;simpa using this
   have V:all.drop (i+1)=Z:=by
    have:=Ķ (List.drop 1) Y;simpa [List.drop_drop] using this
   obtain⟨R,T,S⟩:=step i d acc s W h;have U:=(Æ.mp W).1;unfold dW;rw[T];refine Wp.ak (Wp.ne (S.mono λb s q=>?_))
   cases b with
   |true =>
    rw[Þ rfl] at q |-;refine Wp.ak (Wp.ne (q.mono λx s q=>?_));refine Wp.ak ((ih (i+1) (acc++[x]) s V U q).mono λX s q=>Wp.ok ?_);rw[Ĩ] at q;exact q
   |false =>
    rw[å Ö] at q |-;exact ih (i+1) acc s V U q
 have:=key all 0 [] s rfl (ü _) h0;simpa using this
end
section
variable {α β:Type} {Q:D->ae->Prop} {QL:List D->ae->Prop} {QB:Bool->ae->Prop} {QF:Fl->ae->Prop} {QO:Option Int->ae->Prop} {env:Env} {s:ae} {f g h:adq D} {fa:adq (List D)} {c c':adq Bool} {st cJ:adq Fl} {o o':D->D->ae->Res D} {u:D->ae->Res D} {bf:List D->ae->Res D}
def aR {a:α} {Q:α->ae->Prop}:Wp (ok a s) Q=Q a s:=propext ⟨λ⟨b,Z,e,q⟩=>by cases e;exact q,λq=>⟨a,s,rfl,q⟩⟩
def X3 {Q:α->ae->Prop}:Wp (some (Except.ok a,s)) Q=Q a s:=aR
def bw {r:Res α} {k:α->ae->Res β} {R:β->ae->Prop}:Wp (ak r k) R=Wp r λa s=>Wp (k a s) R:=propext ⟨λ⟨b,Z,e,q⟩=>by
 obtain⟨a,s,e1,e2⟩:=rG e;exact⟨a,s,e1,b,Z,e2,q⟩,λh=>Wp.ak h⟩
def vH {Q:α->ae->Prop}:Wp (ne r) Q=Wp r Q:=propext ⟨λ⟨b,Z,e,q⟩=>⟨b,Z,Cd e,q⟩,λh=>h.ne⟩
def bL {a:D} {r:Env}:Wp (aa 0 (some a::r) s) Q=Q a s:=by rw[show aa 0 (some a::r) s=ok a s from rfl,aR]
def bP {i:Nat} {a:Option D} {r:Env}:Wp (aa (i+1) (a::r) s) Q=Wp (aa i r s) Q:=by rw[show aa (i+1) (a::r) s=aa i r s from rfl]
def fG:Wp (eC d env s) Q=Q d s:=by rw[show eC d env s=ok d s from rfl,aR]
def vI:Wp (e1 u f env s) Q=Wp (f env s) λx s=>Wp (u x s) Q:=by unfold e1;rw[bw]
def dF:Wp (e2 o f g env s) Q=Wp (f env s) λx s=>Wp (g env s) λy s=>Wp (o x y s) Q:=by unfold e2;simp only[bw]
def cw:Wp (ah env s) QL=QL [] s:=by unfold ah;rw[aR]
def bZ:Wp (af f fa env s) QL=Wp (f env s) λx s=>Wp (fa env s) λxs s=>QL (x::xs) s:=by unfold af;simp only[bw,aR]
def lM:Wp (eB bf fa env s) Q=Wp (fa env s) λds s=>Wp (bf ds s) Q:=by unfold eB;rw[bw]
def wp_call:Wp (aw fn fa env s) Q=Wp (fa env s) λds s=>Wp (fn ds s) Q:=by unfold aw;simp only[bw,vH]
def nN {Q:α->ae->Prop}:Wp (gZ ds r) Q=(ds.length<=Ø/\Wp r Q):=propext ⟨λ⟨b,Z,e,q⟩=>by
 unfold gZ at e;split at e
 ·exact⟨by assumption,b,Z,e,q⟩
 ·(cases e),λ⟨Y,b,Z,e,q⟩=>⟨b,Z,by unfold gZ;rw[Þ Y];exact e,q⟩⟩
def lC:Wp (cg fa env s) Q=Wp (fa env s) λds s=>ds.length<=Ø/\Q (.tup ds) s:=by unfold cg;simp only[bw,nN,aR]
def pH:Wp (eY fa env s) Q=Wp (fa env s) λds s=>ds.length<=Ø/\Q (.lst ds) s:=by unfold eY;simp only[bw,nN,aR]
def vi:Wp (eNew fa env s) Q=Wp (fa env s) λds s=>ds.length<=Ø/\Q (.ai s.length) (s++[.lst ds]):=by unfold eNew;simp only[bw,nN,aR]
def LY:Wp (oo f env s) Q=Wp (f env s) λd s=>Wp (bS d s) Q:=by unfold oo;rw[bw]
def mI:Wp (aY f env s) QB=Wp (f env s) λd s=>Wp (ix d s) QB:=by unfold aY;rw[bw]
def jO {b:Bool}:Wp (ix (.bl b) s) QB=QB b s:=by rw[show ix (.bl b) s=ok b s from rfl,aR]
def si:Wp (cx f env s) QB=Wp (f env s) λd s=>Wp (truth d s) QB:=by unfold cx;rw[bw]
def pq {b:Bool}:Wp (truth (.bl b) s) QB=QB b s:=by rw[show truth (.bl b) s=ok b s from rfl,aR]
def uR:Wp (ei c c' env s) QB=Wp (c env s) λb s=>if b=true then Wp (c' env s) QB else QB false s:=by
 unfold ei;rw[bw];congr 1;funext b s
 cases b<;>simp[aR]
def yV:Wp (ie c c' env s) QB=Wp (c env s) λb s=>if b=true then QB true s else Wp (c' env s) QB:=by
 unfold ie;rw[bw];congr 1;funext b s
 cases b<;>simp[aR]
def KL:Wp (fm c env s) QB=Wp (c env s) λb s=>QB (!b) s:=by unfold fm;simp only[bw,aR]
def Co:Wp (cH f g env s) Q=Wp (f env s) λx s=>Wp (ix x s) λb s=>if b=true then Wp (g env s) Q else Q (.bl false) s:=by
 unfold cH;rw[bw];congr 1;funext x s;rw[bw];congr 1;funext b s
 cases b<;>simp[aR]
def LZ:Wp (l9 f g env s) Q=Wp (f env s) λx s=>Wp (ix x s) λb s=>if b=true then Q (.bl true) s else Wp (g env s) Q:=by
 unfold l9;rw[bw];congr 1;funext x s;rw[bw];congr 1;funext b s
 cases b<;>simp[aR]
def V0:Wp (sQ f env s) Q=Wp (f env s) λx s=>Wp (ix x s) λb s=>Q (.bl (!b)) s:=by unfold sQ;simp only[bw,aR]
def X4:Wp (Al c f g env s) Q=Wp (c env s) λb s=>if b=true then Wp (f env s) Q else Wp (g env s) Q:=by
 unfold Al;rw[bw];congr 1;funext b s
 cases b<;>simp
def X5:Wp (tO o o' f g h env s) Q=Wp (f env s) λx s=>Wp (g env s) λy s=>Wp (o x y s) λz s=>Wp (ix z s) λb s=>if b=true then Wp (h env s) λu s=>Wp (o' y u s) Q else Q (.bl false) s:=by
 unfold tO;simp only[bw];congr 1;funext x s;congr 1;funext y s;congr 1;funext z s;congr 1;funext b s
 cases b<;>simp[aR,bw]
def kj:Wp (bM env s) QF=QF (.nx env) s:=by unfold bM;rw[aR]
def iH:Wp (aM f env s) QF=Wp (f env s) λd s=>QF (.rt d) s:=by unfold aM;simp only[bw,aR]
def rM:Wp (cB f env s) QF=Wp (f env s) λ_ s=>QF (.nx env) s:=by unfold cB;simp only[bw,aR]
def Ut:Wp (Mp env s) QF=QF (.ct env) s:=by unfold Mp;rw[aR]
def nE (st:adq Fl) (Q:Fl->ae->Prop):Fl->ae->Prop:=λfl s=>match fl with
 | .nx env=>Wp (st env s) Q
 |fl=>Q fl s
def nP:Wp (ay st cJ env s) QF=Wp (st env s) (nE cJ QF):=propext ⟨λh=>by
 unfold ay at h;rw[bw] at h;refine h.mono λZ s q=>?_
 cases Z with
 |nx e=>exact q
 |rt d=>have q:Wp (ok (Fl.rt d) s) QF:=q;rw[aR] at q;exact q
 |bk d=>have q:Wp (ok (Fl.bk d) s) QF:=q;rw[aR] at q;exact q
 |ct d=>have q:Wp (ok (Fl.ct d) s) QF:=q;rw[aR] at q;exact q,λh=>Wp.seq (h.mono λZ s q=>by cases Z<;>exact q)⟩
def adu (h:∀R,R=cJ->Wp (st env s) (nE R QF)):Wp (ay st cJ env s) QF:=by rw[nP];exact h _ rfl
def cz:nE st QF (.nx env) s=Wp (st env s) QF:=rfl
def yW:nE st QF (.rt d) s=QF (.rt d) s:=rfl
def X6:nE st QF (.ct env) s=QF (.ct env) s:=rfl
def mJ:Wp (bE c st cJ env s) QF=Wp (c env s) λb s=>if b=true then Wp (st env s) QF else Wp (cJ env s) QF:=by
 unfold bE;rw[bw];congr 1;funext b s
 cases b<;>simp
def iI {gd:D->Env->Option Env}:Wp (aZ f gd env s) QF=Wp (f env s) λd s=>∃e,gd d env=some e/\QF (.nx e) s:=by
 unfold aZ;rw[bw];congr 1;funext d s
 cases h:gd d env with
 |none=>exact propext ⟨λ⟨_,_,e,_⟩=>(by cases e),λ⟨_,e,_⟩=>(by cases e)⟩
 |some e=>rw[aR];exact propext ⟨λq=>⟨e,rfl,q⟩,λ⟨Z,z,q⟩=>by cases z;exact q⟩
def iu {i:Nat} {P:Env->Prop}:(∃e,gN i d env=some e/\P e)=P (env.set i (some d)):=propext ⟨λ⟨e,z,q⟩=>by cases z;exact q,λq=>⟨_,rfl,q⟩⟩
def ZL {P:Env->Prop}:(∃e,gT gs (.tup ds) env=some e/\P e)=∃e,hW gs ds env=some e/\P e:=rfl
def V1 {P:Env->Prop}:(∃e,hW [] [] env=some e/\P e)=P env:=propext ⟨λ⟨e,z,q⟩=>by cases z;exact q,λq=>⟨_,rfl,q⟩⟩
def Uu {i:Nat} {P:Env->Prop}:(∃e,hW (gN i::gs) (d::ds) env=some e/\P e)=∃e,hW gs ds (env.set i (some d))=some e/\P e:=rfl
def uT {i j:Nat}:Wp (ox i j fa env s) QF=Wp (fa env s) λds s=>∃x y,ds=[x,y]/\QF (.nx ((env.set i (some x)).set j (some y))) s:=by
 unfold ox;rw[bw];congr 1;funext ds s
 match ds with
 | [x,y] =>
  show Wp (ok (Fl.nx ((env.set i (some x)).set j (some y))) s) QF=_;rw[aR];exact propext ⟨λq=>⟨x,y,rfl,q⟩,λ⟨Z,Y,e,q⟩=>by cases e;exact q⟩
 | []=>exact propext ⟨λ⟨_,_,e,_⟩=>(by cases e),λ⟨_,_,e,_⟩=>(by cases e)⟩
 | [_]=>exact propext ⟨λ⟨_,_,e,_⟩=>(by cases e),λ⟨_,_,e,_⟩=>(by cases e)⟩
 |_::_::_::_=>exact propext ⟨λ⟨_,_,e,_⟩=>(by cases e),λ⟨_,_,e,_⟩=>(by cases e)⟩
def X7 {P:D->D->Prop}:(∃x' y',[x,y]=[x',y']/\P x' y')=P x y:=propext ⟨λ⟨_,_,e,q⟩=>by cases e;exact q,λq=>⟨x,y,rfl,q⟩⟩
def mC:Wp (fW it gd st env s) QF=Wp (it env s) λds s=>Wp (lH gd st ds env s) QF:=by unfold fW;rw[bw]
def KN {fo fi:adq D}:Wp (ow f fo fi env s) QF=Wp (f env s) λx s=>Wp (fo env s) λd s=>Wp (fi env s) λn s=>∃s',lV d n x s=some s'/\QF (.nx env) s':=by
 unfold ow;simp only[bw];congr 1;funext x s;congr 1;funext d s;congr 1;funext n s
 cases h:lV d n x s with
 |none=>exact propext ⟨λ⟨_,_,e,_⟩=>(by cases e),λ⟨_,e,_⟩=>(by cases e)⟩
 |some e=>simp only[aR];exact propext ⟨λq=>⟨e,rfl,q⟩,λ⟨Z,z,q⟩=>by cases z;exact q⟩
def yX:Wp (gr f g env s) Q=Wp (f env s) λd s=>iU d s=true/\Wp (g env s) λx s=>Wp (ia d x s) Q:=by
 unfold gr;rw[bw];congr 1;funext d s
 cases h:iU d s with
 |true=>rw[Þ rfl,bw];simp
 |false=>rw[å Ö];exact propext ⟨λ⟨_,_,e,_⟩=>(by cases e),λ⟨e,_⟩=>(by cases e)⟩
def tj (Q:D->ae->Prop):Fl->ae->Prop:=λZ s=>match Z with
 | .rt d=>Q d s
 | .nx _=>Q .ax s
 |_=>False
def iP:Wp (aN np ns st ds s) Q=(ds.length=np/\Wp (st (ds.map some++Ï (ns-np) none) s) (tj Q)):=by
 unfold aN;by_cases h:ds.length=np
 ·rw[Þ h,bw]
  refine propext ⟨λq=>⟨h,q.mono λZ s q=>?_⟩,λ⟨_,q⟩=>q.mono λZ s q=>?_⟩
  ·cases Z with
   |rt d=>exact(show Wp (ok d s) Q from q) |> λz=>by rw[aR] at z;exact z
   |nx e=>exact(show Wp (ok D.ax s) Q from q) |> λz=>by rw[aR] at z;exact z
   |bk e=>obtain⟨_,_,e,_⟩:=q;cases e
   |ct e=>obtain⟨_,_,e,_⟩:=q;cases e
  ·cases Z with
   |rt d=>exact Wp.ok q
   |nx e=>exact Wp.ok q
   |bk e=>exact q.elim
   |ct e=>exact q.elim
 ·rw[å h]
  exact propext ⟨λ⟨_,_,e,_⟩=>(by cases e),λ⟨e,_⟩=>absurd e h⟩
def pJ:tj Q (.rt d) s=Q d s:=rfl
def X8:tj Q (.nx env) s=Q .ax s:=rfl
def rV:Wp (cE nt cap it gd c f env s) Q=Wp (it env s) λds s=>ds.length<=Ø/\Wp (dW nt (dP cap env) gd c f ds s) λxs s=>Q (.lst xs) s:=by
 unfold cE;simp only[bw,nN,aR]
def zx:Wp (i9 f l' h' env s) Q=Wp (f env s) λd s=>Wp (l' env s) λlo s=>Wp (h' env s) λhi s=>Wp (lA d lo hi s) Q:=by unfold i9;simp only[bw]
def yY:Wp (i8 env s) QO=QO none s:=by unfold i8;rw[aR]
def uU {i:Int} (hi:f env s=ok (.int i) s):Wp (iT f env s) QO=QO (some i) s:=by unfold iT;rw[hi,de,aR]
end
def Nr (s:ae) (k:Nat):Prop:=∃a b:Int,s[k]?=some (.lst [.int a,.int b])/\0<=a/\0<=b/\b<2147483647
structure Ex (k:Nat) (s s':ae):Prop where
 len:s.length<=s'.length
 val:∀j,j<s.length->j≠k->s'[j]?=s[j]?
def Ex.refl (k:Nat) (s:ae):Ex k s s:=⟨adv _,λ_ _ _=>rfl⟩
theorem Ex.trans (h:Ex k a b) (g:Ex k b c):Ex k a c:=⟨Ú h.len g.len,λj Z Y=>(g.val j (Ì Z h.len) Y).trans (h.val j Z Y)⟩
theorem Ex.set (k:Nat) (s:ae) (c:Cell):Ex k s (s.set k c):=⟨by simp,λj _ Z=>ç (ŕ Z)⟩
def Ex.app (k:Nat) (s:ae) (c:List Cell):Ex k s (s++c):=⟨by simp,λj Z _=>ã Z⟩
def Gh (x y:D) (k:Nat) (s:ae) (h:s[k]?=some (.lst [x,y])):ar (.ai k) (.int 0) s=ok x s:=by
 simp[ar,ig,res,h,c9,e9,bq]
def Of (x y:D) (k:Nat) (s:ae) (h:s[k]?=some (.lst [x,y])):ar (.ai k) (.int 1) s=ok y s:=by
 simp[ar,ig,res,h,c9,e9,bq]
def Nt (x y z:D) (k:Nat) (s:ae) (h:s[k]?=some (.lst [x,y])):lV (.ai k) (.int 0) z s=some (s.set k (.lst [z,y])):=by
 simp[lV,h,e9]
@[simp] theorem yZ {a:D} {r:Env} {s:ae}:aa 0 (some a::r) s=ok a s:=rfl
@[simp] theorem za {i:Nat} {a:Option D} {r:Env} {s:ae}:aa (i+1) (a::r) s=aa i r s:=rfl
def ltI (i j:Int) (s:ae):jY (.int i) (.int j) s=ok (.bl (decide (i<j))) s:=rfl
def Og (i j:Int) (s:ae):mW (.int i) (.int j) s=ok (.bl (decide (j<i))) s:=rfl
def geI (i j:Int) (s:ae):vW (.int i) (.int j) s=ok (.bl (decide (j<=i))) s:=rfl
def leI (i j:Int) (s:ae):ot (.int i) (.int j) s=ok (.bl (decide (i<=j))) s:=rfl
def Nu (i j:Int) (s:ae):bX (.int i) (.int j) s=ok (.int (i+j)) s:=rfl
def Nv (i j:Int) (s:ae):su (.int i) (.int j) s=ok (.int (i-j)) s:=rfl
def eqI (i j:Int) (s:ae):bH (.int i) (.int j) s=ok (.bl (i==j)) s:=rfl
def neI (i j:Int) (s:ae):dB (.int i) (.int j) s=ok (.bl (!(i==j))) s:=rfl
def oy {i j:Int} (s:ae) (h:0<j):ku (.int i) (.int j) s=ok (.int (i % j)) s:=by
 simp[ku,ER,h,bq]
def zU (s:ae) (h:0<j) (h2:j<1073741824):pQ (.int i) (.int j) s=ok (.int (i / j)) s:=by
 simp[pQ,ES,h,h2,bq]
def tm (s:ae) (h:vz i j=true):fO (.int i) (.int j) s=ok (.int (i*j)) s:=by
 simp[fO,EO,h,bq]
def mulOk_of (h1:-(2 ^ 64)<i) (h2:i<2 ^ 64):vz i j=true:=by
 unfold vz;rw[Õ h1,Õ h2];rfl
def le_size (h:n<=1000000):n<=Ø:=Ú h (by decide)
def BH (h1:-1000000<=j) (h2:j<=1000000):jT j=true:=by
 unfold jT;rw[Õ (show -(2 ^ 62)<=j by omega),Õ (show j<2 ^ 62 by omega)];rfl
def zb {α:Type} {xs:List α} {i:Int} (h0:0<=i) (h1:i<xs.length):∃x,c9 xs i=some x/\xs[i.toNat]?=some x:=by
 have Z:i.toNat<xs.length:=by omega
 refine⟨xs[i.toNat],?_,Ô Z⟩;unfold c9 e9;rw[Þ h0,Þ h1];exact Ô Z
def V2 {ns:List Int} {i:Int} {s:ae} (h0:0<=i):∃c:Int,uu [.bV ns,.int i] s=ok (.int c) s:=by
 by_cases h:i<(ns.length:Int)
 ·obtain⟨x,Z,_⟩:=zb h0 h
  refine⟨x,?_⟩;have Y:ar (.bV ns) (.int i) s=ok (.int x) s:=by simp[ar,ig,res,Z,bq]
  simp only[uu,aN,ay,bE,aY,e2,eB,af,ah,bN,qc,res,bq,yZ,za,eC,de,Î,Ğ,ď,ē,ê,Ć,ï,ltI,ix,Õ h,aM,Y,Ï]
 ·refine⟨0,?_⟩
  simp only[uu,aN,ay,bE,aY,e2,eB,af,ah,bN,qc,res,bq,yZ,za,eC,de,Î,Ğ,ď,ē,ê,Ć,ï,ltI,ix,æ h,Ã,î,bM,aM,Ï]
structure bY (m:Nat) (ns:List Int):Prop where
 lo:∀x∈ns,0<=x/\x<m
 up:ns.Pairwise (· < ·)
noncomputable abbrev mD (ns:List Int):D:=.tup (ns.map D.int)
def bY.len (h:bY m ns):ns.length<=m:=by
 have key:∀(l:List Int) (b:Int),l.Pairwise (· < ·)->(∀x∈l,b<=x/\x<m)->(l.length:Int)<=m-b\/l=[]:=by
  intro l
  induction l with
  |nil=>intro b _ _;exact .inr rfl
  |cons x l ih =>
   intro b X Z;obtain⟨W,V⟩:=Ă.mp X;have U:=Z x Ñ;left
   rcases ih (x+1) V (λy Y=>⟨by have:=W y Y;omega,(Z y (Ò _ Y)).2⟩) with h|h
   ·rw[ê];omega
   ·subst h
    simp;omega
 rcases key ns 0 h.up h.lo with h'|h'
 ·omega
 ·subst h';simp
def eV (h:fa env s=ok [.int n] s1) (hn:n<=1000000):cV fa env s=ok (cu 0 n) s1:=by
 unfold cV;rw[h,de]
 show (if jT (n:Int)=true then ok (cu 0 (n:Int).toNat) s1 else none)=_
 rw[Þ (BH (by omega) (by omega)),Ĳ]
def KO {n:Nat} {i:Int} (h:fa env s=ok [.int i] s1) (hi:i=n) (hn:n<=1000000):cV fa env s=ok (cu 0 n) s1:=by
 subst hi;exact eV h hn
def X9 (h:fa env s=ok [.int i,.int j] s1) (h1:-1000000<=i) (h2:i<=1000000) (h3:-1000000<=j) (h4:j<=1000000):An fa env s=ok (cu i (j-i).toNat) s1:=by
 unfold An;rw[h,de]
 show (if (jT i&&jT j)=true then ok (cu i (j-i).toNat) s1 else none)=_
 rw[Þ (by rw[BH h1 h2,BH h3 h4];rfl)]
def Ya:Wp (jY (.int i) (.int j) s) Q=Q (.bl (decide (i<j))) s:=by rw[ltI,aR]
def L0:Wp (mW (.int i) (.int j) s) Q=Q (.bl (decide (j<i))) s:=by rw[Og,aR]
def Yb:Wp (vW (.int i) (.int j) s) Q=Q (.bl (decide (j<=i))) s:=by rw[geI,aR]
def L3:Wp (ot (.int i) (.int j) s) Q=Q (.bl (decide (i<=j))) s:=by rw[leI,aR]
def KP:Wp (bX (.int i) (.int j) s) Q=Q (.int (i+j)) s:=by rw[Nu,aR]
def KQ:Wp (su (.int i) (.int j) s) Q=Q (.int (i-j)) s:=by rw[Nv,aR]
def Yc:Wp (bH (.int i) (.int j) s) Q=Q (.bl (i==j)) s:=by rw[eqI,aR]
def Yd:Wp (dB (.int i) (.int j) s) Q=Q (.bl (!(i==j))) s:=by rw[neI,aR]
end DI
noncomputable def DI.VCr:=ö @DI.aR <| ö @DI.X3 <| ö @DI.vH <| ö @DI.bL <| ö @DI.bP <| ö @DI.fG <| ö @DI.vI <| ö @DI.dF <| ö @DI.cw <| ö @DI.bZ <| ö @DI.lM <| ö @DI.wp_call <| ö @DI.lC <| ö @DI.pH <| ö @DI.vi <| ö @DI.LY <| ö @DI.mI <| ö @DI.jO <| ö @DI.si <| ö @DI.pq <| ö @DI.uR <| ö @DI.yV <| ö @DI.KL <| ö @DI.Co <| ö @DI.LZ <| ö @DI.V0 <| ö @DI.X4 <| ö @DI.X5 <| ö @DI.kj <| ö @DI.iH <| ö @DI.rM <| ö @DI.Ut <| ö @DI.nP <| ö @DI.mJ <| ö @DI.iI <| ö @DI.iu <| ö @DI.V1 <| ö @DI.uT <| ö @DI.X7 <| ö @DI.mC <| ö @DI.KN <| ö @DI.yX <| ö @DI.iP <| ö @DI.rV <| ö @DI.zx <| ö @DI.yY <| ö @DI.Ya <| ö @DI.L0 <| ö @DI.Yb <| ö @DI.L3 <| ö @DI.KP <| ö @DI.KQ <| ö @DI.Yc <| @DI.Yd
local macro_rules | `(tactic| simp only[VC])=>`(tactic| simp only[VC,true_and])
local macro_rules | `(tactic| simp only[VC,$xs,*])=>`(tactic| simp only[DI.VCr,DI.cz,DI.yW,DI.X6,DI.ZL,DI.Uu,DI.pJ,DI.X8,List.map_cons,List.map_nil,List.cons_append,List.nil_append,List.length_cons,List.length_nil,List.set_cons_succ,List.set_cons_zero,List.replicate,true_and,Nat.reduceSub,Nat.reduceAdd,$xs,*])
namespace DI
open PySem L2
def adt {α:Type} {r:Res α} {d:α} {s:ae} (h:Wp r λa s'=>a=d/\s'=s):r=DI.ok d s:=by
 obtain⟨a,s',e,rfl,rfl⟩:=h;exact e
def k9 {f:adq D} {env:Env} {s s1:ae} {ds:List D} (h:f env s=ok (.tup ds) s1):cZ f env s=ok ds s1:=by
 unfold cZ;rw[h];rfl
def lg (h:f env s=ok (.lst ds) s1):cZ f env s=ok ds s1:=by
 unfold cZ;rw[h];rfl
theorem oY:∀(ns:List Int),cU (ns.map D.int)=true
 | []=>rfl
 |n::ns=>by simp only[Î,cU,lay,oY ns,đ]
theorem IZ:∀(ns:List Int),c8 (ns.map D.int)=0
 | []=>rfl
 |n::ns=>by simp only[Î,c8,dep,IZ ns,Nat.max_self]
def Cp (x:Int) (ns:List Int):((ns.map D.int).any λy=>beq y (.int x))=decide (x∈ns):=by
 induction ns with
 |nil=>simp
 |cons n ns ih =>
  simp only[Î,ab2,ih,beq];by_cases h:n=x
  ·subst h;simp
  ·have Z:¬ x=n:=λe=>h e.symm
   simp[h,Z]
def pw {x:Int} {ns:List Int} {s:ae}:di (.int x) (mD ns) s=ok (.bl (decide (x∈ns))) s:=by
 have Z:mR 100 (.int x) (ns.map D.int)=true:=by simp only[mR,lay,oY,dep,đ,ü,į]
 have e:inD (.int x) (ns.map D.int)=some (decide (x∈ns)):=by unfold inD;rw[Þ Z,Cp]
 unfold di;rw[show mS (mD ns) s=some (ns.map D.int) from rfl];simp only[e];rfl
def Rk:gX (.int x) (mD ns) s=ok (.bl (!decide (x∈ns))) s:=by
 have Z:mR 100 (.int x) (ns.map D.int)=true:=by simp only[mR,lay,oY,dep,đ,ü,į]
 have e:inD (.int x) (ns.map D.int)=some (decide (x∈ns)):=by unfold inD;rw[Þ Z,Cp]
 unfold gX;rw[show mS (mD ns) s=some (ns.map D.int) from rfl];simp only[e];rfl
noncomputable def sub (a b:List Int):Bool:=a.all λx=>decide (x∈b)
def nQ:sub a b=true↔∀x∈a,x∈b:=by simp[sub]
def nR {α:Type} (p:α->Bool) (xs:List α) (s:ae):mY [.lst (xs.map λx=>D.bl (p x))] s=ok (.bl (xs.all p)) s:=by
 have e:gJ (xs.map λx=>D.bl (p x))=some (xs.map p):=by
  have:=Kw (bs:=xs.map p);rw[ī] at this;exact this
 show bq ((gJ (xs.map λx=>D.bl (p x))).map λ(bs:List Bool)=>D.bl (bs.all id)) s=_;rw[e];show ok (D.bl ((xs.map p).all id)) s=_;rw[List.all_map];rfl
def filter_tt {α:Type} (xs:List α):xs.filter (λ_=>true)=xs:=by simp
def oZ {nt:Nat} {caps:Env} {g:D->Env->Option Env} {t:adq Bool} {f:adq D} {s:ae} (p:Int->Bool) (h:Int->D) (ns:List Int) (hh:∀n∈ns,∃env,g (.int n) (Ï nt none++caps)=some env/\t env s=ok (p n) s/\(p n=true->f env s=ok (h n) s)) :
  dW nt caps g t f (ns.map D.int) s=ok ((ns.filter p).map h) s:=by
 induction ns with
 |nil=>rfl
 |cons n ns ih =>
  obtain⟨env,Y,X,W⟩:=hh n Ñ;have ih:=ih λV U=>hh V (Ò _ U);rw[Î];unfold dW;rw[Y];simp only[X,kq,de]
  cases Z:p n with
  |true=>simp only[ï,W Z,kq,de,ih,ť,Z,Î]
  |false=>simp only[Ã,î,ih,ť,Z]
def comp_map {α:Type} (d:α->D) (p:α->Bool) (h:α->D) (xs:List α) (hh:∀x∈xs,∃env,g (d x) (Ï nt none++caps)=some env/\t env s=ok (p x) s/\(p x=true->f env s=ok (h x) s)) :
  dW nt caps g t f (xs.map d) s=ok ((xs.filter p).map h) s:=by
 induction xs with
 |nil=>rfl
 |cons n T ih =>
  obtain⟨env,Y,X,W⟩:=hh n Ñ;have ih:=ih λV U=>hh V (Ò _ U);rw[Î];unfold dW;rw[Y];simp only[X,kq,de]
  cases Z:p n with
  |true=>simp only[ï,W Z,kq,de,ih,ť,Z,Î]
  |false=>simp only[Ã,î,ih,ť,Z]
def A9 {a b:List Int} {s:ae} (hb:b.length<=1000000):rA [mD a,mD b] s=ok (.bl (sub b a)) s:=by
 refine adt ?_;unfold rA;simp only[VC];refine ads (k9 rfl) ⟨le_size (by rw[Â];exact hb),?_⟩;refine ads (oZ (λ_=>true) (λx=>.bl (decide (x∈a))) b λn _=>⟨[some (.int n),some (mD a)],rfl,rfl,λ_=>?_⟩) ?_
 ·show e2 di (aa 0) (aa 1) _ _=_
  exact pw
 ·rw[filter_tt]
  exact ads (nR _ _ _) ⟨rfl,rfl⟩
def Sy:A2 [.int i] s=ok (.bl (decide (0<=i))) s:=by
 rfl
def pb:mv [.int i,.int m] s=ok (.bl (decide (0<=i)&&decide (i<m))) s:=by
 refine adt ?_;unfold mv;simp only[VC,Sy];by_cases h:0<=i
 ·simp[h]
 ·simp[h]
def Cq:rq [.int i] s=ok (.bl (decide (0<=i)&&decide (i<8))) s:=by
 refine adt ?_;unfold rq;simp only[VC,pb,acB]
def JK (xs:List D):cutD xs (some 1) none=xs.drop 1:=by
 unfold cutD HT.aU
 cases xs with
 |nil=>simp
 |cons x xs =>
  simp only[ê]
  have e:(if (1:Int)<0 then (1+((xs.length+1:Nat):Int)).toNat else min (1:Int).toNat (xs.length+1))=1:=by simp
  simp
noncomputable def rise:List Int->Bool
 | []=>true
 | [_]=>true
 |a::b::r=>decide (a<b)&&rise (b::r)
def KR (h:ns.Pairwise (· < ·)):rise ns=true:=by
 induction ns with
 |nil=>rfl
 |cons a ns ih =>
  cases ns with
  |nil=>rfl
  |cons b r =>
   obtain⟨Z,Y⟩:=Ă.mp h;simp only[rise,ih Y,Bool.and_true];exact Õ (Z b Ñ)
theorem JL:∀(ns:List Int),((ns.zip (ns.drop 1)).all λp=>decide (p.1<p.2))=rise ns
 | []=>rfl
 | [_]=>rfl
 |a::b::r=>by
  have ih:=JL (b::r);simp only[List.drop_succ_cons,List.drop_zero,ņ,List.all_cons,rise] at ih |-;rw[ih]
def Sz (xs ys:List Int):iS (xs.map D.int) (ys.map D.int)=(xs.zip ys).map λp=>D.tup [.int p.1,.int p.2]:=by
 unfold iS;rw[List.zip_map,ī];rfl
def JM (h:fa env s=ok [.tup xs,.tup ys] s1):sS fa env s=ok (iS xs ys) s1:=by
 unfold sS;rw[h];rfl
def Ja (hl:ns.length<=1000000):oW [mD ns] s=ok (.bl (rise ns)) s:=by
 refine adt ?_;unfold oW;simp only[VC];have Z:sS (af (aa 0) (af (i9 (aa 0) (iT (eC (.int 1))) i8) ah)) [some (mD ns)] s=ok (iS (ns.map D.int) ((ns.drop 1).map D.int)) s:=by
  refine JM (adt ?_);simp only[VC];rw[uU (i:=1) rfl]
  try simp only[VC]
  refine ads (show lA (mD ns) (some 1) none s=ok (.tup (cutD (ns.map D.int) (some 1) none)) s from rfl) ⟨?_,rfl⟩;rw[JK,List.map_drop]
 refine ads Z ⟨le_size (by rw[Bu];simp only[Â];omega),?_⟩;rw[Sz];refine ads (comp_map (λp:Int×Int=>D.tup [.int p.1,.int p.2]) (λ_=>true) (λp=>.bl (decide (p.1<p.2))) _ λp _=>⟨[some (.int p.1),some (.int p.2)],rfl,rfl,λ_=>rfl⟩) ?_;rw[filter_tt];exact ads (nR _ _ _) ⟨by rw[JL],rfl⟩
def Ik (h:bY 8 ns):mr [mD ns] s=ok (.bl true) s:=by
 have Y:=h.len;refine adt ?_;unfold mr;simp only[VC];refine ads (show fR [mD ns,.ty "tuple"] s=ok (.bl true) s from rfl) ?_;simp only[VC,ï];refine ads (k9 rfl) ⟨le_size (by rw[Â];omega),?_⟩;refine ads (oZ (λ_=>true) (λx=>.bl (decide (0<=x)&&decide (x<8))) ns λn _=>⟨[some (.int n)],rfl,rfl,λ_=>?_⟩) ?_
 ·refine adt ?_
  simp only[VC,Cq,acB]
 ·rw[filter_tt]
  refine ads (nR _ _ _) ?_;have e:(ns.all λx=>decide (0<=x)&&decide (x<8))=true:=by
   rw[õ];intro x Z;have:=h.lo x Z;simp only[È,Í];omega
  rw[e];simp only[VC,ï];exact ads (Ja (by omega)) ⟨by rw[KR h.up],rfl⟩
structure aeb (rs:List (List Int)):Prop where
 lo:1<=rs.length
 hi:rs.length<=10
 jI:∀r∈rs,bY 8 r
abbrev rD (rs:List (List Int)):D:=.tup (rs.map mD)
def Ye {j:Nat} (h:xs[j]?=some d):ar (.tup xs) (.int j) s=ok d s:=by
 unfold ar ig;rw[show res (.tup xs) s=.tup xs from rfl];simp only[B0 h];rfl
def getD_some {α:Type} {xs:List α} {i:Nat} {d:α} (h:i<xs.length):xs[i]?=some (xs.getD i d):=by
 rw[abD,Ô h];rfl
def Az {rs:List (List Int)} {i:Nat} {s:ae} (h:i<rs.length):ar (rD rs) (.int i) s=ok (mD (rs.getD i [])) s:=Ye (by rw[è,getD_some (d:=[]) h];rfl)
def tu:bN [rD rs] s=ok (.int rs.length) s:=by
 show ok (D.int (rs.map mD).length) s=_;rw[Â]
def uV (lo:Int) (n:Nat):cu lo n=(Ù n).map λi:Nat=>D.int (lo+i):=rfl
def Yf (rs:List (List Int)) (laid:List Int) (m:Int):Bool:=((Ù laid.length).filter λi=>laid.getD i 0==m).all λi=>sub (rs.getD i []) (rs.getD laid.length [])
def sj {α:Type} (d:α->D) (p:α->Bool) (h:α->List D) (xs:List α) (hh:∀x∈xs,∃env,g (d x) lQ=some env/\t env s=ok (p x) s/\(p x=true->act env s=ok (h x) s)) :
  fX g t act lQ (xs.map d) s=ok ((xs.filter p).flatMap h) s:=by
 induction xs with
 |nil=>rfl
 |cons n T ih =>
  obtain⟨env,Y,X,W⟩:=hh n Ñ;have ih:=ih λV U=>hh V (Ò _ U);rw[Î];unfold fX;rw[Y];simp only[X,kq,de]
  cases Z:p n with
  |true=>simp only[ï,W Z,kq,de,ih,ť,Z,List.flatMap_cons]
  |false=>simp only[Ã,î,ih,ť,Z]
def JN :
  Wp (va nt cap it gd c act env s) Q=Wp (it env s) λds s=>Wp (fX gd c act (Ï nt none++dP cap env) ds s) λxs s=>xs.length<=Ø/\Q (.lst xs) s:=by
 unfold va;simp only[bw,vH,nN,aR]
def step (rs:List (List Int)) (told:List (List Int)):List (List Int):=told.flatMap λlaid=>([0,1].filter λm=>Yf rs laid m).map λm=>laid++[m]
def E4 (h:a.length+b.length<=1000000):bX (mD a) (mD b) s=ok (mD (a++b)) s:=by
 have e:lU (mD a) (mD b)=some (mD (a++b)):=by
  show (if gp (a.map D.int) (b.map D.int)=true then some (D.tup (a.map D.int++b.map D.int)) else none)=_
  have Z:gp (a.map D.int) (b.map D.int)=true:=by
   unfold gp;rw[Â,Â];exact Õ (le_size h)
  rw[Þ Z];show some (D.tup (a.map D.int++b.map D.int))=some (D.tup ((a++b).map D.int));rw[ì]
 show bq (lU (mD a) (mD b)) s=_;rw[e];rfl
open TK
noncomputable def markB (i:Int):Bool:=decide (0<=i)&&decide (i<8)
noncomputable def lE (i:Int):Bool:=decide (0<=i)&&decide (i<4)
noncomputable def kF (i:Int):Bool:=decide (0<=i)&&decide (i<31)
def jQ (ns:List Int):Bool:=ns.all markB&&rise ns
noncomputable def mK (a b:List Int):Bool:=!(a.any λx=>decide (x∈b))
def dg:Pg->Bool
 | .made m d h l=>lE m&&kF d&&(jQ h&&(jQ l&&mK h l))
 | .cC m d k=>lE m&&kF d&&markB k
def jZ:Pg->Prop
 | .made _ _ h l=>h.length<=1000/\l.length<=1000
 | .cC _ _ _=>True
def Uv:gJ (bs.map D.bl)=some bs:=by
 induction bs with
 |nil=>rfl
 |cons b bs ih=>simp only[Î,gJ,ih];rfl
def JO {α:Type} (p:α->Bool) (xs:List α) (s:ae):ou [.lst (xs.map λx=>D.bl (p x))] s=ok (.bl (xs.any p)) s:=by
 have e:gJ (xs.map λx=>D.bl (p x))=some (xs.map p):=by
  have:=Uv (bs:=xs.map p);rw[ī] at this;exact this
 simp only[ou,res,e,bq,abn,ac9,θ,id]
def JP (hl:ns.length<=1000):mr [mD ns] s=ok (.bl (jQ ns)) s:=by
 refine adt ?_;unfold mr;simp only[VC];refine ads (show fR [mD ns,.ty "tuple"] s=ok (.bl true) s from rfl) ?_;simp only[VC,ï];refine ads (k9 rfl) ⟨le_size (by rw[Â];omega),?_⟩;refine ads (oZ (λ_=>true) (λx=>.bl (markB x)) ns λn _=>⟨[some (.int n)],rfl,rfl,λ_=>?_⟩) ?_
 ·refine adt ?_
  simp only[VC,Cq,markB,acB]
 ·rw[filter_tt]
  refine ads (nR _ _ _) ?_;simp only[VC];unfold jQ
  cases e:ns.all markB with
  |true =>
   simp only[ï,ĕ];exact ads (Ja (by omega)) ⟨rfl,rfl⟩
  |false=>simp
def BJ (ha:a.length<=1000):rf [mD a,mD b] s=ok (.bl (mK a b)) s:=by
 refine adt ?_;unfold rf;simp only[VC];refine ads (k9 rfl) ⟨le_size (by rw[Â];omega),?_⟩;refine ads (oZ (λ_=>true) (λx=>.bl (decide (x∈b))) a λn _=>⟨[some (.int n),some (mD b)],rfl,rfl,λ_=>?_⟩) ?_
 ·refine adt ?_
  simp only[VC,pw,acB]
 ·rw[filter_tt]
  refine ads (JO _ _ _) ?_;simp only[VC];exact⟨rfl,trivial⟩
def JQ (h1:h.length<=1000) (h2:l.length<=1000):rp [.tup [mD h,mD l]] s=ok (.bl (jQ h&&(jQ l&&mK h l))) s:=by
 refine adt ?_;unfold rp;simp only[VC];refine ads (show fR [.tup [mD h,mD l],.ty "tuple"] s=ok (.bl true) s from rfl) ?_;simp only[VC,Č,Ã,î];refine ads (show bN [.tup [mD h,mD l]] s=ok (.int 2) s from rfl) ?_;simp only[VC];simp only[VC,Ľ,Č,Ã,î];refine ads (JP h1) ?_;simp only[VC]
 cases jQ h with
 |false=>simp
 |true =>
  simp only[ï,ĕ];refine ads (JP h2) ?_;simp only[VC]
  cases jQ l with
  |false=>simp
  |true =>
   simp only[ï,ĕ];exact ads (BJ h1) ⟨rfl,rfl⟩
def Uw:xU [.int i] s=ok (.bl (lE i)) s:=by
 refine adt ?_;unfold xU;simp only[VC,pb,lE,Ě]
def Yg:yt [.int i] s=ok (.bl (kF i)) s:=by
 refine adt ?_;unfold yt;simp only[VC,pb,kF,Ě]
def nF:bH (.str x) (.str y) s=ok (.bl (decide (x=y))) s:=by
 show ok (D.bl (x==y)) s=_
 by_cases e:x=y<;>simp[e]
def V3:¬ (Ā "made"=Ā "mended"):=by decide +kernel
def Cr:¬ (Ā "mended"=Ā "made"):=by decide +kernel
def AA:adq Fl:=ay (bE (aY (e2 bH (aa 1) (eC (.str "made")))) (aM (aw rp (af (aa 4) ah))) bM) (aM (cH (e2 bH (aa 1) (eC (.str "mended"))) (aw rq (af (aa 4) ah))))
def KS {x:Str} {m d:Int} {w:D} {s:ae} {b:Bool} (h:Wp (AA [some (.tup [.str x,.int m,.int d,w]),some (.str x),some (.int m),some (.int d),some w] s) (tj λd s'=>d=.bl b/\s'=s)):uy [.tup [.str x,.int m,.int d,w]] s=ok (.bl (lE m&&kF d&&b)) s:=by
 refine adt ?_;show Wp (aN 1 5 (ay _ (ay _ (ay _ AA))) _ s) _;simp only[VC];refine ads (show fR [.tup [.str x,.int m,.int d,w],.ty "tuple"] s=ok (.bl true) s from rfl) ?_;simp only[VC,Č,Ã,î];refine ads (show bN [.tup [.str x,.int m,.int d,w]] s=ok (.int 4) s from rfl) ?_;simp only[VC,Ľ,Č,Ã,î];refine ads Uw ?_;simp only[VC]
 cases lE m with
 |false=>simp[yW,pJ,iH,fG]
 |true =>
  simp only[Č,Ã,î,ĕ];refine ads Yg ?_;simp only[VC]
  cases kF d with
  |false=>simp[yW,pJ,iH,fG]
  |true =>
   simp only[VC,Č,Ã,î,ĕ];exact h
def KU (hf:jZ p):uy [p.d] s=ok (.bl (dg p)) s:=by
 cases p with
 |made m d h l =>
  refine KS ?_;unfold AA;simp only[VC];refine ads nF ?_;simp only[VC,į,ï];exact ads (JQ hf.1 hf.2) ⟨rfl,rfl⟩
 |cC m d k =>
  refine KS ?_;unfold AA;simp only[VC];refine ads nF ?_;simp only[VC,æ Cr,Ã,î];refine ads nF ?_;simp only[VC,į,ï];exact ads Cq ⟨rfl,rfl⟩
abbrev bD (ps:List Pg):D:=.tup (ps.map Pg.d)
def Yh:jY p.d q.d s=ok (.bl (cP.lt p q)) s:=by
 unfold jY;rw[Þ (by rw[pG _ (zq p),pG _ (zq q)];simp only[đ,ĕ,Í];have:=yS p;omega),ME];rfl
noncomputable def zy (ps:List Pg):Bool:=(ps.zip (ps.drop 1)).all λp=>cP.lt p.1 p.2
def Ux (xs ys:List Pg):iS (xs.map Pg.d) (ys.map Pg.d)=(xs.zip ys).map λp=>D.tup [p.1.d,p.2.d]:=by
 unfold iS;rw[List.zip_map,ī];rfl
def Rl (hl:ps.length<=1000):oW [bD ps] s=ok (.bl (zy ps)) s:=by
 refine adt ?_;unfold oW;simp only[VC];have Z:sS (af (aa 0) (af (i9 (aa 0) (iT (eC (.int 1))) i8) ah)) [some (bD ps)] s=ok (iS (ps.map Pg.d) ((ps.drop 1).map Pg.d)) s:=by
  refine JM (adt ?_);simp only[VC];rw[uU (i:=1) rfl]
  try simp only[VC]
  refine ads (show lA (bD ps) (some 1) none s=ok (.tup (cutD (ps.map Pg.d) (some 1) none)) s from rfl) ⟨?_,rfl⟩;rw[JK,List.map_drop]
 refine ads Z ⟨le_size (by rw[Bu];simp only[Â];omega),?_⟩;rw[Ux];refine ads (comp_map (λp:Pg×Pg=>D.tup [p.1.d,p.2.d]) (λ_=>true) (λp=>.bl (cP.lt p.1 p.2)) _ λp _=>⟨[some p.1.d,some p.2.d],rfl,rfl,λ_=>?_⟩) ?_
 ·refine adt ?_
  simp only[VC,Yh,Ě]
 rw[filter_tt];exact ads (nR _ _ _) ⟨rfl,rfl⟩
def jo (ps:List Pg):Bool:=decide (ps.length<=24)&&(ps.all dg&&zy ps)
def V4 (hl:ps.length<=1000) (hf:∀p∈ps,jZ p):xV [bD ps] s=ok (.bl (jo ps)) s:=by
 refine adt ?_;unfold xV jo;simp only[VC];refine ads (show fR [bD ps,.ty "tuple"] s=ok (.bl true) s from rfl) ?_;simp only[VC,ï];refine ads (show bN [bD ps] s=ok (.int ps.length) s from by show ok (D.int (ps.map Pg.d).length) s=_;rw[Â]) ?_;simp only[VC];by_cases h:ps.length<=24
 ·have Z:(ps.length:Int)<=24:=by omega
  simp only[h,Z,į,ï,ĕ];refine ads (k9 rfl) ⟨le_size (by rw[Â];omega),?_⟩;refine ads (comp_map Pg.d (λ_=>true) (λp=>.bl (dg p)) ps λp Y=>⟨[some p.d],rfl,rfl,λ_=>?_⟩) ?_
  ·refine adt ?_
   simp only[VC,KU (hf p Y),Ě]
  ·rw[filter_tt]
   refine ads (nR _ _ _) ?_;simp only[VC]
   cases ps.all dg with
   |false=>simp
   |true =>
    simp only[ï,ĕ];exact ads (Rl hl) ⟨rfl,rfl⟩
 ·have Z:¬ (ps.length:Int)<=24:=by omega
  simp[h,Z]
noncomputable def _root_.TK.Pg.day:Pg->Int
 | .made _ d _ _=>d
 | .cC _ d _=>d
noncomputable def mi (m k:Int):Pg->Bool
 | .made Z _ h _=>decide (Z=m)&&decide (k∈h)
 |_=>false
noncomputable def mj (m k:Int):Pg->Bool
 | .made Z _ _ l=>decide (Z=m)&&decide (k∈l)
 |_=>false
noncomputable def nG (m k:Int):Pg->Bool
 | .cC Z _ Y=>decide (Z=m)&&decide (Y=k)
 |_=>false
def shown (ps:List Pg) (m k:Int):List Int:=(ps.filter (mi m k)).map Pg.day
def cQ (ps:List Pg) (m k:Int):List Int:=(ps.filter (mj m k)).map Pg.day
def cc (ps:List Pg) (m k:Int):List Int:=(ps.filter (nG m k)).map Pg.day
noncomputable abbrev lI (ns:List Int):D:=.lst (ns.map D.int)
def j8 (a b c d:D) (s:ae):ar (.tup [a,b,c,d]) (.int 0) s=ok a s/\ar (.tup [a,b,c,d]) (.int 1) s=ok b s/\ar (.tup [a,b,c,d]) (.int 2) s=ok c s/\ar (.tup [a,b,c,d]) (.int 3) s=ok d s:=⟨rfl,rfl,rfl,rfl⟩
def t5 (a b:D) (s:ae):ar (.tup [a,b]) (.int 0) s=ok a s/\ar (.tup [a,b]) (.int 1) s=ok b s:=⟨rfl,rfl⟩
def Gi (p:Pg) (s:ae):ar p.d (.int 1) s=ok (.int (match p with | .made m _ _ _=>m | .cC m _ _=>m)) s/\ar p.d (.int 2) s=ok (.int p.day) s:=by cases p<;>exact⟨rfl,rfl⟩
def yI (hl:ps.length<=1000):kZ [bD ps,.int m,.int k,.int 0] s=ok (lI (shown ps m k)) s/\kZ [bD ps,.int m,.int k,.int 1] s=ok (lI (cQ ps m k)) s:=by
 constructor
 ·refine adt ?_
  unfold kZ;simp only[VC];refine ads (k9 rfl) ⟨le_size (by rw[Â];omega),?_⟩;refine ads (comp_map Pg.d (mi m k) (λp=>.int p.day) ps λp Y=>⟨[some p.d,some (.int m),some (.int k),some (.int 0)],rfl,?_,λ_=>?_⟩) ?_
  ·refine adt ?_
   cases p with
   |made Z d h l =>
    simp only[VC,Pg.d];rw[(j8 _ _ _ _ s).1];simp only[VC,nF,į,ï];rw[(j8 _ _ _ _ s).2.1];simp only[VC,mi];by_cases e:Z=m
    ·simp only[e,Ľ,ï,į,ĕ]
     rw[(j8 _ _ _ _ s).2.2.2];simp only[VC];rw[(t5 _ _ s).1];simp only[VC];refine ads (pw (ns:=h)) ?_;simp only[VC,Ě]
    ·simp[e]
   |cC Z d X =>
    simp only[VC,Pg.d];rw[(j8 _ _ _ _ s).1];simp only[VC,nF,æ Cr,Ã,î,mi,Ě]
  ·refine adt ?_
   simp only[VC,(Gi p s).2,Ě]
  ·simp only[shown,lI,ī,θ,Ě]
 ·refine adt ?_
  unfold kZ;simp only[VC];refine ads (k9 rfl) ⟨le_size (by rw[Â];omega),?_⟩;refine ads (comp_map Pg.d (mj m k) (λp=>.int p.day) ps λp Y=>⟨[some p.d,some (.int m),some (.int k),some (.int 1)],rfl,?_,λ_=>?_⟩) ?_
  ·refine adt ?_
   cases p with
   |made Z d h l =>
    simp only[VC,Pg.d];rw[(j8 _ _ _ _ s).1];simp only[VC,nF,į,ï];rw[(j8 _ _ _ _ s).2.1];simp only[VC,mj];by_cases e:Z=m
    ·simp only[e,Ľ,ï,į,ĕ]
     rw[(j8 _ _ _ _ s).2.2.2];simp only[VC];rw[(t5 _ _ s).2];simp only[VC];refine ads (pw (ns:=l)) ?_;simp only[VC,Ě]
    ·simp[e]
   |cC Z d X =>
    simp only[VC,Pg.d];rw[(j8 _ _ _ _ s).1];simp only[VC,nF,æ Cr,Ã,î,mj,Ě]
  ·refine adt ?_
   simp only[VC,(Gi p s).2,Ě]
  ·simp only[cQ,lI,ī,θ,Ě]
def Cs (hl:ps.length<=1000):qX [bD ps,.int m,.int k] s=ok (lI (cc ps m k)) s:=by
 refine adt ?_;unfold qX;simp only[VC];refine ads (k9 rfl) ⟨le_size (by rw[Â];omega),?_⟩;refine ads (comp_map Pg.d (nG m k) (λp=>.int p.day) ps λp X=>⟨[some p.d,some (.int m),some (.int k)],rfl,?_,λ_=>?_⟩) ?_
 ·refine adt ?_
  cases p with
  |cC Z d Y =>
   simp only[VC,Pg.d];rw[(j8 _ _ _ _ s).1];simp only[VC,nF,į,ï];rw[(j8 _ _ _ _ s).2.1];simp only[VC,nG];by_cases e:Z=m
   ·simp only[e,Ľ,ï,į,ĕ]
    rw[(j8 _ _ _ _ s).2.2.2];simp only[VC]
    by_cases e:Y=k<;>simp[e]
   ·simp[e]
  |made Z d h l =>
   simp only[VC,Pg.d];rw[(j8 _ _ _ _ s).1];simp only[VC,nF,æ V3,Ã,î,nG,Ě]
 ·refine adt ?_
  simp only[VC,(Gi p s).2,Ě]
 ·simp only[cc,lI,ī,θ,Ě]
def L4 (h:n<=1000):n<=Ø:=le_size (by omega)
def vJ:di (.int x) (lI ns) s=ok (.bl (decide (x∈ns))) s:=by
 show di (.int x) (mD ns) s=_;exact pw
def yw:gX (.int x) (lI ns) s=ok (.bl (!decide (x∈ns))) s:=by
 show gX (.int x) (mD ns) s=_;exact Rk
noncomputable def zV (ds:List Int) (a b:Int):Bool:=ds.any λx=>decide (a<x)&&decide (x<=b)
def SA (hl:ds.length<=1000):xr [lI ds,.int a,.int b] s=ok (.bl (zV ds a b)) s:=by
 refine adt ?_;unfold xr;simp only[VC];refine ads (lg rfl) ⟨L4 (by rw[Â];omega),?_⟩;refine ads (oZ (λ_=>true) (λx=>.bl (decide (a<x)&&decide (x<=b))) ds λn _=>⟨[some (.int n),some (.int a),some (.int b)],rfl,rfl,λ_=>?_⟩) ?_
 ·refine adt ?_
  simp only[VC]
  by_cases e:a<n<;>simp[e,aR,L3,bP,bL]
 ·rw[filter_tt]
  exact ads (JO _ _ _) ⟨rfl,rfl⟩
def oQ (ps:List Pg) (m k d l:Int):Bool:=(decide (l∈cQ ps m k)||(decide (l=d)&&decide (d∈cc ps m k)))&&!zV (cc ps m k) d l
noncomputable def pK (d:Int):List Int:=(Ù (31-d).toNat).map λi:Nat=>d+(i:Int)
def lF (ps:List Pg) (m k:Int):List (Int×Int):=(dE (shown ps m k)).flatMap λd=>((pK d).filter (oQ ps m k d)).map λl=>(d,l)
def yx {ps:List Pg} {f:Pg->Bool}:((ps.filter f).map Pg.day).length<=ps.length:=by rw[Â];exact Ĭ _ _
theorem rN {α β:Type} {f:α->List β} {b:Nat}:∀{l:List α},(∀x∈l,(f x).length<=b)->(l.flatMap f).length<=l.length*b
 | [],_=>by simp
 |x::l,h=>by
  rw[List.flatMap_cons,Ð,ê,Nat.succ_mul];have Y:=h x Ñ;have X:=rN (l:=l) λy Z=>h y (Ò _ Z);omega
def Il (d:Int) (h:0<=d):(pK d).length<=31:=by unfold pK;rw[Â,ŀ];omega
structure qh (ps:List Pg):Prop where
 len:ps.length<=24
 lo:∀p∈ps,0<=p.day/\p.day<31
def qh.of (h:qh ps) (hx:x∈(ps.filter f).map Pg.day):0<=x/\x<31:=by
 obtain⟨p,Z,rfl⟩:=ò.mp hx;exact h.lo p (ÿ.mp Z).1
def Rm {ps:List Pg} {m k:Int} {s:ae} (h:qh ps):uz [bD ps,.int m,.int k] s=ok (.lst ((lF ps m k).map λp=>D.tup [.int p.1,.int p.2])) s:=by
 have Y:=h.len;have S:(shown ps m k).length<=24:=Ú yx Y;have R:(cQ ps m k).length<=24:=Ú yx Y;have Q:(cc ps m k).length<=24:=Ú yx Y;refine adt ?_;unfold uz;simp only[VC];refine ads (yI (by omega)).2 ?_;refine ads (Cs (by omega)) ?_;rw[JN];have hs:cZ (e1 rF (aw kZ (af (aa 0) (af (aa 1) (af (aa 2) (af (eC (.int (0))) ah)))))) [some (bD ps),some (.int m),some (.int k),some (lI (cQ ps m k)),some (lI (cc ps m k))] s=ok ((dE (shown ps m k)).map D.int) s:=by
  refine lg (adt ?_);simp only[VC];refine ads (yI (by omega)).1 ?_;refine ads (show rF (lI (shown ps m k)) s=ok (lI (dE (shown ps m k))) s from ?_) ⟨rfl,rfl⟩;unfold rF;simp only[Be];rw[Þ (by have:=yg (shown ps m k);rw[Í];omega)]
 refine ads hs ?_;have day:∀d∈dE (shown ps m k),0<=d/\d<31:=λd Z=>h.of (mw.mp Z);refine ads (sj D.int (λ_=>true) (λd=>((pK d).filter (oQ ps m k d)).map λl=>D.tup [.int d,.int l]) _ λd Z=>⟨[some (.int d),none,some (lI (cQ ps m k)),some (lI (cc ps m k))],rfl,rfl,λ_=>?_⟩) ?_
 ·have Z:=day d Z
  unfold more;rw[X9 (i:=d) (j:=31) rfl (by omega) (by omega) (by omega) (by omega),de];have T:cu d (31-d).toNat=(pK d).map D.int:=by unfold pK;rw[uV,ī];rfl
  rw[T];rw[sj D.int (oQ ps m k d) (λl=>[D.tup [.int d,.int l]]) (pK d) λl Y=>⟨[some (.int d),some (.int l),some (lI (cQ ps m k)),some (lI (cc ps m k))],rfl,?_,λ_=>?_⟩]
  ·rw[<- ac4]
  ·refine adt ?_
   simp only[VC,vJ];unfold oQ;have X:=SA (ds:=cc ps m k) (a:=d) (b:=l) (s:=s) (by omega);by_cases W:l∈cQ ps m k
   ·simp only[VC,W,į,ï,Bool.true_or,ĕ]
    exact ads X (by simp only[VC,Ě])
   ·simp only[W,decide_false,Ã,î,Bool.false_or]
    by_cases V:l=d
    ·subst V
     simp only[VC,Ľ,ï,į,ĕ];by_cases U:l∈cc ps m k
     ·simp only[U,į,ï,ĕ]
      exact ads X (by simp only[VC,Ě])
     ·simp[U]
    ·simp[V]
  ·refine adt ?_
   unfold emit;rw[bw];simp only[VC];exact⟨by decide,trivial⟩
 ·rw[filter_tt]
  refine⟨?_,?_,rfl⟩
  ·refine L4 (Ú (rN (b:=31) λd Z=>?_) ?_)
   ·rw[Â]
    exact Ú (Ĭ _ _) (Il d (day d Z).1)
   ·have:=yg (shown ps m k)
    have:(dE (shown ps m k)).length<=24:=by omega
    omega
  ·unfold lF
   simp only[List.map_flatMap,ī,θ]
noncomputable def m4:List Int:=(Ù 4).map λi:Nat=>(i:Int)
noncomputable def k8:List Int:=(Ù 8).map λi:Nat=>(i:Int)
def mL (ps:List Pg):List (Int×Int×Int×Int):=m4.flatMap λm=>k8.flatMap λk=>(lF ps m k).map λp=>(m,k,p.1,p.2)
noncomputable def fD (p:Int×Int×Int×Int):D:=.tup [.int p.1,.int p.2.1,.int p.2.2.1,.int p.2.2.2]
def SD {ps:List Pg} (h:qh ps) (m k:Int):(lF ps m k).length<=744:=by
 have Y:(shown ps m k).length<=24:=Ú yx h.len;have:=yg (shown ps m k);refine Ú (rN (b:=31) λd Z=>?_) (by omega);rw[Â];exact Ú (Ĭ _ _) (Il d (h.of (mw.mp Z)).1)
def SE {ps:List Pg} {s:ae} (h:qh ps):xQ [bD ps] s=ok (.lst ((mL ps).map fD)) s:=by
 refine adt ?_;unfold xQ;simp only[iP,iH,pJ,Î,Ğ,ď,ē,ê,Ć,Ï,acB,Nat.reduceSub,Nat.reduceAdd];rw[JN];refine ads (eV (n:=4) rfl (by decide)) ?_;have Z:cu 0 4=m4.map D.int:=rfl;have Y:cu 0 8=k8.map D.int:=rfl;rw[Z];refine ads (sj D.int (λ_=>true) (λm=>k8.flatMap λk=>(lF ps m k).map λp=>fD (m,k,p.1,p.2)) m4 λm X=>⟨[some (.int m),none,none,none,some (bD ps)],rfl,rfl,λ_=>?_⟩) ?_
 ·unfold more
  rw[eV (n:=8) rfl (by decide),de,Y];rw[sj D.int (λ_=>true) (λk=>(lF ps m k).map λp=>fD (m,k,p.1,p.2)) k8 λk W=>⟨[some (.int m),some (.int k),none,none,some (bD ps)],rfl,rfl,λ_=>?_⟩]
  ·rw[filter_tt]
  ·have hi:cZ (aw uz (af (aa 4) (af (aa 0) (af (aa 1) ah)))) [some (.int m),some (.int k),none,none,some (bD ps)] s=ok ((lF ps m k).map λp=>D.tup [.int p.1,.int p.2]) s:=by
    refine lg (adt ?_);simp only[VC];exact ads (Rm h) ⟨rfl,rfl⟩
   rw[hi,de];rw[sj (λp:Int×Int=>D.tup [.int p.1,.int p.2]) (λ_=>true) (λp=>[fD (m,k,p.1,p.2)]) (lF ps m k) λp V=>⟨[some (.int m),some (.int k),some (.int p.1),some (.int p.2),some (bD ps)],rfl,rfl,λ_=>?_⟩]
   ·rw[filter_tt,<- ac4]
   ·refine adt ?_
    unfold emit;rw[bw];simp only[VC];exact⟨by decide,rfl,trivial⟩
 ·rw[filter_tt]
  refine⟨?_,?_,rfl⟩
  ·refine le_size (Ú (rN (b:=8*744) λm X=>?_) (by decide))
   refine Ú (rN (b:=744) λk W=>?_) (by decide);rw[Â];exact SD h m k
  ·unfold mL
   simp only[List.map_flatMap,ī,θ]
def ef (ps:List Pg):Bool:=jo ps&&(mL ps).isEmpty
def Jb (h:jo ps=true):qh ps:=by
 unfold jo at h;simp only[È,Í,õ] at h;refine⟨h.1,λp Z=>?_⟩;have:=h.2.1 p Z
 cases p<;>simp only[dg,kF,È,Í] at this<;>exact this.1.2
def KW (hl:ps.length<=1000) (hf:∀p∈ps,jZ p):rB [bD ps] s=ok (.bl (ef ps)) s:=by
 refine adt ?_;unfold rB;simp only[VC];refine ads (V4 hl hf) ?_;simp only[VC];unfold ef
 cases h:jo ps with
 |false=>simp
 |true =>
  simp only[ï,ĕ];unfold DP;simp only[VC,bw];refine ads (SE (Jb h)) ?_;refine ads (show truth (.lst ((mL ps).map fD)) s=ok (!((mL ps).map fD).isEmpty) s from rfl) ?_;simp only[aR];refine⟨?_,trivial⟩
  cases mL ps<;>rfl
def zc:m∈m4↔0<=m/\m<4:=by
 unfold m4;rw[ò];constructor
 ·rintro ⟨i,hi,rfl⟩
  have:=ë.mp hi;omega
 ·rintro ⟨Z,Y⟩
  exact⟨m.toNat,ë.mpr (by omega),by omega⟩
def sk:m∈k8↔0<=m/\m<8:=by
 unfold k8;rw[ò];constructor
 ·rintro ⟨i,hi,rfl⟩
  have:=ë.mp hi;omega
 ·rintro ⟨Z,Y⟩
  exact⟨m.toNat,ë.mpr (by omega),by omega⟩
def Uy (h:ef ps=true) (hm:0<=m/\m<4) (hk:0<=k/\k<8) (hd:d∈shown ps m k) (h1:d<=l) (h2:l<31):oQ ps m k d l=false:=by
 unfold ef at h;rw[È,List.isEmpty_iff] at h
 cases Z:oQ ps m k d l with
 |false=>rfl
 |true =>
  exfalso;have Y:(d,l)∈lF ps m k:=by
   refine acO.mpr ⟨d,mw.mpr hd,ò.mpr ⟨l,ÿ.mpr ⟨?_,Z⟩,rfl⟩⟩;exact ò.mpr ⟨(l-d).toNat,ë.mpr (by omega),by omega⟩
  have:(m,k,d,l)∈mL ps:=acO.mpr ⟨m,zc.mpr hm,acO.mpr ⟨k,sk.mpr hk,ò.mpr ⟨(d,l),Y,rfl⟩⟩⟩;rw[h.2] at this;cases this
section
variable (s l m:Nat->Bool)
noncomputable def pr:Nat->Bool
 |0=>s 0
 |d+1=>s (d+1)||(pr d&&!m (d+1))
noncomputable def gP:Nat->Bool
 |0=>false
 |n+1=>(gP n||l (30-n))&&!m (30-n)
def br (d:Nat):Bool:=gP l m (31-d)
def ab (d:Nat):Bool:=br l m (d+1)||(l d||m d)
noncomputable def f0 (d:Nat):Bool:=!s d
noncomputable def t0 (d:Nat):Bool:=!m d&&!l d
def yJ:Prop:=∀d e,s d=true->d<=e->e<=30->(l e=true\/(e=d/\m d=true))->∃x,d<x/\x<=e/\m x=true
variable {s l m}
theorem Dc:∀{d:Nat},pr s m d=true↔∃e,e<=d/\s e=true/\∀x,e<x->x<=d->m x=false
 |0=>by
  simp only[pr];constructor
  ·intro h;exact⟨0,adv _,h,λx Y Z=>by omega⟩
  ·intro zzz;obtain⟨e,Y,Z,_⟩:=zzz
   have:e=0:=by omega
   rw[<- this];exact Z
 |d+1=>by
  simp only[pr,ab5,È,ĵ];rw[Dc (d:=d)];constructor
  ·rintro (h | ⟨⟨e,Y,Z,X⟩,V⟩)
   ·exact⟨d+1,adv _,h,λx Y Z=>by omega⟩
   ·refine⟨e,by omega,Z,λx W U=>?_⟩
    by_cases T:x=d+1
    ·rw[T];exact V
    ·exact X x W (by omega)
  ·intro zzz;obtain⟨e,Y,Z,X⟩:=zzz
   by_cases S:e=d+1
   ·left;rw[<- S];exact Z
   ·right
    exact⟨⟨e,by omega,Z,λx W U=>X x W (by omega)⟩,X (d+1) (by omega) (adv _)⟩
section
variable (N:yJ s l m)
include N
end
end
theorem KY:∀{ns:List Int},rise ns=true->ns.Pairwise (· < ·)
 | [],_=>.nil
 | [a],_=>by simp
 |a::b::r,h=>by
  simp only[rise,È,Í] at h;have ih:=KY h.2;refine Ă.mpr ⟨λx hx=>?_,ih⟩
  rcases É.mp hx with rfl|hx
  ·exact h.1
  ·have:=(Ă.mp ih).1 x hx
   omega
def x9 (h:jQ ns=true):bY 8 ns:=by
 unfold jQ at h;rw[È,õ] at h;refine⟨λx Z=>?_,KY h.2⟩;have:=h.1 x Z;unfold markB at this;simp only[È,Í] at this;exact this
def yd (h:bY n ns) (hn:n<=8):jQ ns=true:=by
 unfold jQ;rw[È,õ];refine⟨λx Z=>?_,KR h.up⟩;have:=h.lo x Z;unfold markB;simp only[È,Í];omega
def SF (hm:0<=m/\m<4) (hd:0<=d/\d<31) (hk:0<=k/\k<8):dg (.cC m d k)=true:=by
 simp only[dg,lE,kF,markB,È,Í];omega
def SG (hm:0<=m/\m<4) (hd:0<=d/\d<31) (h1:bY n h) (h2:bY n l) (hn:n<=8) (ha:∀x∈h,x∉l):dg (.made m d h l)=true:=by
 simp only[dg,lE,kF,È,Í,mK,ĵ,abx];exact⟨⟨hm,hd⟩,yd h1 hn,yd h2 hn,ha⟩
def Jc (h:dg p=true):jZ p:=by
 cases p with
 |made m d Z l =>
  simp only[dg,È] at h;exact⟨by have:=(x9 h.2.1).len;omega,by have:=(x9 h.2.2.1).len;omega⟩
 |cC m d k=>trivial
def DAt (W:Ĕ) (R:Pg->Prop) (s:ae) (j n:Nat):Prop:=∃Z:List Pg,s[j]?=some (.dT (Z.map λp=>(p.d,hs W p.d)))/\(Z.Nodup/\∀p∈Z,R p)/\Z.length<=n
theorem KZ:∀{ps:List Pg},ps.Pairwise (λa b=>cP.lt a b=true)->zy ps=true
 | [],_=>rfl
 | [a],_=>rfl
 |a::b::r,h=>by
  obtain⟨Z,Y⟩:=Ă.mp h;have ih:=KZ Y;unfold zy at ih |-;simp only[List.drop_succ_cons,List.drop_zero,ņ,List.all_cons,È] at ih |-;exact⟨Z b Ñ,ih⟩
def Uz (h:ps.Nodup):(ST.fB cP ps).Pairwise λa b=>cP.lt a b=true:=by
 have Y:=ST.JA (O:=cP) ps;have X:(ST.fB cP ps).Nodup:=(ST.rn ps).nodup_iff.mpr h;refine(Y.and X).imp λ{a b} Z=>?_
 cases W:cP.lt a b with
 |true=>rfl
 |false=>exact(Z.2 (cP.xi a b W Z.1)).elim
def Wp.ZM (h:Wp (fa env s) λds s=>∃x y z,ds=[x,y,z]/\QF (.nx (((env.set i (some x)).set j (some y)).set k (some z))) s):Wp (sV i j k fa env s) QF:=by
 unfold sV;refine Wp.ak (h.mono λds s ⟨x,y,z,e,q⟩=>?_);subst e;exact Wp.ok q
abbrev PGB (p:Pg):Prop:=dg p=true
structure Laid (ps:List Pg):Prop where
 pg:∀p∈ps,dg p=true
 up:ps.Pairwise λa b=>cP.lt a b=true
theorem Laid.jo (h:Laid ps) (hl:ps.length<=24):jo ps=true:=by
 unfold DI.jo;rw[Õ hl,õ.mpr h.pg,KZ h.up];rfl
def IAt (s:ae) (j n:Nat):Prop:=∃Z:List Int,s[j]?=some (.lst (Z.map D.int))/\Z.length<=n
structure BI (W:Ĕ) (k j b n q:Nat) (s0 s:ae):Prop where
 st:Nr s k
 dict:DAt W PGB s j n
 cC:∀i,i<8->IAt s (b+i) q
 ext:Ex k s0 s
section
variable (ps:List Pg) (m k:Int)
def sN (d:Nat):Bool:=decide ((d:Int)∈shown ps m k)
def lN (d:Nat):Bool:=decide ((d:Int)∈cQ ps m k)
def mN (d:Nat):Bool:=decide ((d:Int)∈cc ps m k)
def kT:List Int:=((Ù 31).filter λd=>pr (sN ps m k) (mN ps m k) d).map λd:Nat=>(d:Int)
def jJ:List Int:=((Ù 31).filter λn=>ab (lN ps m k) (mN ps m k) (30-n)).map λn:Nat=>((30-n:Nat):Int)
end
def V5 (h:ef ps=true) (hm:0<=m/\m<4) (hk:0<=k/\k<8):yJ (sN ps m k) (lN ps m k) (mN ps m k):=by
 intro d e hs U T Z;simp only[sN,lN,mN,Í] at hs Z;have c:=Uy h hm hk hs (l:=(e:Int)) (by omega) (by omega);unfold oQ at c;have Y:(decide ((e:Int)∈cQ ps m k)||(decide ((e:Int)=(d:Int))&&decide ((d:Int)∈cc ps m k)))=true:=by
  rcases Z with Z | ⟨S,X⟩
  ·rw[Õ Z];rfl
  ·rw[Õ (show (e:Int)=d by omega),Õ X];simp
 rw[Y,ĕ,Bool.not_eq_false'] at c;unfold zV at c;obtain⟨x,W,V⟩:=ų.mp c;simp only[È,Í] at V;refine⟨x.toNat,by omega,by omega,?_⟩;simp only[mN,Í];rw[show ((x.toNat:Nat):Int)=x by omega];exact W
def V6 {m k:Int} {d:Nat} (h:d<=30):decide ((d:Int)∈kT ps m k)=pr (sN ps m k) (mN ps m k) d:=by
 have:(d:Int)∈kT ps m k↔pr (sN ps m k) (mN ps m k) d=true:=by
  unfold kT;rw[ò];constructor
  ·rintro ⟨e,Y,X⟩
   have:e=d:=by omega
   rw[<- this];exact(ÿ.mp Y).2
  ·intro Z
   exact⟨d,ÿ.mpr ⟨ë.mpr (by omega),Z⟩,rfl⟩
 cases Z:pr (sN ps m k) (mN ps m k) d with
 |true=>exact Õ (this.mpr Z)
 |false=>exact æ λz=>by rw[this.mp z] at Z;cases Z
def V7 {m k:Int} {d:Nat} (h:d<=30):decide ((d:Int)∈jJ ps m k)=ab (lN ps m k) (mN ps m k) d:=by
 have:(d:Int)∈jJ ps m k↔ab (lN ps m k) (mN ps m k) d=true:=by
  unfold jJ;rw[ò];constructor
  ·rintro ⟨e,Y,V⟩
   obtain⟨X,W⟩:=ÿ.mp Y;have:=ë.mp X;have:30-e=d:=by omega
   rw[<- this];exact W
  ·intro Z
   exact⟨30-d,ÿ.mpr ⟨ë.mpr (by omega),by rw[show 30-(30-d)=d by omega];exact Z⟩,by omega⟩
 cases Z:ab (lN ps m k) (mN ps m k) d with
 |true=>exact Õ (this.mpr Z)
 |false=>exact æ λz=>by rw[this.mp z] at Z;cases Z
def K0 {s:ae} {ns:List Int} {x:Int} (hn:ns.length<1000):iU (.ai s.length) (s++[.lst (ns.map D.int)])=true/\ia (.ai s.length) (.int x) (s++[.lst (ns.map D.int)])=ok .ax (s++[.lst ((ns++[x]).map D.int)]):=by
 have e:(s++[Cell.lst (ns.map D.int)])[s.length]?=some (.lst (ns.map D.int)):=by simp
 refine⟨by simp only[iU,e],?_⟩;unfold ia;simp only[e];rw[Þ (by rw[Í,Â];exact Ì hn (le_size (by decide)))];simp[abt]
def K1 {s:ae} {ns:List Int}:bS (.ai s.length) (s++[.lst (ns.map D.int)])=ok (lI ns) (s++[.dead]):=by
 have e:(s++[Cell.lst (ns.map D.int)])[s.length]?=some (.lst (ns.map D.int)):=by simp
 simp only[bS,e];simp[abt]
def Im {p:Nat->Bool} {f:Nat->Int} {i:Nat}:((Ù (i+1)).filter p).map f=((Ù i).filter p).map f++(if p i=true then [f i] else []):=by
 rw[abu,ŷ,ì];congr 1
 cases h:p i<;>simp[h]
def Jd {p:Nat->Bool} {f:Nat->Int} {i:Nat}:(((Ù i).filter p).map f).length<=i:=by
 rw[Â];exact Ú (Ĭ _ _) (by rw[ŀ];exact adv _)
def pv (s m:Nat->Bool):Nat->Bool
 |0=>false
 |i+1=>pr s m i
def Rn (hl:ps.length<=1000):xt [bD ps,.int m,.int k] s=ok (lI (kT ps m k)) (s++[.dead]):=by
 refine adt ?_;unfold xt;simp only[VC];refine ads (yI hl).1 ?_;refine ads (Cs hl) ?_
 try simp only[VC]
 refine⟨by decide,?_⟩;refine ads (eV (n:=31) rfl (by decide)) ?_;refine Wp.iV (λi env Y=>i<=31->∃Z,env=[some (bD ps),some (.int m),some (.int k),some (lI (shown ps m k)),some (lI (cc ps m k)),some (.ai s.length),some (.bl (pv (sN ps m k) (mN ps m k) i)),Z]/\Y=s++[.lst ((((Ù i).filter λd=>pr (sN ps m k) (mN ps m k) d).map λd:Nat=>(d:Int)).map D.int)]) _ (λ_=>⟨_,rfl,rfl⟩) (λi d env Y W V=>?_) (λenv Y V=>?_)
 ·rw[il] at W
  split at W
  ·rename_i hi
   cases W;obtain⟨Z,rfl,rfl⟩:=V (by omega);refine⟨_,rfl,?_⟩;have U:(0:Int)+(i:Int)=i:=by omega
   have key:(decide ((i:Int)∈shown ps m k)||(pv (sN ps m k) (mN ps m k) i&&!decide ((i:Int)∈cc ps m k)))=pr (sN ps m k) (mN ps m k) i:=by
    cases i with
    |zero=>simp[pv,pr,sN]
    |succ i=>rfl
   have fin:∀c:Bool,c=pr (sN ps m k) (mN ps m k) i->if c=true then iU (.ai s.length) (s++[.lst ((((Ù i).filter λd=>pr (sN ps m k) (mN ps m k) d).map λd:Nat=>(d:Int)).map D.int)])=true/\Wp (ia (.ai s.length) (.int (0+(i:Int))) (s++[.lst ((((Ù i).filter λd=>pr (sN ps m k) (mN ps m k) d).map λd:Nat=>(d:Int)).map D.int)])) λx Y=>i+1<=31->∃Z,([some (bD ps),some (.int m),some (.int k),some (lI (shown ps m k)),some (lI (cc ps m k)),some (.ai s.length),some (.bl c),some (.int (0+(i:Int)))]:Env)=[some (bD ps),some (.int m),some (.int k),some (lI (shown ps m k)),some (lI (cc ps m k)),some (.ai s.length),some (.bl (pv (sN ps m k) (mN ps m k) (i+1))),Z]/\Y=s++[.lst ((((Ù (i+1)).filter λd=>pr (sN ps m k) (mN ps m k) d).map λd:Nat=>(d:Int)).map D.int)]
     else i+1<=31->∃Z,([some (bD ps),some (.int m),some (.int k),some (lI (shown ps m k)),some (lI (cc ps m k)),some (.ai s.length),some (.bl c),some (.int (0+(i:Int)))]:Env)=[some (bD ps),some (.int m),some (.int k),some (lI (shown ps m k)),some (lI (cc ps m k)),some (.ai s.length),some (.bl (pv (sN ps m k) (mN ps m k) (i+1))),Z]/\s++[.lst ((((Ù i).filter λd=>pr (sN ps m k) (mN ps m k) d).map λd:Nat=>(d:Int)).map D.int)]=s++[.lst ((((Ù (i+1)).filter λd=>pr (sN ps m k) (mN ps m k) d).map λd:Nat=>(d:Int)).map D.int)]:=λc T=>by
    rw[Im];have R:pv (sN ps m k) (mN ps m k) (i+1)=c:=T.symm;rw[R,<- T]
    cases c with
    |true =>
     rw[Þ rfl];obtain⟨Q,P⟩:=K0 (s:=s) (ns:=((Ù i).filter λd=>pr (sN ps m k) (mN ps m k) d).map λd:Nat=>(d:Int)) (x:=0+(i:Int)) (Ņ Jd (by omega));exact⟨Q,ads P λ_=>⟨_,rfl,by rw[U];rfl⟩⟩
    |false =>
     rw[å Ö];exact λ_=>⟨_,rfl,by simp⟩
   simp only[VC,vJ,U];rw[U] at fin;by_cases X:(i:Int)∈shown ps m k
   ·simp only[X,į,ï]
    exact fin true (by rw[<- key,Õ X];rfl)
   ·simp only[X,decide_false,Ã,î]
    cases S:pv (sN ps m k) (mN ps m k) i with
    |false =>
     simp only[VC,Ã,î];exact fin false (by rw[<- key,æ X,S];rfl)
    |true =>
     simp only[VC,ï,yw];exact fin _ (by rw[<- key,æ X,S];rfl)
  ·cases W
 ·rw[dM] at V
  obtain⟨Z,rfl,rfl⟩:=V (adv _);simp only[VC];exact ads K1 ⟨rfl,rfl⟩
noncomputable def downs:List D:=(Ù 31).map λn:Nat=>D.int ((30-n:Nat):Int)
def Yi:Ga (af (eC (.int 31)) ah) env s=ok downs s:=by
 have:(cu 0 31).reverse=downs:=by rfl
 rw[<- this];rfl
def SH:downs[i]?=if i<31 then some (.int ((30-i:Nat):Int)) else none:=by
 unfold downs;rw[è];by_cases h:i<31
 ·rw[Þ h,ř h];rfl
 ·rw[å h,ė (by simpa using h)];rfl
abbrev jg (ps:List Pg) (m k:Int) (i:Nat):List Int:=((Ù i).filter λn=>ab (lN ps m k) (mN ps m k) (30-n)).map λn:Nat=>((30-n:Nat):Int)
def SI (hl:ps.length<=1000):xy [bD ps,.int m,.int k] s=ok (lI (jJ ps m k)) (s++[.dead]):=by
 refine adt ?_;unfold xy;simp only[VC];refine ads (yI hl).2 ?_;refine ads (Cs hl) ?_
 try simp only[VC]
 refine⟨by decide,?_⟩;refine ads Yi ?_;refine Wp.iV (λi env Z=>i<=31->∃W,env=[some (bD ps),some (.int m),some (.int k),some (lI (cQ ps m k)),some (lI (cc ps m k)),some (.ai s.length),some (.bl (gP (lN ps m k) (mN ps m k) i)),W]/\Z=s++[.lst ((jg ps m k i).map D.int)]) _ (λ_=>⟨_,rfl,rfl⟩) (λi d env Z X U=>?_) (λenv Z U=>?_)
 ·rw[SH] at X
  split at X
  ·rename_i hi
   cases X;obtain⟨W,rfl,rfl⟩:=U (by omega);refine⟨_,rfl,?_⟩;generalize X:((30-i:Nat):Int)=d;have M:ab (lN ps m k) (mN ps m k) (30-i)=(gP (lN ps m k) (mN ps m k) i||(decide (d∈cQ ps m k)||decide (d∈cc ps m k))):=by
    unfold ab br lN mN;rw[show 31-(30-i+1)=i by omega,X]
   have L:gP (lN ps m k) (mN ps m k) (i+1)=((gP (lN ps m k) (mN ps m k) i||decide (d∈cQ ps m k))&&!decide (d∈cc ps m k)):=by
    show ((gP _ _ i||lN ps m k (30-i))&&!mN ps m k (30-i))=_;unfold lN mN;rw[X]
   have sec:∀Y,Y=s++[.lst ((jg ps m k (i+1)).map D.int)]->Wp (aZ (cH (l9 (aa 6) (e2 di (aa 7) (aa 3))) (e2 gX (aa 7) (aa 4))) (gN 6) [some (bD ps),some (.int m),some (.int k),some (lI (cQ ps m k)),some (lI (cc ps m k)),some (.ai s.length),some (.bl (gP (lN ps m k) (mN ps m k) i)),some (.int d)] Y) λT Z=>match T with
     | .nx env=>i+1<=31->∃W,env=[some (bD ps),some (.int m),some (.int k),some (lI (cQ ps m k)),some (lI (cc ps m k)),some (.ai s.length),some (.bl (gP (lN ps m k) (mN ps m k) (i+1))),W]/\Z=s++[.lst ((jg ps m k (i+1)).map D.int)]
     | .ct env=>i+1<=31->∃W,env=[some (bD ps),some (.int m),some (.int k),some (lI (cQ ps m k)),some (lI (cc ps m k)),some (.ai s.length),some (.bl (gP (lN ps m k) (mN ps m k) (i+1))),W]/\Z=s++[.lst ((jg ps m k (i+1)).map D.int)]
     | .bk env=>nE (aM (oo (aa 5))) (tj λa Z=>a=lI (jJ ps m k)/\Z=s++[.dead]) (.nx env) Z
     | .rt d=>nE (aM (oo (aa 5))) (tj λa Z=>a=lI (jJ ps m k)/\Z=s++[.dead]) (.rt d) Z:=λY S=>by
    simp only[VC,vJ,yw];rw[L]
    cases gP (lN ps m k) (mN ps m k) i with
    |true =>
     simp only[VC,ï,yw];exact λ_=>⟨some (.int d),by simp,S⟩
    |false =>
     simp only[Ã,î,Bool.false_or];by_cases c:d∈cQ ps m k
     ·simp only[VC,c,į,ï,yw]
      exact λ_=>⟨some (.int d),by simp,S⟩
     ·simp only[c,decide_false,Ã,î]
      exact λ_=>⟨some (.int d),by simp,S⟩
   have P:=K0 (s:=s) (ns:=jg ps m k i) (x:=d) (Ņ Jd (by omega))
   have st:jg ps m k (i+1)=jg ps m k i++(if ab (lN ps m k) (mN ps m k) (30-i)=true then [d] else []):=by
    rw[<- X];exact Im
   have yes:ab (lN ps m k) (mN ps m k) (30-i)=true->Wp (cB (gr (aa 5) (aa 7)) [some (bD ps),some (.int m),some (.int k),some (lI (cQ ps m k)),some (lI (cc ps m k)),some (.ai s.length),some (.bl (gP (lN ps m k) (mN ps m k) i)),some (.int d)] (s++[.lst ((jg ps m k i).map D.int)])) λT Z=>T=.nx [some (bD ps),some (.int m),some (.int k),some (lI (cQ ps m k)),some (lI (cc ps m k)),some (.ai s.length),some (.bl (gP (lN ps m k) (mN ps m k) i)),some (.int d)]/\Z=s++[.lst ((jg ps m k (i+1)).map D.int)]:=λR=>by
    simp only[VC];refine⟨P.1,ads P.2 ?_⟩;rw[st,R];simp
   have no:ab (lN ps m k) (mN ps m k) (30-i)=false->s++[Cell.lst ((jg ps m k i).map D.int)]=s++[Cell.lst ((jg ps m k (i+1)).map D.int)]:=λR=>by
    rw[st,R];simp
   have go:∀{c:Bool},c=ab (lN ps m k) (mN ps m k) (30-i)->∀{Q:Fl->ae->Prop},(∀Y,Y=s++[.lst ((jg ps m k (i+1)).map D.int)]->Q (.nx [some (bD ps),some (.int m),some (.int k),some (lI (cQ ps m k)),some (lI (cc ps m k)),some (.ai s.length),some (.bl (gP (lN ps m k) (mN ps m k) i)),some (.int d)]) Y)->if c=true then Wp (cB (gr (aa 5) (aa 7)) [some (bD ps),some (.int m),some (.int k),some (lI (cQ ps m k)),some (lI (cc ps m k)),some (.ai s.length),some (.bl (gP (lN ps m k) (mN ps m k) i)),some (.int d)] (s++[.lst ((jg ps m k i).map D.int)])) Q else Wp (bM [some (bD ps),some (.int m),some (.int k),some (lI (cQ ps m k)),some (lI (cc ps m k)),some (.ai s.length),some (.bl (gP (lN ps m k) (mN ps m k) i)),some (.int d)] (s++[.lst ((jg ps m k i).map D.int)])) Q:=λ{c} O {Q} q=>by
    cases c with
    |true =>
     rw[Þ rfl];exact(yes O.symm).mono λT Y ⟨e1,e2⟩=>by subst e1;exact q Y e2
    |false =>
     rw[å Ö,kj];exact q _ (no O.symm)
   rw[nP,mJ];simp only[yV,si,bL,bP,pq,mI,dF,vJ,aR,jO,ø,ô];rw[M] at go
   cases N:gP (lN ps m k) (mN ps m k) i with
   |true =>
    simp only[ï];rw[N] at go sec;exact go (c:=true) rfl λY V=>sec Y V
   |false =>
    simp only[Ã,î];rw[N] at go sec;by_cases c:d∈cQ ps m k
    ·simp only[c,į,ï]
     exact go (c:=true) (by simp[c]) λY V=>sec Y V
    ·simp only[c,decide_false,Ã,î]
     exact go (by simp[c]) λY V=>sec Y V
  ·cases X
 ·rw[show downs.length=31 from rfl] at U
  obtain⟨W,rfl,rfl⟩:=U (adv _);simp only[VC];exact ads K1 ⟨rfl,rfl⟩
def qQ (F:Int->List Int):D:=.lst (k8.map λk=>lI (F k))
def Yj (h:0<=k/\k<8):ar (qQ F) (.int k) s=ok (lI (F k)) s:=by
 obtain⟨x,e1,e2⟩:=zb (xs:=k8.map λk=>lI (F k)) h.1 (by show k<8;exact h.2);have:x=lI (F k):=by
  rw[è] at e2;have Z:k8[k.toNat]?=some k:=by
   unfold k8;rw[è,ř (by omega)];simp;omega
  rw[Z] at e2;exact(adw e2).symm
 subst this;simp only[ar,ig,res,qQ,e1,bq]
def aa2:cu 0 8=k8.map D.int:=rfl
def MW:uw [qQ F,.int d] s=ok (mD (k8.filter λk=>decide (d∈F k))) s:=by
 refine adt ?_;unfold uw;simp only[VC];refine ads (eV (n:=8) rfl (by decide)) ⟨by rw[dM];exact le_size (by decide),?_⟩;rw[aa2];refine ads (oZ (λk=>decide (d∈F k)) (λk=>.int k) k8 λk Z=>⟨[some (.int k),some (.int d),some (qQ F)],rfl,?_,λ_=>rfl⟩) ?_
 ·refine adt ?_
  simp only[VC];refine ads (Yj (sk.mp Z)) ?_;simp only[VC,vJ,Ě]
 ·exact ads (show eU [.lst ((k8.filter λk=>decide (d∈F k)).map λk=>.int k)] s=ok (mD (k8.filter λk=>decide (d∈F k))) s from rfl) ⟨rfl,rfl⟩
noncomputable def kU:List Int:=(Ù 31).map λi:Nat=>(i:Int)
def ZN:cu 0 31=kU.map D.int:=by unfold kU;rw[uV,ī];congr 1;funext i;simp
def pV (P A:Int->List Int) (d:Int):D:=.tup [mD (k8.filter λk=>decide (d∈P k)),mD (k8.filter λk=>decide (d∈A k))]
def K4 (hf:∀k s,fn [b,.int mu,.int k] s=ok (lI (F k)) (s++[.dead])) (e0:env[0]?=some (some b)) (e1:env[1]?=some (some (.int mu))) (q:∀c,Q (qQ F) (s++c)) :
  Wp (cE 1 [0,1] (cV (af (eC (.int (8))) ah)) (gN 0) cy (aw fn (af (aa 1) (af (aa 2) (af (aa 0) ah)))) env s) Q:=by
 rw[rV];refine ads (eV (n:=8) rfl (by decide)) ⟨by rw[dM];exact le_size (by decide),?_⟩;have V:dP [0,1] env=[some b,some (.int mu)]:=by simp[dP,e0,e1]
 rw[V];refine uQ (λi Z W=>i<=8->Z=((Ù i).map λi:Nat=>(i:Int)).map (λk=>lI (F k))/\∃c,W=s++c) (cu 0 8) (λ_=>⟨rfl,[],by simp⟩) (λi d Z W Y X=>?_) λZ W X=>?_
 ·rw[il] at Y
  split at Y
  ·rename_i hi
   cases Y;obtain⟨rfl,c,rfl⟩:=X (by omega);refine⟨[some (.int (0+i)),some b,some (.int mu)],rfl,?_⟩;refine ads (show cy _ _=ok true _ from rfl) ?_;rw[Þ rfl];simp only[VC];refine ads (hf (0+(i:Int)) _) λ_=>⟨?_,c++[.dead],by simp⟩;rw[abu,ì,ì];simp
  ·cases Y
 ·rw[dM] at X
  obtain⟨rfl,c,rfl⟩:=X (adv _);exact q c
def V8 (hl:ps.length<=1000):Wp (ua [bD ps,.int m] s) λd s'=>d=.lst (kU.map (pV (kT ps m) (jJ ps m)))/\∃c,s'=s++c:=by
 unfold ua;rw[iP];refine⟨rfl,?_⟩;rw[nP,iI];refine K4 (b:=bD ps) (mu:=m) (λk s=>Rn hl) rfl rfl λc=>?_;simp only[iu,Î,Ğ,ď,ē,Ï,Nat.reduceSub,ø,ô,cz];rw[nP,iI];refine K4 (b:=bD ps) (mu:=m) (λk s=>SI hl) rfl rfl λZ=>?_;simp only[iu,ø,ô,cz,iH,rV,pJ];refine ads (eV (n:=31) rfl (by decide)) ⟨by rw[dM];exact le_size (by decide),?_⟩;rw[ZN];refine ads (oZ (λ_=>true) (pV (kT ps m) (jJ ps m)) kU λd Y=>⟨[some (.int d),some (qQ (kT ps m)),some (qQ (jJ ps m))],rfl,rfl,λ_=>?_⟩) ?_
 ·refine adt ?_
  simp only[VC];refine ads MW ?_;refine ads MW ?_;exact⟨by decide,rfl,rfl⟩
 ·rw[filter_tt]
  exact⟨rfl,c++Z,by simp⟩
noncomputable abbrev iL (F:Nat->Bool):Cell:=.lst ((Ù 32).map λd=>D.bl (F d))
def V9 {α:Type} {n:Nat} {f:Nat->α} {d:Int} (h0:0<=d) (h1:d<n):c9 ((Ù n).map f) d=some (f d.toNat):=by
 obtain⟨x,e1,e2⟩:=zb (xs:=(Ù n).map f) h0 (by simpa using h1);rw[è,ř (by omega)] at e2;rw[e1];exact e2.symm
def Yk:Pg->Prop
 | .made _ _ h l=>∀x∈h,x∉l
 | .cC _ _ _=>True
section
variable (b:Nat->Bool)
noncomputable def jK (n:Nat):Bool:=decide (0<n)&&b (n-1)
def bR:Nat->List (Nat×Nat)
 |0=>[]
 |n+1=>if (b n&&jK b n)=true then (bR n).dropLast++[(((bR n).getLast?.getD (0,0)).1,n)] else if b n=true then bR n++[(n,n)] else bR n
noncomputable def wb:Nat->Nat->Nat
 |0,e=>e
 |f+1,e=>if b (e+1)=true then wb f (e+1) else e
def jL (n:Nat):Bool:=b n&&!jK b n
def Fd (f n:Nat):List (Nat×Nat):=((Ù n).filter (jL b)).map λd=>(d,wb b f d)
variable {b}
theorem K5:∀{f d e:Nat},d<=e->(∀x,d<x->x<=e->b x=true)->b (e+1)=false->e-d<f->wb b f d=e
 |0,_,_,_,_,_,h=>by omega
 |f+1,d,e,W,Z,Y,V=>by
  unfold wb;by_cases h:d=e
  ·subst h
   rw[Y];simp
  ·rw[Þ (Z (d+1) (by omega) (by omega))]
   exact K5 (by omega) (λx U X=>Z x (by omega) X) Y (by omega)
def Told (b:Nat->Bool) (f n:Nat):Prop :=
 (jK b n=false/\bR b n=Fd b f n)\/(jK b n=true/\∃S d,(Ù n).filter (jL b)=S++[d]/\d<n/\(∀x,d<=x->x<n->b x=true)/\bR b n=(S.map λd=>(d,wb b f d))++[(d,n-1)])
theorem MX (f:Nat):∀n,n<=f->Told b f n
 |0,_=>.inl ⟨rfl,rfl⟩
 |n+1,O=>by
  have Y:(Ù (n+1)).filter (jL b)=(Ù n).filter (jL b)++if jL b n=true then [n] else []:=by
   rw[abu,ŷ];congr 1
   by_cases h:jL b n=true<;>simp[ť,h]
  have W:jK b (n+1)=b n:=by simp[jK]
  rcases MX f n (by omega) with ⟨X,h⟩ | ⟨X,S,d,U,N,T,R⟩
  ·cases Z:b n with
   |false =>
    refine .inl ⟨by rw[W,Z],?_⟩;simp only[bR,Z,adb,Ã,î,h];unfold Fd;rw[Y,show jL b n=false by simp[jL,Z]];simp
   |true =>
    refine .inr ⟨by rw[W,Z],(Ù n).filter (jL b),n,?_,by omega,λx V Q=>?_,?_⟩
    ·rw[Y,show jL b n=true by simp[jL,Z,X]]
     simp
    ·rw[show x=n by omega];exact Z
    ·simp only[bR,Z,X,Bool.and_false,Ã,î,ï,h]
     rfl
  ·have hs:jL b n=false:=by simp[jL,X]
   rw[hs] at Y;simp only[Ã,î,Ē] at Y;have M:0<n:=by omega
   cases Z:b n with
   |false =>
    refine .inl ⟨by rw[W,Z],?_⟩;simp only[bR,Z,adb,Ã,î,R];unfold Fd;rw[Y,U,ì];simp only[Î,Ğ];rw[K5 (f:=f) (d:=d) (e:=n-1) (by omega) (λx V Q=>T x (by omega) (by omega)) (by rw[show n-1+1=n by omega];exact Z) (by omega)]
   |true =>
    refine .inr ⟨by rw[W,Z],S,d,by rw[Y,U],by omega,λx V Q=>?_,?_⟩
    ·by_cases P:x=n
     ·rw[P];exact Z
     ·exact T x V (by omega)
    ·simp only[bR,Z,X,đ,ï,R]
     simp
end
noncomputable def brk (l:List Int):List Int:=((Ù (l.length-1)).filter λi=>l.getD (i+1) 0==l.getD i 0).map λi:Nat=>1+(i:Int)
def Yl (h:xs≠[]):ar (.lst xs) (.int (-1)) s=ok (xs.getLast h) s:=by
 have e:c9 xs (-1)=some (xs.getLast h):=by
  conv=>lhs;rw[<- List.dropLast_concat_getLast h]
  exact Jo _ _
 unfold ar ig;rw[show res (.lst xs) s=.lst xs from rfl];simp only[e];rfl
def Wa {c:ae} {ds:List D}:bS (.ai c.length) (c++[.lst ds])=ok (.lst ds) (c++[.dead]):=by
 unfold bS;have e:(c++[Cell.lst ds])[c.length]?=some (.lst ds):=by simp
 simp only[e];rw[abt _ _ (adv _)];simp
def wc (h:xs.length+ys.length<=1000000):bX (.lst xs) (.lst ys) s=ok (.lst (xs++ys)) s:=by
 have e:lU (.lst xs) (.lst ys)=some (.lst (xs++ys)):=by
  show (if gp xs ys=true then some (D.lst (xs++ys)) else none)=_
  have Z:gp xs ys=true:=Õ (le_size h);rw[Þ Z]
 show bq (lU (.lst xs) (.lst ys)) s=_;rw[e];rfl
def Ex.get (h:Ex k s s') (e:s[j]?=some c) (hj:j≠k):s'[j]?=some c:=by
 rw[h.val j (Æ.mp e).1 hj];exact e
theorem Ex.hi (h:Ex k s s') (hj:s.length<=j) (c:Cell):Ex k s (s'.set j c):=⟨by rw[ġ];exact h.len,λi hi Z=>by rw[ç (by omega)];exact h.val i hi Z⟩
def SJ (ha:bY 8 a) (hb:bY 8 b):bY 8 (dE (a++b)):=⟨λx Z=>by
 rw[mw] at Z
 rcases ñ.mp Z with h|h
 ·exact ha.lo x h
 ·exact hb.lo x h,xD _⟩
structure RI (s0:ae) (k rh mh:Nat) (rs:List (List Int)) (s:ae):Prop where
 st:Nr s k
 ex:Ex k s0 s
 run:s[rh]?=some (.lst (rs.map mD))
 mo:∃a b,s[mh]?=some (.lst [mD a,mD b])/\bY 8 a/\bY 8 b
 jI:∀r∈rs,bY 8 r
 k1:k<s0.length
 r1:s0.length<=rh
 m1:s0.length<=mh
 ne:rh≠mh
def bY.Gj (h:bY n l) (hn:n<=8):bY 8 l:=⟨λx Z=>by have:=h.lo x Z;omega,h.up⟩
structure Ft (n W:Nat) (d:D):Prop where
 pl:plain d=true
 sh:(py d).showable=true
 nd:(py d).hasDict=false
 dp:(py d).depth<=n
 wt:(py d).weight<=W
 lv:(py d).leavesShort 40=true
def zW (d:D):Bool:=plain d&&(py d).showable&&!(py d).hasDict&&decide ((py d).depth<=0)&&decide ((py d).weight<=110)&&(py d).leavesShort 40
def zz (h:zW d=true):Ft 0 110 d:=by
 unfold zW at h;simp only[È,Í,ĵ] at h;obtain⟨⟨⟨⟨⟨Z,Y⟩,X⟩,W⟩,V⟩,U⟩:=h;exact⟨Z,Y,X,W,V,U⟩
def Ym:∀n:Fin 62,zW (.int ((n.val:Int)-1))=true:=by decide +kernel
def lG (h1:-1<=n) (h2:n<=60):Ft 0 110 (.int n):=by
 refine zz ?_;have:=Ym ⟨(n+1).toNat,by omega⟩;have e2:(((n+1).toNat:Nat):Int)-1=n:=by omega
 rw[e2] at this;exact this
theorem Dd:∀{ds:List D},(∀x∈ds,Ft n W x)->iJ ds=true/\Ŷ (bW ds)=true/\PyData.hasDictAll (bW ds)=false/\Ļ (bW ds)<=n/\abc (bW ds)<=ds.length*(W+1)/\acJ 40 (bW ds)=true
 | [],_=>⟨rfl,rfl,rfl,ü _,by simp[bW,abc],rfl⟩
 |x::Z,h=>by
  obtain⟨z,a,b,c,d,e⟩:=Dd (ds:=Z) λy Y=>h y (Ò _ Y);have k:=h x Ñ;refine⟨?_,?_,?_,?_,?_,?_⟩
  ·simp only[iJ,k.pl,z,đ]
  ·simp only[bW,Ŷ,k.sh,a,đ]
  ·simp only[bW,PyData.hasDictAll,k.nd,b,Bool.or_self]
  ·simp only[bW,Ļ];have:=k.dp;omega
  ·simp only[bW,abc,ê]
   have:=k.wt;rw[Nat.add_mul];omega
  ·simp only[bW,acJ,k.lv,e,đ]
def kl (hl:ds.length<=c) (h:∀x∈ds,Ft n W x):Ft (n+1) (c*(W+1)) (.tup ds):=by
 obtain⟨z,a,b,X,Z,Y⟩:=Dd h;have hw:abc (bW ds)<=c*(W+1):=Ú Z (acQ _ hl);exact⟨by simp only[plain];exact z,by simp only[py,abr];exact a,by simp only[py,abe];exact b,by simp only[py,PyData.depth];omega,by simp only[py,PyData.weight];exact hw,by simp only[py,ada];exact Y⟩
def pL (hl:ds.length<=c) (h:∀x∈ds,Ft n W x):Ft (n+1) (c*(W+1)) (.lst ds):=by
 obtain⟨z,a,b,X,Z,Y⟩:=Dd h;have hw:abc (bW ds)<=c*(W+1):=Ú Z (acQ _ hl);exact⟨by simp only[plain];exact z,by simp only[py,abr];exact a,by simp only[py,abe];exact b,by simp only[py,PyData.depth];omega,by simp only[py,PyData.weight];exact hw,by simp only[py,ada];exact Y⟩
def ne_str:dB (.str x) (.str x) s=ok (.bl false) s:=by
 show (match gk (.str x) (.str x) with|some b=>ok (D.bl (!b)) s|none=>none)=_
 have e:gk (.str x) (.str x)=some true:=by
  unfold gk;rw[Þ (show (i7 (.str x)&&i7 (.str x))=true from rfl)];simp[beq]
 rw[e];rfl
structure Oj (p:Pg):Prop where
 day:0<=p.day/\p.day<31
 jZ:jZ p
 apart:Yk p
 ft:Ft 3 7116 p.d
def Ft.mono (h:Ft n W d) (h1:n<=n') (h2:W<=W'):Ft n' W' d:=⟨h.pl,h.sh,h.nd,Ú h.dp h1,Ú h.wt h2,h.lv⟩
def L5:Ft 0 110 (.str "made")/\Ft 0 110 (.str "mended"):=⟨zz (by decide +kernel),zz (by decide +kernel)⟩
def De (h:bY 8 ns):Ft 1 888 (mD ns):=by
 refine kl (c:=8) (W:=110) (by rw[Â];exact h.len) λx Z=>?_;obtain⟨y,Y,rfl⟩:=ò.mp Z;have:=h.lo y Y;exact lG (by omega) (by omega)
def K6 (h:dg p=true):Oj p:=by
 cases p with
 |made m d P l =>
  simp only[dg,lE,kF,È,Í] at h;obtain⟨⟨T,Y⟩,S,R,X⟩:=h;have V:=x9 S;have U:=x9 R;refine⟨Y,⟨by have:=V.len;omega,by have:=U.len;omega⟩,λx Z Q=>?_,?_⟩
  ·unfold mK at X
   rw[ĵ,abx] at X;exact X x Z (Õ Q)
  ·refine kl (c:=4) (n:=2) (W:=1778) (by simp) λx Z=>?_
   simp only[É,Ý,or_false] at Z
   rcases Z with rfl|rfl|rfl|rfl
   ·exact L5.1.mono (by omega) (by omega)
   ·exact(lG (by omega) (by omega)).mono (by omega) (by omega)
   ·exact(lG (by omega) (by omega)).mono (by omega) (by omega)
   ·refine kl (c:=2) (n:=1) (W:=888) (by simp) λx Z=>?_
    simp only[É,Ý,or_false] at Z
    rcases Z with rfl|rfl
    ·exact De V
    ·exact De U
 |cC m d k =>
  simp only[dg,lE,kF,markB,È,Í] at h;obtain⟨⟨T,Y⟩,O⟩:=h;refine⟨Y,trivial,trivial,(kl (c:=4) (n:=0) (W:=110) (by simp) λx Z=>?_).mono (by omega) (by omega)⟩;simp only[É,Ý,or_false] at Z
  rcases Z with rfl|rfl|rfl|rfl
  ·exact L5.2
  ·exact lG (by omega) (by omega)
  ·exact lG (by omega) (by omega)
  ·exact lG (by omega) (by omega)
def Je (h:ef ps=true):ps.length<=24/\∀p∈ps,Oj p:=by
 unfold ef jo at h;simp only[È,Í,õ] at h;exact⟨h.1.1,λp Z=>K6 (h.1.2.1 p Z)⟩
def UA (hl:ps.length<=1000) (hf:∀p∈ps,jZ p) (hb:ef ps=true):xR [bD ps] s=ok .ax s:=by
 refine adt ?_;unfold xR;simp only[VC];refine ads (KW hl hf) ?_;rw[hb];simp only[VC,Č,Ã,î,Ě]
section
variable {α:Type} (r:α->α->Bool)
def Nw (l:List α):Prop:=l.Pairwise λa b=>r a b=false
structure ad2 (hs:List α) (m:Nat):Prop where
 ex:∃l,l.Sublist hs/\Nw r l/\l.length=m
 le:∀l,l.Sublist hs->Nw r l->l.length<=m
variable {r}
end
def Gk (a b:List Int):Bool:=sub b a||sub a b
def rW (rs:List (List Int)) (ps:List Nat) (k:Nat):Bool:=!(ps.any λj=>Gk (rs.getD k []) (rs.getD j []))
def dS (rs:List (List Int)):Nat->List (List Nat)
 |0=>[[]]
 |k+1=>dS rs k++((dS rs k).filter λZ=>rW rs Z k).map λZ=>Z++[k]
def UB (rs:List (List Int)) (k:Nat):(dS rs k).length<=2 ^ k:=by
 induction k with
 |zero=>exact adv 1
 |succ k ih =>
  have:=Ĭ (λZ=>rW rs Z k) (dS rs k);rw[dS,Ð,Â,Nat.pow_succ];omega
def Bj (k:Nat):∀ps∈dS rs k,ps.length<=k/\∀p∈ps,p<k:=by
 induction k with
 |zero=>intro ps h;rw[Ü.mp h];exact⟨adv _,λp hp=>absurd hp (Ý)⟩
 |succ k ih =>
  intro ps h
  rcases ñ.mp h with h|h
  ·exact⟨Nat.le_succ_of_le (ih ps h).1,λp hp=>é ((ih ps h).2 p hp)⟩
  ·obtain⟨Z,Y,rfl⟩:=ò.mp h
   have:=ih Z (ÿ.mp Y).1;refine⟨by rw[Ð];exact acP this.1,λp hp=>?_⟩
   rcases ñ.mp hp with hp|hp
   ·exact é (this.2 p hp)
   ·rw[Ü.mp hp];exact ĉ _
noncomputable abbrev its (rs:List (List Int)) (ps:List Nat):List (List Int):=ps.map λp=>rs.getD p []
noncomputable def foldM:List Nat->List (List Nat)->List Nat
 |b,[]=>b
 |b,y::Z=>if b.length<y.length then foldM y Z else foldM b Z
def UC (ys:List (List Nat)):∀b,(foldM b ys∈b::ys)/\∀z∈b::ys,z.length<=(foldM b ys).length:=by
 induction ys with
 |nil=>intro b;exact⟨Ü.mpr rfl,λz hz=>by rw[Ü.mp hz];exact adv _⟩
 |cons y ys ih =>
  intro b;unfold foldM
  split<;>rename_i h
  ·obtain⟨Y,Z⟩:=ih y
   refine⟨Ò _ Y,λz hz=>?_⟩
   rcases É.mp hz with rfl|hz
   ·have:=Z y Ñ;omega
   ·exact Z z hz
  ·obtain⟨Y,Z⟩:=ih b
   refine⟨?_,λz hz=>?_⟩
   ·rcases É.mp Y with e|e
    ·rw[e];exact Ñ
    ·exact Ò _ (Ò _ e)
   ·rcases É.mp hz with rfl|hz
    ·exact Z z Ñ
    ·rcases É.mp hz with rfl|hz
     ·have:=Z b Ñ;omega
     ·exact Z z (Ò _ hz)
def longest:List (List Nat)->List Nat
 | []=>[]
 |x::Z=>foldM x Z
def mx (rs:List (List Int)):Nat:=(longest (dS rs rs.length)).length
def K7 (rs:List (List Int)) (k:Nat):∃x xs,dS rs k=x::xs:=by
 induction k with
 |zero=>exact⟨[],[],rfl⟩
 |succ k ih =>
  obtain⟨x,xs,e⟩:=ih;rw[dS,e];exact⟨x,_,rfl⟩
noncomputable abbrev pD (ps:List Nat):D:=.tup (ps.map λp:Nat=>D.int p)
structure GH (rs:List (List Int)):Prop where
 hi:rs.length<=10
 jI:∀r∈rs,bY 8 r
def GH.at (h:GH rs) (i:Nat):(rs.getD i []).length<=1000000:=by
 by_cases hi:i<rs.length
 ·have:=(h.jI _ (Ĥ (getD_some (d:=[]) hi))).len
  omega
 ·rw[abD,ė (by omega)]
  exact ü _
def Wb {α:Type} (p:α->Bool) (xs:List α) (s:ae):ou [.lst (xs.map λx=>D.bl (p x))] s=ok (.bl (xs.any p)) s:=by
 have e:gJ (xs.map λx=>D.bl (p x))=some (xs.map p):=by
  have:=Kw (bs:=xs.map p);rw[ī] at this;exact this
 show bq ((gJ (xs.map λx=>D.bl (p x))).map λ(bs:List Bool)=>D.bl (bs.any id)) s=_;rw[e];show ok (D.bl ((xs.map p).any id)) s=_;rw[ac9];rfl
def Ro (h:GH rs) (hk:k<rs.length) (hp:∀p∈ps,p<k) (hl:ps.length<=10):aK.xF [rD rs,pD ps,.int k] s=ok (.bl (rW rs ps k)) s:=by
 refine adt ?_;unfold aK.xF;simp only[VC,Az hk];refine ads (k9 rfl) ⟨le_size (by rw[Â];omega),?_⟩;refine ads (comp_map (λp:Nat=>D.int p) (λ_=>true) (λp=>.bl (Gk (rs.getD k []) (rs.getD p []))) ps λp Z=>⟨[some (.int p),some (mD (rs.getD k [])),some (rD rs)],rfl,rfl,λ_=>?_⟩) ?_
 ·have:=hp p Z
  refine adt ?_;simp only[VC,Az (show p<rs.length by omega),A9 (h.at p),A9 (h.at k)];unfold Gk
  cases sub (rs.getD p []) (rs.getD k [])<;>simp
 ·rw[filter_tt]
  refine ads (Wb _ _ _) ?_;simp only[VC,and_true];rfl
def aa3 (h:a.length+b.length<=1000000):bX (pD a) (pD b) s=ok (pD (a++b)) s:=by
 have e:lU (pD a) (pD b)=some (pD (a++b)):=by
  show (if gp (a.map λp:Nat=>D.int p) (b.map λp:Nat=>D.int p)=true then some (D.tup ((a.map λp:Nat=>D.int p)++(b.map λp:Nat=>D.int p))) else none)=_
  have Z:gp (a.map λp:Nat=>D.int p) (b.map λp:Nat=>D.int p)=true:=by
   unfold gp;rw[Â,Â];exact Õ (le_size h)
  rw[Þ Z];show some (D.tup ((a.map λp:Nat=>D.int p)++(b.map λp:Nat=>D.int p)))=some (D.tup ((a++b).map λp:Nat=>D.int p));rw[ì]
 show bq (lU (pD a) (pD b)) s=_;rw[e];rfl
def qi:bN [pD ps] s=ok (.int ps.length) s:=by
 show ok (D.int (ps.map λp:Nat=>D.int p).length) s=_;rw[Â]
def Yn (ys:List (List Nat)):∀b,qe (λd s=>bN [d] s) mW (pD b) (.int b.length) (ys.map pD) s=ok (pD (foldM b ys)) s:=by
 induction ys with
 |nil=>intro b;rfl
 |cons y ys ih =>
  intro b;rw[Î];unfold qe;simp only[qi,kq,de,Og,foldM];by_cases h:b.length<y.length
  ·rw[Õ (show (b.length:Int)<y.length by omega),Þ h]
   exact ih y
  ·rw[æ (show ¬ (b.length:Int)<y.length by omega),å h]
   exact ih b
def aa4 (h:k<=10):2 ^ k<=1024:=by
 calc 2 ^ k<=2 ^ 10:=Nat.pow_le_pow_right (by decide) h
  _=1024:=by decide
def rX (h:GH rs):aK.ml [rD rs] s=ok (pD (longest (dS rs rs.length))) s:=by
 have hi:=h.hi;refine adt ?_;unfold aK.ml;simp only[VC];refine⟨by decide,by decide,?_⟩;refine ads (eV (s1:=s) (n:=rs.length) (adt (by simp only[VC,tu,Ě])) (by omega)) ?_;refine Wp.iV (λi env Y=>Y=s/\∃x,env=[some (rD rs),some (.lst ((dS rs i).map pD)),x]) _ ⟨rfl,_,rfl⟩ (λi d env Y X W=>?_) (λenv Y W=>?_)
 ·obtain⟨rfl,x,rfl⟩:=W
  rw[il] at X;split at X
  ·rename_i S
   cases X;refine⟨_,rfl,?_⟩;have Q:=UB rs i;have P:=aa4 (show i<=10 by omega);simp only[VC,Ŕ];refine ads (lg rfl) ⟨le_size (by rw[Â];omega),?_⟩;refine ads (comp_map pD (λZ=>rW rs Z i) (λZ=>pD (Z++[i])) (dS rs i) λZ V=>⟨[some (pD Z),some (.int i),some (rD rs)],rfl,?_,λ_=>?_⟩) ?_
   ·obtain⟨R,U⟩:=Bj i Z V
    refine adt ?_;simp only[VC,Ro h S U (show Z.length<=10 by omega),Ě]
   ·obtain⟨R,U⟩:=Bj i Z V
    refine adt ?_;simp only[VC];refine⟨by decide,?_⟩;exact ads (show bX (pD Z) (.tup [.int i]) _=_ from aa3 (b:=[i]) (by simp;omega)) ⟨rfl,rfl⟩
   ·have e:((dS rs i).map pD)++(((dS rs i).filter λZ=>rW rs Z i).map λZ=>pD (Z++[i]))=(dS rs (i+1)).map pD:=by
     rw[dS,ì,ī];rfl
    have O:=Ĭ (λZ=>rW rs Z i) (dS rs i);refine ads (wc (by simp only[Â];omega)) ?_;rw[e];exact⟨rfl,_,rfl⟩
  ·cases X
 ·obtain⟨rfl,x,rfl⟩:=W
  rw[dM];simp only[VC];obtain⟨y,T,e⟩:=K7 rs rs.length;rw[e,Î];show Wp (ak (ne (bN [pD y] Y)) λk s=>qe (λd s=>bN [d] s) mW (pD y) k (T.map pD) s) _;rw[qi,kq,de];exact ads (Yn T y) ⟨rfl,rfl⟩
def uW (h:GH rs) (h1:1<=rs.length) (h2:rs.length<=9):aK.nK [rD rs] s=ok .ax s:=by
 have Z:xq [rD rs,.int 9] s=ok (.bl true) s:=by
  refine adt ?_;unfold xq;simp only[VC];refine ads (show fR [rD rs,.ty "tuple"] s=ok (.bl true) s from rfl) ?_;simp only[VC,ï];refine ads (show bN [rD rs] s=ok (.int (rs.map mD).length) s from rfl) ?_;rw[Â];simp only[VC];rw[Õ (show (1:Int)<=rs.length by omega),Õ (show (rs.length:Int)<=9 by omega)];simp only[VC,ï];refine ads (k9 rfl) ⟨le_size (by rw[Â];omega),?_⟩;refine ads (comp_map mD (λ_=>true) (λ_=>.bl true) rs λr Y=>⟨[some (mD r)],rfl,rfl,λ_=>?_⟩) ?_
  ·refine adt ?_
   simp only[VC,Ik (h.jI r Y),acB]
  ·rw[filter_tt]
   exact ads (nR (λ_=>true) _ _) ⟨by simp,rfl⟩
 refine adt ?_;unfold aK.nK;simp only[VC,Z,Č,Ã,î,acB]
def SK (h:GH rs) (h1:1<=rs.length) (h9:rs.length<=9):aK.uG [rD rs] s=ok (.int (mx rs)) s:=by
 refine adt ?_;unfold aK.uG;simp only[VC,uW h h1 h9,rX h,qi,and_true];rfl
def JR {k:Nat} (h:k<=xs.length):cutD xs none (some k)=xs.take k:=by
 unfold cutD;rw[HT.J8];show (xs.drop 0).take (min k xs.length-0)=_;rw[Nat.min_eq_left h];rfl
def UD {k:Nat}:cutD xs (some k) none=xs.drop k:=by
 unfold cutD;rw[HT.J8];show (xs.drop (min k xs.length)).take (xs.length-min k xs.length)=_;by_cases h:k<=xs.length
 ·rw[Nat.min_eq_left h]
  apply acm;simp
 ·rw[Nat.min_eq_right (by omega),acn (adv _),acn (by omega)]
  simp
def Wc {k:Nat} (hf:f env s=ok (.tup xs) s) (hg:g env s=ok (.int k) s) (h:k<=xs.length):i9 f i8 (iT g) env s=ok (.tup (xs.take k)) s:=by
 refine adt ?_;rw[zx,hf,aR,yY,uU hg];refine ads (show lA (.tup xs) none (some k) s=ok (.tup (cutD xs none (some k))) s from rfl) ⟨?_,rfl⟩;rw[JR h]
def We {k:Nat} (hf:f env s=ok (.tup xs) s) (hg:g env s=ok (.int k) s):i9 f (iT g) i8 env s=ok (.tup (xs.drop k)) s:=by
 refine adt ?_;rw[zx,hf,aR,uU hg,yY];refine ads (show lA (.tup xs) (some k) none s=ok (.tup (cutD xs (some k) none)) s from rfl) ⟨?_,rfl⟩;rw[UD]
def Nx (h:a.length+b.length<=1000000):bX (rD a) (rD b) s=ok (rD (a++b)) s:=by
 have e:lU (rD a) (rD b)=some (rD (a++b)):=by
  show (if gp (a.map mD) (b.map mD)=true then some (D.tup (a.map mD++b.map mD)) else none)=_
  have Z:gp (a.map mD) (b.map mD)=true:=by
   unfold gp;rw[Â,Â];exact Õ (le_size h)
  rw[Þ Z];show some (D.tup (a.map mD++b.map mD))=some (D.tup ((a++b).map mD));rw[ì]
 show bq (lU (rD a) (rD b)) s=_;rw[e];rfl
def Wf {i j:Nat} {rs:List (List Int)} {p:Nat} (hi:aa i env s=ok (rD rs) s) (hj:aa j env s=ok (.int p) s) (hp:p<rs.length) (hl:rs.length<=9) :
  e2 bX (i9 (aa i) i8 (iT (aa j))) (i9 (aa i) (iT (e2 bX (aa j) (eC (.int 1)))) i8) env s=ok (rD (rs.eraseIdx p)) s:=by
 refine adt ?_;rw[dF,Wc hi hj (by rw[Â];omega),aR,We (k:=p+1) hi (adt (by rw[dF,hj,aR,fG,KP];exact⟨rfl,rfl⟩)),aR];rw[<- List.map_take,<- List.map_drop];refine ads (Nx (a:=rs.take p) (b:=rs.drop (p+1)) (by simp;omega)) ⟨?_,rfl⟩;rw[List.eraseIdx_eq_take_drop_succ]
def GH.less (h:GH rs) (p:Nat):GH (rs.eraseIdx p):=⟨Ú (List.length_eraseIdx_le _ _) h.hi,λr Z=>h.jI r ((List.eraseIdx_sublist rs p).subset Z)⟩
def dG (rs:List (List Int)):List Nat:=if rs.length=1 then [] else (Ù rs.length).filter λp=>decide (mx (rs.eraseIdx p)<mx rs)
def Sf (s:ae) (k:Nat):Prop:=∃(a:Int) (b:Bool),s[k]?=some (.lst [.int a,.bl b])/\0<=a/\(b=false->a<2147483647)
def Sf.lt (h:Sf s k):k<s.length:=by
 obtain⟨a,b,e,_⟩:=h;exact(Æ.mp e).1
def Sf.app (h:Sf s k) (c:List Cell):Sf (s++c) k:=by
 obtain⟨a,b,e,r⟩:=h;exact⟨a,b,by rw[ã (Æ.mp e).1];exact e,r⟩
theorem Sf.set (h:Sf s k) (hj:j≠k) (c:Cell):Sf (s.set j c) k:=by
 obtain⟨a,b,e,r⟩:=h;exact⟨a,b,by rw[ç hj];exact e,r⟩
def gj (h:Sf s k) (h1:0<m) (h2:m<1073741824):Wp (aK.eR [.ai k,.int m] s) λd s'=>∃r:Int,d=.int r/\0<=r/\r<m/\Sf s' k/\Ex k s s':=by
 obtain⟨a,b,e,V,Y⟩:=h;have X:=(Æ.mp e).1
 cases b with
 |true =>
  have Z:(s.set k (.lst [.int (a / m),.bl true]))[k]?=some (.lst [.int (a / m),.bl true]):=ð X;refine⟨.int (a % m),s.set k (.lst [.int (a / m),.bl true]),?_,a % m,rfl,acd _ (by omega),abi _ h1,⟨a / m,true,Z,Int.ediv_nonneg V (by omega),λz=>by cases z⟩,Ex.set _ _ _⟩;simp only[aK.eR,aN,ay,bE,cx,truth,e2,yZ,za,eC,de,Î,Ğ,ď,ē,Gh _ _ k s e,Of _ _ k s e,ê,Ć,ï,aZ,gN,oy s h1,ow,zU s h1 h2,Nt _ _ _ k s e,aM,ø,ô,Ï]
 |false =>
  have Y:=Y rfl;have ex:0<=(a*48271+29) % 2147483647/\(a*48271+29) % 2147483647<2147483647:=⟨acd _ (by decide),abi _ (by decide)⟩;generalize U:(a*48271+29) % 2147483647=x at ex;have Z:(s.set k (.lst [.int x,.bl false]))[k]?=some (.lst [.int x,.bl false]):=ð X;generalize W:(x*x+39373*x+7) % 2147483629=y;have N:0<=y/\y<2147483629:=by rw[<- W];exact⟨acd _ (by decide),abi _ (by decide)⟩
  generalize T:(y*y+16807*y) % 2147483587=z;refine⟨.int (z / 8 % m),s.set k (.lst [.int x,.bl false]),?_,_,rfl,acd _ (by omega),abi _ h1,⟨x,false,Z,ex.1,λ_=>ex.2⟩,Ex.set _ _ _⟩;have S:fO (.int a) (.int 48271) s=ok (.int (a*48271)) s:=tm s (mulOk_of (by omega) (by omega));have R:∀s',fO (.int x) (.int x) s'=ok (.int (x*x)) s':=λs'=>tm s' (mulOk_of (by omega) (by omega));have Q:∀s',fO (.int 39373) (.int x) s'=ok (.int (39373*x)) s':=λs'=>tm s' (mulOk_of (by decide) (by decide));have m4:∀s',fO (.int y) (.int y) s'=ok (.int (y*y)) s':=λs'=>tm s' (mulOk_of (by omega) (by omega));have P:∀s',fO (.int 16807) (.int y) s'=ok (.int (16807*y)) s':=λs'=>tm s' (mulOk_of (by decide) (by decide));have O:∀n:Int,ar (.ai k) (.int 0) (s.set k (.lst [.int x,.bl false]))=ok (.int x) (s.set k (.lst [.int x,.bl false])):=λ_=>Gh _ _ k _ Z;simp only[aK.eR,aN,ay,bE,cx,truth,e2,yZ,za,eC,de,Î,Ğ,ď,ē,Gh _ _ k s e,Of _ _ k s e,ê,Ć,Ã,î,ï,bM,aZ,gN,ow,Nt _ _ _ k s e,aM,ø,ô,Ï,S,R,Q,m4,P,Nu,oy _ (show (0:Int)<2147483647 by decide),oy _ (show (0:Int)<2147483629 by decide),oy _ (show (0:Int)<2147483587 by decide),zU _ (show (0:Int)<8 by decide) (by decide),oy _ h1,U,W,T,O 0]
def Wg (h0:0<=i):Wp (aK.yu [.bV ns,.int i] s) λd s'=>d=.ai s.length/\Sf s' s.length/\∃c,s'=s++[c]:=by
 obtain⟨c,Y⟩:=V2 (ns:=ns) (s:=s) h0;have Z:∀s,vA (.int 10) (.int 18) s=ok (.int (10 ^ 18)) s:=λs=>by
  have e:ET (.int 10) (.int 18)=some (.int (10 ^ 18)):=by
   show (if (decide ((0:Int)<=18)&&decide ((18:Int)<=1000000)&&decide ((10:Int).natAbs<2 ^ 64))=true then some (D.int (10 ^ (18:Int).toNat)) else none)=_
   rw[Þ (by decide)];rfl
  simp only[vA,e,bq]
 unfold aK.yu;simp only[VC,Y,Z];by_cases h:(10:Int) ^ 18<=c
 ·rw[Õ h]
  simp only[VC,Z,ï];exact⟨by decide,⟨_,true,by simp;rfl,by omega,λz=>by cases z⟩,_,rfl⟩
 ·rw[æ h]
  simp only[VC,Ã,î,oy _ (show (0:Int)<2147483647 by decide)];exact⟨by decide,⟨_,false,by simp;rfl,acd _ (by decide),λ_=>abi _ (by decide)⟩,_,rfl⟩
def Wh {k n:Nat} (h:Sf s k) (hn:n<=8):Wp (aK.yv [.ai k,.int n] s) λd s'=>∃ns,d=mD ns/\bY n ns/\Sf s' k/\Ex k s s':=by
 unfold aK.yv;simp only[VC];refine ads (eV rfl (by omega)) ⟨by rw[dM];exact le_size (by omega),?_⟩;refine Wp.mono (Q:=λT s'=>∃ns,T=ns.map D.int/\bY n ns/\Sf s' k/\Ex k s s') ?_ λT O hx=>?_
 ·refine uQ (λi Z s'=>∃ns:List Int,Z=ns.map D.int/\bY i ns/\Sf s' k/\Ex k s s') (cu 0 n) ⟨[],rfl,⟨by simp,.nil⟩,h,Ex.refl _ _⟩ (λi d Z s' X W=>?_) λZ s' W=>?_
  ·obtain⟨ns,rfl,Y,U,V⟩:=W
   rw[il] at X;split at X
   ·cases X
    refine⟨[some (.int (0+i)),some (.ai k)],rfl,?_⟩;simp only[VC];refine(gj U (by decide) (by decide)).mono λd N X=>?_;obtain⟨r,rfl,M,L,S,R⟩:=X;simp only[VC];split
    ·refine⟨ns++[0+(i:Int)],by simp,⟨λx hx=>?_,?_⟩,S,V.trans R⟩
     ·rcases ñ.mp hx with hx|hx
      ·have:=Y.lo x hx;omega
      ·rw[Ü.mp hx];omega
     ·refine List.pairwise_append.mpr ⟨Y.up,by simp,λx hx y P=>?_⟩
      rw[Ü.mp P];have:=Y.lo x hx;omega
    ·exact⟨ns,rfl,⟨λx hx=>by have:=Y.lo x hx;omega,Y.up⟩,S,V.trans R⟩
   ·cases X
  ·rw[dM] at W
   exact W
 ·obtain⟨ns,rfl,Y,U,V⟩:=hx
  exact ads rfl ⟨ns,rfl,Y,U,V⟩
def aa5 (h0:0<=k) (h1:k<4):∃n:Nat,ar (.lst [.int 2,.int 3,.int 4,.int 8]) (.int k) s=ok (.int n) s/\n<=8:=by
 rcases(show k=0\/k=1\/k=2\/k=3 by omega) with rfl|rfl|rfl|rfl
 ·exact⟨2,rfl,by decide⟩
 ·exact⟨3,rfl,by decide⟩
 ·exact⟨4,rfl,by decide⟩
 ·exact⟨8,rfl,by decide⟩
def Qq (h:ns.length<64):uE (mD ns) s=ok (.lst ((dE ns).map D.int)) s:=by
 unfold uE;simp only[Be,Õ h,ï]
structure HI (s0:ae) (k rh:Nat) (rs:List (List Int)) (s:ae):Prop where
 st:Sf s k
 ex:Ex k s0 s
 run:s[rh]?=some (.lst (rs.map mD))
 jI:∀r∈rs,bY 8 r
 k1:k<s0.length
 r1:s0.length<=rh
def HI.draw (h:HI s0 k rh rs s) (g:Sf s' k) (x:Ex k s s'):HI s0 k rh rs s':=by
 have:=h.k1;have:=h.r1;exact⟨g,h.ex.trans x,x.get h.run (by omega),h.jI,h.k1,h.r1⟩
def HI.push (h:HI s0 k rh rs s) (hr:bY 8 r):HI s0 k rh (rs++[r]) (s.set rh (.lst (rs.map mD++[mD r]))):=by
 have:=h.k1;have:=h.r1;refine⟨h.st.set (by omega) _,h.ex.hi (by omega) _,?_,λx hx=>?_,h.k1,h.r1⟩
 ·rw[ð (Æ.mp h.run).1,ì]
  rfl
 ·rcases ñ.mp hx with hx|hx
  ·exact h.jI x hx
  ·rw[Ü.mp hx];exact hr
def ixH {k i:Nat} {rs:List (List Int)} (h:s[k]?=some (.lst (rs.map mD))) (hi:i<rs.length):ar (.ai k) (.int i) s=ok (mD (rs.getD i [])) s:=by
 unfold ar ig res;simp only[h];rw[B0 (by rw[è,getD_some (d:=[]) hi];rfl)];rfl
def Wi (L:List (List Int)):DI.cU (L.map mD)=true:=by
 induction L with
 |nil=>rfl
 |cons a r ih=>simp only[Î,DI.cU,lay,oY,ih,đ]
def ZP {k:Nat} {rs:List (List Int)} (h:s[k]?=some (.lst (rs.map mD))):dB (.ai k) (.lst []) s=ok (.bl (!rs.isEmpty)) s:=by
 have e1:res (.ai k) s=.lst (rs.map mD):=by unfold res;simp only[h]
 have e:gk (.lst (rs.map mD)) (.lst [])=some rs.isEmpty:=by
  unfold gk;rw[å (show ¬ (i7 (.lst _)&&i7 (.lst _))=true from Ö),Þ (by simp only[lay,Wi];simp[DI.cU,dep,c8])]
  cases rs<;>rfl
 unfold dB;rw[e1]
 show (match gk (.lst (rs.map mD)) (.lst []) with|some b=>ok (D.bl (!b)) s|none=>none)=_
 rw[e]
def aa6 {k:Nat} {rs:List (List Int)} (h:s[k]?=some (.lst (rs.map mD))):bN [.ai k] s=ok (.int rs.length) s:=by
 unfold bN qc res;simp only[h,Â];rfl
def L6 {k:Nat} {M:Int} (h:Sf s k) (m0:0<M) (m9:M<=9):Wp (aK.uP [.ai k,.int M] s) λd s'=>∃rs,d=rD rs/\1<=rs.length/\rs.length<=9/\GH rs/\Sf s' k/\Ex k s s':=by
 have v:=h.lt;unfold aK.uP;simp only[VC];refine(gj h m0 (by omega)).mono λd s1 Z=>?_;obtain⟨n,rfl,n0,n1,u,E⟩:=Z
 try simp only[VC]
 refine(gj u (by decide) (by decide)).mono λd P Z=>?_;obtain⟨way,rfl,t,r,p,C⟩:=Z
 try simp only[VC]
 refine⟨by decide,?_⟩;have l1:=E.len;have l2:=C.len;have K:HI s k P.length [] (P++[.lst []]):=⟨p.app _,(E.trans C).trans (Ex.app _ _ _),by simp,by simp,v,by omega⟩;generalize hS:P++[.lst []]=S at K;generalize P.length=Y at K;refine ads (KO (n:=(1+n).toNat) (s1:=S) (i:=1+n) (adt (by simp only[VC,Ě])) (by omega) (by omega)) ?_;refine Wp.iV (λi env s'=>∃rs V U R,rs.length=i/\HI s k Y rs s'/\env=[some (.ai k),some (.int M),some (.int (1+n)),some (.int way),some (.ai Y),V,U,R]) _ ⟨[],_,_,_,rfl,K,rfl⟩ (λi d env s' Z J=>?_) (λenv s' J=>?_)
 ·obtain⟨rs,V,U,R,I,T,rfl⟩:=J
  rw[il] at Z;split at Z
  ·rename_i hi
   cases Z;refine⟨_,rfl,?_⟩;simp only[VC];refine⟨by decide,?_⟩;obtain⟨q,o,B⟩:=aa5 (s:=s') t r;rw[o];simp only[VC];refine(Wh T.st B).mono λd l Z=>?_;obtain⟨A,rfl,Q,g,f⟩:=Z;have Q:=Q.Gj B;have lm:=Q.len;have O:=T.draw g f;simp only[VC,ZP O.run];have fin:∀(m:List Int) (X:ae) (R:Option D),bY 8 m->HI s k Y rs X->iU (.ai Y) X=true/\Wp (ia (.ai Y) (mD m) X) λ_ H=>∃rs V U G,rs.length=i+1/\HI s k Y rs H/\([some (.ai k),some (.int M),some (.int (1+n)),some (.int way),some (.ai Y),some (.int (0+(i:Int))),some (mD m),R]:Env)=[some (.ai k),some (.int M),some (.int (1+n)),some (.int way),some (.ai Y),V,U,G]:=λm X R e W=>by
    refine⟨by unfold iU;simp only[W.run],?_⟩;refine ads (show ia (.ai Y) (mD m) X=ok .ax (X.set Y (.lst (rs.map mD++[mD m]))) from ?_) ⟨rs++[m],_,_,_,by rw[Ð,I];rfl,W.push e,rfl⟩;unfold ia;have c:(rs.map mD).length<Ø:=Ņ (show _<=1000000 by rw[Â];omega) (by decide);simp only[W.run,Õ c,ï]
   refine⟨ü _,?_⟩;split
   ·rename_i y
    have F:rs≠[]:=by
     intro z;rw[z] at y;cases y
    have b:=List.length_pos_iff.mpr F;refine(gj O.st (by decide) (by decide)).mono λd a Z=>?_;obtain⟨q1,rfl,_,_,h4,x4⟩:=Z;have N:=O.draw h4 x4;simp only[VC];split
    ·rw[aa6 N.run]
     simp only[VC];refine(gj N.st (by omega) (by omega)).mono λd s5 Z=>?_;obtain⟨j,rfl,j0,j1,h5,V⟩:=Z;have W:=N.draw h5 V;obtain⟨L,rfl⟩:=Int.eq_ofNat_of_zero_le j0;have x:L < rs.length:=by omega
     rw[ixH W.run x];simp only[VC];have go:bY 8 (rs.getD L []):=W.jI _ (Ĥ (getD_some (d:=[]) x));have lo:=go.len;refine(gj W.st (by decide) (by decide)).mono λd X Z=>?_;obtain⟨q2,rfl,_,_,h6,U⟩:=Z;have w:=W.draw h6 U;simp only[VC];split
     ·refine ads (E4 (by omega)) ?_
      refine ads (Qq (by rw[Ð];omega)) ?_;refine ads (show eU [.lst ((dE (rs.getD L []++A)).map D.int)] X=ok (mD (dE (rs.getD L []++A))) X from rfl) ?_;exact fin _ X _ (SJ go Q) w
     ·exact fin _ X _ go w
    ·exact fin _ a _ Q N
   ·simp only[Ã,î]
    exact fin _ l _ Q O
  ·cases Z
 ·obtain⟨rs,V,U,R,I,T,rfl⟩:=J
  rw[dM] at I;simp only[VC];refine ads (show eU [.ai Y] s'=ok (rD rs) s' from ?_) ⟨rs,rfl,by omega,by omega,⟨by omega,T.jI⟩,T.st,T.ex⟩;unfold eU res;simp only[T.run]
def UE:Wp (u5 nt cap it g t f env s) Q=Wp (it env s) λds s=>ds.length<=Ø/\Wp (dW nt (dP cap env) g t f ds s) λxs s=>Q (.ai s.length) (s++[.lst xs]):=by
 unfold u5;simp only[bw,nN,aR]
noncomputable abbrev nD (ps:List Nat):List D:=ps.map λp:Nat=>D.int p
def SM (h:GH rs) (h1:1<=rs.length) (h9:rs.length<=9):aK.rH [rD rs] s=ok (.ai s.length) (s++[.lst (nD (dG rs))]):=by
 have hi:=h.hi;refine adt ?_;unfold aK.rH dG;simp only[VC,uW h h1 h9,tu];by_cases e:rs.length=1
 ·rw[Þ e,e,show (((1:Nat):Int)==1)=true from rfl]
  simp only[VC,ï]
  exact⟨by decide,by first|trivial|exact⟨rfl,rfl⟩⟩
 ·rw[å e,show ((rs.length:Int)==1)=false from beq_eq_false_iff_ne.mpr (by omega)]
  simp only[VC,UE,Ã,î,rX h,qi];refine ads (eV (s1:=s) (n:=rs.length) (adt (by simp only[VC,tu,Ě])) (by omega)) ⟨le_size (by rw[dM];omega),?_⟩;rw[uV];refine ads (comp_map (λi:Nat=>D.int (0+(i:Int))) (λp=>decide (mx (rs.eraseIdx p)<mx rs)) (λp:Nat=>D.int p) _ λp Z=>⟨[some (.int (0+(p:Int))),some (.int (mx rs)),some (rD rs)],rfl,?_,λ_=>?_⟩) ⟨rfl,rfl⟩
  ·have Z:=ë.mp Z
   rw[Ŕ];refine adt ?_;rw[mI,dF,lM,bZ,wp_call,bZ,Wf (rs:=rs) (p:=p) rfl rfl Z h9];simp only[VC,rX (h.less p),qi,and_true];have:(((longest (dS (rs.eraseIdx p) (rs.eraseIdx p).length)).length:Int)<(mx rs:Int))↔mx (rs.eraseIdx p)<mx rs:=by
    unfold mx;omega
   exact decide_eq_decide.mpr this
  ·rw[Ŕ]
   rfl
def SN (h:bY 8 m):aK.xI [mD m] s=ok .ax s:=by
 refine adt ?_;unfold aK.xI;simp only[VC,Ik h,Č,Ã,î,acB]
def GH.more (h:GH rs) (h9:rs.length<=9) (hm:bY 8 m):GH (rs++[m]):=⟨by rw[Ð];exact acP h9,λr Z=>by
 rcases ñ.mp Z with q|q
 ·exact h.jI r q
 ·rw[Ü.mp q];exact hm⟩
def Wj (h:GH rs) (h1:1<=rs.length) (h9:rs.length<=9) (hm:bY 8 m):aK.uB [rD rs,mD m] s=ok (.int ((mx (rs++[m]):Int)-mx rs)) s:=by
 refine adt ?_;unfold aK.uB;simp only[VC,uW h h1 h9,SN hm];refine⟨by decide,?_⟩;refine ads (show bX (rD rs) (.tup [mD m]) s=_ from Nx (b:=[m]) (by simp;omega)) ?_;refine ads (rX (h.more h9 hm)) ?_;refine ads qi ?_;refine ads (rX h) ?_;refine ads qi ?_;exact ads (Nv _ _ _) ⟨rfl,rfl⟩
def PY (h:GH rs) (h1:1<=rs.length) (h9:rs.length<=9):aK.t9 [rD rs] s=ok (pD (longest (dS rs rs.length))) s:=by
 refine adt ?_;unfold aK.t9;simp only[VC,uW h h1 h9,rX h,Ě]
noncomputable abbrev bj:=List (Nat×Nat)
def bg:bj->Nat->Option Nat
 | [],_=>none
 |p::r,q=>if p.1=q then some p.2 else bg r q
def dC:bj->Nat->Nat->bj
 | [],q,v=>[(q,v)]
 |p::r,q,v=>if p.1=q then (q,v)::r else p::dC r q v
abbrev keys (a:bj):List Nat:=a.map (·.1)
abbrev vals (a:bj):List Nat:=a.map (·.2)
def keys_cons (p:Nat×Nat) (r:bj):keys (p::r)=p.1::keys r:=rfl
def yl (p:Nat×Nat) (r:bj):vals (p::r)=p.2::vals r:=rfl
def get_mem {a:bj} {q v:Nat} (h:bg a q=some v):(q,v)∈a:=by
 induction a with
 |nil=>cases h
 |cons p r ih =>
  unfold bg at h;split at h
  ·rename_i e;cases h;rw[<- e];exact Ñ
  ·exact Ò _ (ih h)
def Cu {a:bj} (nd:(keys a).Nodup) {q v:Nat} (h:(q,v)∈a):bg a q=some v:=by
 induction a with
 |nil=>cases h
 |cons p r ih =>
  rw[keys_cons,Ħ] at nd;unfold bg
  rcases É.mp h with e|e
  ·rw[<- e,Þ rfl]
  ·rw[å (λz=>nd.1 (ò.mpr ⟨(q,v),e,z.symm⟩))]
   exact ih nd.2 e
def get_none {a:bj} {q:Nat}:bg a q=none↔q∉keys a:=by
 induction a with
 |nil=>exact⟨λ_ h=>(by cases h),λ_=>rfl⟩
 |cons p r ih =>
  unfold bg;rw[keys_cons,É,not_or];split
  ·rename_i e;exact⟨λz=>(by cases z),λz=>absurd e.symm z.1⟩
  ·rename_i e;rw[ih];exact⟨λz=>⟨λw=>e w.symm,z⟩,λz=>z.2⟩
def pA {a:bj} {q v x:Nat}:bg (dC a q v) x=if x=q then some v else bg a x:=by
 induction a with
 |nil =>
  show (if q=x then some v else none)=_
  by_cases e:x=q
  ·rw[Þ e,Þ e.symm]
  ·rw[å e,å (ŕ e)];rfl
 |cons p r ih =>
  unfold dC;split
  ·rename_i e
   show (if q=x then some v else bg r x)=_
   by_cases e2:x=q
   ·rw[Þ e2,Þ e2.symm]
   ·rw[å e2,å (ŕ e2)]
    show _=if p.1=x then some p.2 else bg r x
    rw[å (λz=>e2 (z.symm.trans e))]
  ·rename_i e
   show (if p.1=x then some p.2 else bg (dC r q v) x)=if x=q then some v else (if p.1=x then some p.2 else bg r x)
   rw[ih];by_cases e2:x=q
   ·rw[Þ e2,Þ e2,å (λz=>e (z.trans e2))]
   ·rw[å e2,å e2]
def JS {a:bj} {q v:Nat}:keys (dC a q v)=if q∈keys a then keys a else keys a++[q]:=by
 induction a with
 |nil=>rfl
 |cons p r ih =>
  unfold dC;split
  ·rename_i e
   rw[Þ (by rw[keys_cons,e];exact Ñ),keys_cons,keys_cons,e]
  ·rename_i e
   rw[keys_cons,keys_cons,ih];by_cases h:q∈keys r
   ·rw[Þ h,Þ (Ò _ h)]
   ·rw[å h,å (λz=>(É.mp z).elim (λw=>e w.symm) h)];rfl
def Wk {a:bj} {q v:Nat} (h:bg a q=none):dC a q v=a++[(q,v)]:=by
 induction a with
 |nil=>rfl
 |cons p r ih =>
  unfold bg at h;unfold dC;split at h
  ·cases h
  ·rename_i e;rw[å e,ih h];rfl
def UG {a:bj} {q v w:Nat} (h:bg a q=some w):(w::vals (dC a q v)).Perm (v::vals a):=by
 induction a with
 |nil=>cases h
 |cons p r ih =>
  unfold bg at h;unfold dC;split at h
  ·rename_i e
   cases h;rw[Þ e];exact abI _ _ _
  ·rename_i e
   rw[å e,yl,yl];exact(abI _ _ _).trans (((ih h).cons _).trans (abI _ _ _))
abbrev enc (a:bj):List (Key×D):=a.map λp:Nat×Nat=>((ŋ (p.1:Int):Key),D.int p.2)
def mE {a b:Nat}:((ŋ (a:Int):Key)=ŋ (b:Int))↔a=b:=⟨λh=>by injection h with h;omega,λh=>by rw[h]⟩
def Cv (a:bj) (q:Nat):iz (enc a) (ŋ (q:Int))=(bg a q).map λv=>D.int (v:Nat):=by
 induction a with
 |nil=>rfl
 |cons p r ih =>
  rw[show enc (p::r)=(ŋ (p.1:Int),D.int p.2)::enc r from rfl];unfold iz bg;by_cases e:p.1=q
  ·rw[Þ e,Þ (mE.mpr e)];rfl
  ·rw[å e,å (λz=>e (mE.mp z))];exact ih
def Wl {α:Type} (f:α->Nat) (g:α->D) (a:List α) (q:Nat):((a.map λp=>((ŋ (f p:Int):Key),g p)).any λp=>decide (p.1=ŋ (q:Int)))=a.any λp=>decide (f p=q):=by
 rw[ac9];congr 1;funext p;exact decide_eq_decide.mpr mE
def SO {p:Key×D} {r:List (Key×D)} {k:Key} {v:D} (nd:p.1=k->k∉r.map (·.1)):gv (p::r) k v=if p.1=k then (k,v)::r else p::gv r k v:=by
 unfold gv;rw[ab2];by_cases e:p.1=k
 ·rw[Þ e,Õ e,Bool.true_or,Þ rfl,Î,Þ e,e]
  congr 1
  have:∀x∈r,(if x.1=k then (x.1,v) else x)=x:=λx Z=>å (λz=>nd e (ò.mpr ⟨x,Z,z⟩))
  calc r.map (λp=>if p.1=k then (p.1,v) else p)=r.map id:=abQ this
   _=r:=List.map_id _
 ·rw[å e,æ e,Bool.false_or]
  split
  ·rw[Î,å e]
  ·rfl
def K8 (a:bj) (nd:(keys a).Nodup) (q v:Nat):gv (enc a) (ŋ (q:Int)) (.int v)=enc (dC a q v):=by
 induction a with
 |nil=>rfl
 |cons p r ih =>
  rw[keys_cons,Ħ] at nd;rw[show enc (p::r)=(ŋ (p.1:Int),D.int p.2)::enc r from rfl,SO]
  ·unfold dC
   by_cases e:p.1=q
   ·rw[Þ (mE.mpr e),Þ e];rfl
   ·rw[å (λz=>e (mE.mp z)),å e,ih nd.2];rfl
  ·intro e Z
   have e:=mE.mp e;obtain⟨x,Y,X⟩:=ò.mp Z;obtain⟨y,W,rfl⟩:=ò.mp Y;exact nd.1 (ò.mpr ⟨y,W,by rw[e];exact mE.mp X⟩)
noncomputable abbrev gQ (T:List Nat):List (Key×D):=T.map λq:Nat=>((ŋ (q:Int):Key),D.bl true)
def Wm (T:List Nat) (q:Nat):(iz (gQ T) (ŋ (q:Int))).isSome=decide (q∈T):=by
 induction T with
 |nil=>rfl
 |cons p r ih =>
  rw[show gQ (p::r)=((ŋ (p:Int):Key),D.bl true)::gQ r from rfl];unfold iz;by_cases e:p=q
  ·rw[Þ (mE.mpr e),e];simp
  ·rw[å (λz=>e (mE.mp z)),ih]
   exact decide_eq_decide.mpr ⟨λh=>Ò _ h,λh=>(É.mp h).elim (λz=>absurd z.symm e) id⟩
def Wn {T:List Nat} {q:Nat} (h:q∉T):gv (gQ T) (ŋ (q:Int)) (.bl true)=gQ (T++[q]):=by
 unfold gv;rw[show (gQ T)=T.map (λp:Nat=>((ŋ ((λq:Nat=>q) p:Int):Key),(λ_=>D.bl true) p)) from rfl,Wl (λq:Nat=>q) (λ_=>D.bl true)];rw[å (by rw[ų];rintro ⟨x,Z,e⟩;exact h (ċ e ▸ Z))];show _=(T++[q]).map _;rw[ì];rfl
section
variable {E:Nat->Nat->Bool} {n:Nat} {a:bj} {S:List Nat}
structure Mt (E:Nat->Nat->Bool) (n:Nat) (a:bj):Prop where
 kn:(keys a).Nodup
 vn:(vals a).Nodup
 ed:∀q p,(q,p)∈a->E p q=true/\p<n/\q<n
def Cl (E:Nat->Nat->Bool) (n:Nat) (a:bj) (S:List Nat):Prop:=∀q∈S,∃p,bg a q=some p/\∀r,r<n->E p r=true->r∈S
structure St (E:Nat->Nat->Bool) (n:Nat) (a:bj) (S:List Nat):Prop where
 m:Mt E n a
 c:Cl E n a S
 f:∀u,u<n->u∉vals a->∀r,r<n->E u r=true->r∈S
def Wo (M:Mt E n a) {x:Nat} (h:x∈vals a):∃q,bg a q=some x:=by
 obtain⟨p,Z,rfl⟩:=ò.mp h;exact⟨p.1,Cu M.kn Z⟩
def uJ {l m:List Nat} (h:l.Nodup) (s:∀x∈l,x∈m):l.length<=m.length:=by
 induction l generalizing m with
 |nil=>exact ü _
 |cons x l ih =>
  obtain⟨X,W⟩:=Ħ.mp h;have Z:=s x Ñ;have:=ih (m:=m.erase x) W λy Y=>(List.mem_erase_of_ne (λ(e:y=x)=>X (e ▸ Y))).mpr (s y (Ò _ Y));rw[abX Z] at this;have:=List.length_pos_of_mem Z;rw[ê];omega
end
def rv (a:bj):bj:=a.foldl (λZ p=>dC Z p.2 p.1) []
def Yo (a:bj) (nd:(vals a).Nodup):∀(acc:bj) (x:Nat),(∀q,(q,x)∈a->bg (a.foldl (λacc p=>dC acc p.2 p.1) acc) x=some q)/\(x∉vals a->bg (a.foldl (λacc p=>dC acc p.2 p.1) acc) x=bg acc x):=by
 induction a with
 |nil=>intro acc x;exact⟨λq h=>(by cases h),λ_=>rfl⟩
 |cons p r ih =>
  intro acc x;rw[yl,Ħ] at nd;obtain⟨X,Y⟩:=ih nd.2 (dC acc p.2 p.1) x;refine⟨λq W=>?_,λZ=>?_⟩
  ·rcases É.mp W with e|e
   ·have ex:x=p.2:=Ķ Prod.snd e
    have eq:q=p.1:=Ķ Prod.fst e;rw[ū,Y (by rw[ex];exact nd.1),pA,Þ ex,eq]
   ·rw[ū];exact X q e
  ·rw[yl,É,not_or] at Z
   rw[ū,Y Z.2,pA,å Z.1]
def Wq (a:bj):∀(acc:bj),(keys acc).Nodup->(keys (a.foldl (λacc p=>dC acc p.2 p.1) acc)).Nodup:=by
 induction a with
 |nil=>intro acc h;exact h
 |cons p r ih =>
  intro acc h;rw[ū];refine ih _ ?_;rw[JS];split
  ·exact h
  ·rename_i Z
   refine ŧ.mpr ⟨h,by simp,λx Y y X=>?_⟩;rw[Ü.mp X];exact λe=>Z (e ▸ Y)
section
variable {E:Nat->Nat->Bool} {n:Nat} {a:bj} {S:List Nat}
def L7 (M:Mt E n a) {p q:Nat}:bg (rv a) p=some q↔bg a q=some p:=by
 obtain⟨Y,W⟩:=Yo a M.vn [] p;constructor
 ·intro h
  by_cases X:p∈vals a
  ·obtain⟨V,e⟩:=Wo M X
   have:=Y V (get_mem e);have h:bg (a.foldl (λZ p=>dC Z p.2 p.1) []) p=some q:=h;rw[this] at h;cases h;exact e
  ·have h:bg (a.foldl (λZ p=>dC Z p.2 p.1) []) p=some q:=h
   rw[W X] at h;cases h
 ·intro h
  exact Y q (get_mem h)
structure Or (E:Nat->Nat->Bool) (n:Nat):Prop where
 tY:∀x,E x x=false
 tr:∀x y z,x<n->y<n->z<n->E x y=true->E y z=true->E x z=true
noncomputable def rank (E:Nat->Nat->Bool) (n x:Nat):Nat:=((Ù n).filter λy=>E y x).length
def Cw (O:Or E n) {p q:Nat} (hp:p<n) (hq:q<n) (h:E p q=true):rank E n p<rank E n q:=by
 have np:p∉(Ù n).filter λy=>E y p:=λw=>by
  have:=(ÿ.mp w).2;rw[O.tY] at this;cases this
 have Z:(p::(Ù n).filter λy=>E y p).Nodup:=Ħ.mpr ⟨np,List.nodup_range.sublist List.filter_sublist⟩;refine uJ Z λx Y=>?_
 rcases É.mp Y with e|e
 ·rw[e];exact ÿ.mpr ⟨ë.mpr hp,h⟩
 ·obtain⟨e1,e2⟩:=ÿ.mp e
  exact ÿ.mpr ⟨e1,O.tr x p q (ë.mp e1) hp hq e2 h⟩
def zd (O:Or E n) {p:Nat} (hp:p<n):rank E n p<n:=by
 have np:p∉(Ù n).filter λy=>E y p:=λw=>by
  have:=(ÿ.mp w).2;rw[O.tY] at this;cases this
 have Z:(p::(Ù n).filter λy=>E y p).Nodup:=Ħ.mpr ⟨np,List.nodup_range.sublist List.filter_sublist⟩;have:=uJ (m:=Ù n) Z λx Y=>by
  rcases É.mp Y with e|e
  ·rw[e];exact ë.mpr hp
  ·exact(ÿ.mp e).1
 rw[ŀ] at this;exact this
def we (b:bj):Nat->Nat->List Nat
 |0,p=>[p]
 |f+1,p=>p::match bg b p with
  |none=>[]
  |some q=>we b f q
def row (n:Nat) (a:bj) (p:Nat):List Nat:=we (rv a) n p
def SQ (O:Or E n) (M:Mt E n a):∀f p,p<n->n<=f+rank E n p->we (rv a) (f+1) p=we (rv a) f p:=by
 intro f
 induction f with
 |zero=>intro p Z h;have:=zd O Z;omega
 |succ f ih =>
  intro p Z h;show p::_=p::_;congr 1
  cases X:bg (rv a) p with
  |none=>rfl
  |some q =>
   obtain⟨e1,_,Y⟩:=M.ed q p (get_mem ((L7 M).mp X));have:=Cw O Z Y e1;exact ih q Y (by omega)
def L8 (O:Or E n) (M:Mt E n a) {p:Nat} (hp:p<n):row n a p=p::match bg (rv a) p with
  |none=>[]
  |some q=>row n a q:=by
 unfold row;rw[<- SQ O M n p hp (by omega)];rfl
def JT (O:Or E n) (M:Mt E n a) {p:Nat} (hp:p<n) (h:bg (rv a) p=none):row n a p=[p]:=by rw[L8 O M hp,h]
def JU (O:Or E n) (M:Mt E n a) {p q:Nat} (hp:p<n) (h:bg (rv a) p=some q):row n a p=p::row n a q:=by rw[L8 O M hp,h]
def K9 (O:Or E n) (M:Mt E n a) {C:Nat->Prop} (h0:∀p,p<n->bg (rv a) p=none->C p) (h1:∀p q,p<n->q<n->E p q=true->bg (rv a) p=some q->C q->C p):∀p,p<n->C p:=by
 have key:∀k p,p<n->n-rank E n p<=k->C p:=by
  intro k
  induction k with
  |zero=>intro p Z h;have:=zd O Z;omega
  |succ k ih =>
   intro p Z h
   cases X:bg (rv a) p with
   |none=>exact h0 p Z X
   |some q =>
    obtain⟨e1,_,Y⟩:=M.ed q p (get_mem ((L7 M).mp X));have:=Cw O Z Y e1;have:=zd O Y;exact h1 p q Z Y e1 X (ih q Y (by omega))
 exact λp Z=>key (n-rank E n p) p Z (adv _)
def starts (n:Nat) (a:bj):List Nat:=(Ù n).filter λx=>decide (x∉keys a)
def UH {x:Nat} (h:x∈starts n a):x<n:=ë.mp (ÿ.mp h).1
end
def fM (rs:List (List Int)) (p q:Nat):Bool:=sub (rs.getD p []) (rs.getD q [])&&(!decide (rs.getD q []=rs.getD p [])||decide (p<q))
def Yp (h:sub a b=true) (g:sub b c=true):sub a c=true:=nQ.mpr λx Z=>nQ.mp g x (nQ.mp h x Z)
def up_eq (ha:a.Pairwise (· < ·)) (hb:b.Pairwise (· < ·)) (h:sub a b=true) (g:sub b a=true):a=b:=by
 induction a generalizing b with
 |nil =>
  cases b with
  |nil=>rfl
  |cons y r=>exact absurd (nQ.mp g y Ñ) Ý
 |cons x l ih =>
  cases b with
  |nil=>exact absurd (nQ.mp h x Ñ) Ý
  |cons y r =>
   obtain⟨a1,a2⟩:=Ă.mp ha;obtain⟨Y,X⟩:=Ă.mp hb;rw[nQ] at h g;have e:x=y:=by
    rcases É.mp (h x Ñ) with e|e
    ·exact e
    ·rcases É.mp (g y Ñ) with e'|e'
     ·exact e'.symm
     ·have:=Y x e;have:=a1 y e';omega
   subst e;rw[ih a2 X (nQ.mpr λz Z=>?_) (nQ.mpr λz Z=>?_)]
   ·rcases É.mp (h z (Ò _ Z)) with e|e
    ·have:=a1 z Z;omega
    ·exact e
   ·rcases É.mp (g z (Ò _ Z)) with e|e
    ·have:=Y z Z;omega
    ·exact e
def yK:fM rs p q=true↔sub (rs.getD p []) (rs.getD q [])=true/\(rs.getD q []=rs.getD p []->p<q):=by
 unfold fM;rw[È,ab5,ĵ,decide_eq_false_iff_not,Í];exact and_congr_right λ_=>⟨λh e=>h.elim (λz=>absurd e z) id,λh=>(Classical.em _).elim (λe=>.inr (h e)) .inl⟩
theorem GH.up (h:GH rs) (i:Nat):(rs.getD i []).Pairwise (· < ·):=by
 by_cases hi:i<rs.length
 ·exact(h.jI _ (Ĥ (getD_some (d:=[]) hi))).up
 ·rw[abD,ė (by omega)]
  exact .nil
def L9 (h:GH rs):Or (fM rs) rs.length:=by
 constructor
 ·intro x
  rw[Bool.eq_false_iff];intro z;have:=(yK.mp z).2 rfl;omega
 ·intro x y z _ _ _ X W
  obtain⟨Z,V⟩:=yK.mp X;obtain⟨Y,U⟩:=yK.mp W;refine yK.mpr ⟨Yp Z Y,λe=>?_⟩;have e1:rs.getD x []=rs.getD y []:=up_eq (h.up x) (h.up y) Z (by rw[<- e];exact Y);have:=V e1.symm;have:=U (e.trans e1);omega
def UI (a:List Int):∀b:List Int,eD (a.map D.int) (b.map D.int)=decide (a=b):=by
 induction a with
 |nil=>intro b;cases b<;>rfl
 |cons x r ih =>
  intro b
  cases b with
  |nil=>rfl
  |cons y t =>
   simp only[Î,eD,beq,ih];rw[ň];simp
def eqT:gk (res (mD a) s) (res (mD b) s)=some (decide (a=b)):=by
 have Z:∀c:List Int,lay (mD c)=true:=λc=>by simp only[lay,oY]
 have Y:dep (mD a)<=100:=by simp only[dep,IZ];decide
 show gk (mD a) (mD b)=_;unfold gk;rw[å (show ¬ (i7 (.tup _)&&i7 (.tup _))=true from Ö),Þ (by rw[Z,Z,Õ (Ú (Nat.min_le_left _ _) Y)];rfl)];simp only[beq,UI]
def neT:dB (mD a) (mD b) s=ok (.bl (!decide (a=b))) s:=by
 unfold dB;rw[eqT]
def SR (h:GH rs) (hp:p<rs.length) (hq:q<rs.length):aK.xH [rD rs,.int p,.int q] s=ok (.bl (fM rs p q)) s:=by
 refine adt ?_;unfold aK.xH;simp only[VC,Az hp,Az hq,A9 (h.at p),neT];unfold fM;have e:decide ((p:Int)<q)=decide (p<q):=decide_eq_decide.mpr Int.ofNat_lt
 cases sub (rs.getD p []) (rs.getD q [])<;>cases decide (rs.getD q []=rs.getD p [])<;>simp[e]
section
variable {E:Nat->Nat->Bool} {n:Nat} {a a':bj} {T:List Nat} {p q x:Nat}
structure Ek (E:Nat->Nat->Bool) (n:Nat) (a:bj):Prop where
 kn:(keys a).Nodup
 ed:∀q v,bg a q=some v->E v q=true/\v<n/\q<n
def Ek.put (h:Ek E n a) (e:E p q=true) (hp:p<n) (hq:q<n):Ek E n (dC a q p):=by
 refine⟨?_,λz v Z=>?_⟩
 ·rw[JS]
  split
  ·exact h.kn
  ·rename_i Y
   refine ŧ.mpr ⟨h.kn,by simp,λx X y W=>?_⟩;rw[Ü.mp W];exact λe=>Y (e ▸ X)
 ·rw[pA] at Z
  split at Z
  ·rename_i e2;cases Z;rw[e2];exact⟨e,hp,hq⟩
  ·exact h.ed z v Z
def Ek.len (h:Ek E n a):a.length<=n:=by
 have:=uJ (m:=Ù n) h.kn λq Y=>by
  obtain⟨pr,Z,rfl⟩:=ò.mp Y;exact ë.mpr (h.ed pr.1 pr.2 (Cu h.kn Z)).2.2
 rw[Â,ŀ] at this;exact this
structure Good (E:Nat->Nat->Bool) (n:Nat) (a:bj) (T:List Nat) (p:Nat) (a':bj):Prop where
 ek:Ek E n a'
 vp:(vals a').Perm (p::vals a)
 kp:∀q∈T,bg a' q=bg a q
 cl:∀S,Cl E n a S->(¬ ∀r,r<n->E p r=true->r∈S)/\∀q∈S,bg a' q=bg a q
def Good.free (h:Ek E n a) (hg:bg a q=none) (e:E p q=true) (hp:p<n) (hq:q<n) (hT:q∉T):Good E n a T p (dC a q p):=by
 refine⟨h.put e hp hq,?_,λz Z=>?_,λS W=>?_⟩
 ·rw[Wk hg]
  show ((a++[(q,p)]).map _).Perm _;rw[ì];exact List.perm_append_singleton p (vals a)
 ·rw[pA,å (λ(w:z=q)=>hT (w ▸ Z))]
 ·have Y:q∉S:=λw=>by
   obtain⟨y,X,_⟩:=W q w;rw[hg] at X;cases X
  exact⟨λw=>Y (w q hq e),λz Z=>by rw[pA,å (λ(w:z=q)=>Y (w ▸ Z))]⟩
def Good.more (g:Good E n a T1 x a') (hg:bg a q=some x) (e:E p q=true) (hp:p<n) (hq:q<n) (h1:q∈T1) (hs:∀z∈T,z∈T1) (hT:q∉T):Good E n a T p (dC a' q p):=by
 refine⟨g.ek.put e hp hq,?_,λz Z=>?_,λS Y=>?_⟩
 ·have V:bg a' q=some x:=by rw[g.kp q h1];exact hg
  have v:=(UG (v:=p) V).trans ((g.vp.cons p).trans (abI x p _));exact v.cons_inv
 ·rw[pA,å (λ(w:z=q)=>hT (w ▸ Z))]
  exact g.kp z (hs z Z)
 ·obtain⟨U,R⟩:=g.cl S Y
  have X:q∉S:=λw=>by
   obtain⟨y,W,Q⟩:=Y q w;rw[hg] at W;cases W;exact U Q
  exact⟨λw=>X (w q hq e),λz Z=>by rw[pA,å (λ(w:z=q)=>X (w ▸ Z))];exact R z Z⟩
structure Ol (E:Nat->Nat->Bool) (n:Nat) (a:bj) (T:List Nat) (i p:Nat) (T':List Nat):Prop where
 s:∀q∈T,q∈T'
 nd:T'.Nodup
 lt:∀q∈T',q<n
 nb:∀r,r<i->E p r=true->r∈T'
 c:∀q∈T',q∉T->∃x,bg a q=some x/\∀r,r<n->E x r=true->r∈T'
end
section
variable {s:ae} {k:Nat} {a:bj} {T:List Nat} {q p x:Nat}
def pM (h:s[k]?=some (.dK aj)):lY (.ai k) s=some aj:=by unfold lY;simp only[h]
def aa7 (h:s[k]?=some (.dK (gQ T))):my (.int q) (.ai k) s=ok (.bl (!decide (q∈T))) s:=by
 unfold my;rw[pM h];show ok (D.bl (!(iz (gQ T) (ŋ (q:Int))).isSome)) s=_;rw[Wm]
def inA (h:s[k]?=some (.dK (enc a))):sE (.int q) (.ai k) s=ok (.bl (bg a q).isSome) s:=by
 unfold sE;rw[pM h];show ok (D.bl (iz (enc a) (ŋ (q:Int))).isSome) s=_;rw[Cv,abz]
def Ny (h:s[k]?=some (.dK (enc a))):my (.int q) (.ai k) s=ok (.bl (!(bg a q).isSome)) s:=by
 unfold my;rw[pM h];show ok (D.bl (!(iz (enc a) (ŋ (q:Int))).isSome)) s=_;rw[Cv,abz]
def Nz (h:s[k]?=some (.dK (enc a))) (e:bg a q=some x):pT (.ai k) (.int q) s=ok (.int x) s:=by
 unfold pT;rw[pM h];show bq (iz (enc a) (ŋ (q:Int))) s=_;rw[Cv,e];rfl
def zQ (h:s[k]?=some (.dK (gQ T))) (hq:q∉T) (hl:T.length<=9):putD (.ai k) (.int q) (.bl true) s=some (s.set k (.dK (gQ (T++[q])))):=by
 unfold putD;rw[pM h]
 show (if (gQ T).length<Ø then some (s.set k (.dK (gv (gQ T) (ŋ (q:Int)) (.bl true)))) else none)=_
 rw[Þ (Ņ (show _<=9 by rw[Â];exact hl) (by decide)),Wn hq]
def wg (h:s[k]?=some (.dK (enc a))) (nd:(keys a).Nodup) (hl:a.length<=9):putD (.ai k) (.int q) (.int p) s=some (s.set k (.dK (enc (dC a q p)))):=by
 unfold putD;rw[pM h]
 show (if (enc a).length<Ø then some (s.set k (.dK (gv (enc a) (ŋ (q:Int)) (.int p)))) else none)=_
 rw[Þ (Ņ (show _<=9 by rw[Â];exact hl) (by decide)),K8 a nd]
def Cy:Wp (v8 f fo fi env s) QF=Wp (f env s) λx s=>Wp (fo env s) λd s=>Wp (fi env s) λn s=>∃s',putD d n x s=some s'/\QF (.nx env) s':=by
 unfold v8;simp only[bw];congr 1;funext x s;congr 1;funext d s;congr 1;funext i s;refine propext ⟨λh=>?_,λ⟨s',e,q⟩=>by rw[e];exact Wp.ok q⟩
 cases e:putD d i x s with
 |none=>rw[e] at h;obtain⟨_,_,z,_⟩:=h;cases z
 |some s'=>rw[e,aR] at h;exact⟨s',rfl,h⟩
end
structure FS (s0 s:ae) (ha ht:Nat) (a:bj) (T:List Nat):Prop where
 a:s[ha]?=some (.dK (enc a))
 t:s[ht]?=some (.dK (gQ T))
 o:∀j,j≠ha->j≠ht->s[j]?=s0[j]?
def FS.zQ {s0 s:ae} {ha ht:Nat} {a:bj} {T T':List Nat} (h:FS s0 s ha ht a T) (bK:ha≠ht):FS s0 (s.set ht (.dK (gQ T'))) ha ht a T' :=
 ⟨by rw[ç (ŕ bK)];exact h.a,ð (Æ.mp h.t).1,λj Y Z=>by rw[ç (ŕ Z)];exact h.o j Y Z⟩
def FS.wg {s0 s:ae} {ha ht:Nat} {a a':bj} {T:List Nat} (h:FS s0 s ha ht a T) (bK:ha≠ht):FS s0 (s.set ha (.dK (enc a'))) ha ht a' T :=
 ⟨ð (Æ.mp h.a).1,by rw[ç bK];exact h.t,λj Z Y=>by rw[ç (ŕ Z)];exact h.o j Z Y⟩
theorem FS.trans {s0 s1 s2:ae} {ha ht:Nat} {a a':bj} {T T':List Nat} (h:FS s0 s1 ha ht a T) (g:FS s1 s2 ha ht a' T'):FS s0 s2 ha ht a' T':=⟨g.a,g.t,λj Z Y=>(g.o j Z Y).trans (h.o j Z Y)⟩
def sI (E:Nat->Nat->Bool) (a:bj) (go:List Nat->Nat->Bool×bj×List Nat) (p:Nat):List Nat->List Nat->Bool×bj×List Nat
 | [],T=>(false,a,T)
 |i::r,T=>if i∈T then sI E a go p r T else if E p i=true then (match bg a i with
   |none=>(true,dC a i p,T++[i])
   |some x=>if (go (T++[i]) x).1=true then (true,dC (go (T++[i]) x).2.1 i p,(go (T++[i]) x).2.2) else sI E a go p r (go (T++[i]) x).2.2) else sI E a go p r T
def findF (E:Nat->Nat->Bool) (n:Nat) (a:bj):Nat->List Nat->Nat->Bool×bj×List Nat
 |0,T,_=>(false,a,T)
 |f+1,T,p=>sI E a (findF E n a f) p (Ù n) T
def Wr (h:GH rs) (h9:rs.length<=9) (bK:ha≠ht) (ek:Ek (fM rs) rs.length a):∀(fuel:Nat) {T:List Nat} {p:Nat} {s:ae},T.Nodup->(∀q∈T,q<rs.length)->p<rs.length->rs.length+1<=fuel+T.length->s[ha]?=some (.dK (enc a))->s[ht]?=some (.dK (gQ T)) ->
  Wp (aK.ue fuel [rD rs,.int p,.ai ha,.ai ht] s) λd s'=>∃b a' T',d=.bl b/\FS s s' ha ht a' T'/\(b=false->a'=a/\Ol (fM rs) rs.length a T rs.length p T')/\(b=true->Good (fM rs) rs.length a T p a')/\findF (fM rs) rs.length a fuel T p=(b,a',T'):=by
 intro fuel;have hi:=h9;have le:∀{T:List Nat},T.Nodup->(∀q∈T,q<rs.length)->T.length<=rs.length:=λ{T} P N=>by
  have:=uJ (m:=Ù rs.length) P λq S=>ë.mpr (N q S);rw[ŀ] at this;exact this
 induction fuel with
 |zero=>intro T p s P N _ u;have:=le P N;omega
 |succ fuel ih =>
  intro T p s P N L u e1 e2;unfold aK.ue;simp only[VC];refine ads (eV (s1:=s) (n:=rs.length) (adt (by simp only[VC,tu,Ě])) (by omega)) ?_;refine Wp.iV (λi env s'=>∃T' x,env=[some (rD rs),some (.int p),some (.ai ha),some (.ai ht),x]/\FS s s' ha ht a T'/\Ol (fM rs) rs.length a T i p T'/\sI (fM rs) a (findF (fM rs) rs.length a fuel) p ((Ù rs.length).drop i) T'=findF (fM rs) rs.length a (fuel+1) T p) _ ⟨T,none,rfl,⟨e1,e2,λ_ _ _=>rfl⟩,⟨λ_ z=>z,P,N,λr Y=>by omega,λq S K=>absurd S K⟩,rfl⟩ (λi d env s' O J=>?_) (λenv s' J=>?_)
  ·obtain⟨T',x,rfl,F,B,Z⟩:=J
   rw[il] at O;split at O
   ·rename_i M
    cases O;refine⟨_,rfl,?_⟩;rw[Ŕ];have lT:=le B.nd B.lt;rw[show (Ù rs.length).drop i=i::(Ù rs.length).drop (i+1) by rw[Ŝ (by rw[ŀ];exact M),List.getElem_range],sI] at Z;simp only[VC,aa7 F.t];by_cases V:i∈T'
    ·rw[Õ V]
     rw[Þ V] at Z;refine⟨T',_,rfl,F,⟨B.s,B.nd,B.lt,λr Y R=>?_,B.c⟩,Z⟩
     rcases Ţ.mp Y with l|l
     ·exact B.nb r l R
     ·rw[l];exact V
    ·rw[å V] at Z
     rw[æ V];simp only[VC,adf,ï,SR h L M]
     cases R:fM rs p i with
     |false =>
      rw[R,å Ö] at Z;refine⟨T',_,rfl,F,⟨B.s,B.nd,B.lt,λr Y X=>?_,B.c⟩,Z⟩
      rcases Ţ.mp Y with l|l
      ·exact B.nb r l X
      ·rw[l,R] at X;cases X
     |true =>
      rw[R,Þ rfl] at Z;simp only[VC,ï,Cy];refine⟨_,zQ F.t V (by omega),?_⟩;have W:=F.zQ (T':=T'++[i]) bK;generalize s'.set ht (.dK (gQ (T'++[i])))=s1 at W;have o:(T'++[i]).Nodup:=ŧ.mpr ⟨B.nd,by simp,λx I y H e=>V (by rw[Ü.mp H] at e;exact e ▸ I)⟩;have k:∀q∈T'++[i],q<rs.length:=λq S=>(ñ.mp S).elim (B.lt q) λz=>by rw[Ü.mp z];exact M
      have C:i∉T:=λz=>V (B.s i z);simp only[VC,Ny W.a]
      cases Q:bg a i with
      |none =>
       simp only[VC,Option.isSome_none,adf,ï,Cy];refine⟨_,wg W.a ek.kn (by have:=ek.len;omega),?_⟩;exact⟨true,_,_,rfl,W.wg bK,λz=>(by cases z),λ_=>Good.free ek Q R L M C,by rw[<- Z,Q]⟩
      |some x =>
       simp only[VC,ab3,Č,Ã,î,Nz W.a Q];have I:=ek.ed i x Q;have ll:T.length<=T'.length:=uJ P B.s;refine(ih (T:=T'++[i]) (p:=x) o k I.2.1 (by rw[Ð,ā];omega) W.a W.t).mono λd s2 O=>?_;obtain⟨b,a',j,rfl,E,g,f,Z2⟩:=O;simp only[Q,Z2] at Z;simp only[VC]
       cases b with
       |true =>
        have G:=f rfl;simp only[VC,ï,Cy];refine⟨_,wg E.a G.ek.kn (by have:=G.ek.len;omega),?_⟩;exact⟨true,_,_,rfl,(W.trans E).wg bK,λz=>(by cases z),λ_=>G.more Q R L M (by simp) (λz D=>þ _ (B.s z D)) C,by rw[<- Z];rfl⟩
       |false =>
        obtain⟨rfl,U⟩:=g rfl;simp only[VC,Ã,î];refine⟨j,_,rfl,W.trans E,⟨λz D=>U.s z (þ _ (B.s z D)),U.nd,U.lt,λr Y X=>?_,λq S K=>?_⟩,by rw[<- Z];rfl⟩
        ·rcases Ţ.mp Y with l|l
         ·exact U.s r (þ _ (B.nb r l X))
         ·exact U.s r (by rw[l];simp)
        ·by_cases A:q∈T'
         ·obtain⟨y,H,hc⟩:=B.c q A K
          exact⟨y,H,λr Y X=>U.s r (þ _ (hc r Y X))⟩
         ·by_cases v:q=i
          ·subst v
           exact⟨x,Q,λr Y X=>U.nb r Y X⟩
          ·exact U.c q S λz=>(ñ.mp z).elim A λw=>v (Ü.mp w)
   ·cases O
  ·obtain⟨T',x,rfl,F,B,Z⟩:=J
   rw[dM] at B Z;rw[acn (by rw[ŀ];exact adv _)] at Z;simp only[VC];exact⟨false,a,T',rfl,F,λ_=>⟨rfl,B⟩,λz=>(by cases z),Z.symm⟩
def Kp (s s':ae):Prop:=∀j,j<s.length->s'[j]?=s[j]?
def Kp.refl (s:ae):Kp s s:=λ_ _=>rfl
def Kp.len (h:Kp s s'):s.length<=s'.length:=by
 cases hs:s.length with
 |zero=>exact ü _
 |succ m =>
  have:=h m (by omega);rw[Ô (show m<s.length by omega)] at this;exact(Æ.mp this).1
theorem Kp.trans (h:Kp a b) (g:Kp b c):Kp a c:=λj Z=>(g j (Ì Z h.len)).trans (h j Z)
def Kp.app (s c:ae):Kp s (s++c):=λj Z=>ã Z
def Kp.get (h:Kp s s') {k:Nat} (e:s[k]?=some c):s'[k]?=some c:=by rw[h k (Æ.mp e).1];exact e
def La:Wp (vE env s) Q=Q (.ai s.length) (s++[.dK []]):=by unfold vE;rw[aR]
def so (rs:List (List Int)) (i:Nat):bj:=(Ù i).foldl (λa p=>(findF (fM rs) rs.length a 12 [] p).2.1) []
def Io:so rs (i+1)=(findF (fM rs) rs.length (so rs i) 12 [] i).2.1:=by unfold so;rw[abu,List.foldl_append];rfl
structure AE (rs:List (List Int)) (s s1:ae) (i:Nat) (a:bj) (S:List Nat):Prop where
 at_:s1[s.length]?=some (.dK (enc a))
 kp:Kp s s1
 ek:Ek (fM rs) rs.length a
 vn:(vals a).Nodup
 vl:∀u∈vals a,u<i
 cl:Cl (fM rs) rs.length a S
 f:∀u,u<i->u∉vals a->∀r,r<rs.length->fM rs u r=true->r∈S
 ex:a=so rs i
def AE.st (h:AE rs s s1 rs.length a S):St (fM rs) rs.length a S :=
 ⟨⟨h.ek.kn,h.vn,λq p Z=>h.ek.ed q p (Cu h.ek.kn Z)⟩,h.cl,h.f⟩
def JV {rs:List (List Int)} (h:GH rs) (h9:rs.length<=9):Wp (aK.xu [rD rs] s) λd s'=>∃a S,d=.ai s.length/\AE rs s s' rs.length a S:=by
 have hi:=h9;unfold aK.xu;simp only[VC,La];refine ads (eV (s1:=s++[.dK []]) (n:=rs.length) (adt (by simp only[VC,tu,Ě])) (by omega)) ?_;refine Wp.iV (λi env s1=>∃a S x,env=[some (rD rs),some (.ai s.length),x]/\AE rs s s1 i a S) _ ⟨[],[],none,rfl,by simp[enc],Kp.app _ _,⟨ż,λq v hq=>(by cases hq)⟩,ż,λu Y=>absurd Y Ý,λq hq=>absurd hq Ý,λu Y=>by omega,rfl⟩ (λi d env s1 V U=>?_) (λenv s1 U=>?_)
 ·obtain⟨a,S,x,rfl,P⟩:=U
  rw[il] at V;split at V
  ·rename_i K
   cases V;refine⟨_,rfl,?_⟩;rw[Ŕ];simp only[VC,La];have A:=(Æ.mp P.at_).1;refine(Wr h h9 (ha:=s.length) (ht:=s1.length) (by omega) P.ek 12 (T:=[]) ż (λq hq=>absurd hq Ý) K (by rw[Ć];omega) ((Kp.app _ _).get P.at_) (by simp[gQ])).mono λd J V=>?_;obtain⟨b,N,I,rfl,F,H,E,Z⟩:=V;have M:Kp s J:=λj D=>by rw[F.o j (by omega) (by omega),ã (by omega)];exact P.kp j D
   cases b with
   |false =>
    obtain⟨rfl,B⟩:=H rfl;refine⟨N,S++I,_,rfl,F.a,M,P.ek,P.vn,λu Y=>é (P.vl u Y),λq hq=>?_,λu Y R r X W=>?_,by rw[Io,<- P.ex,Z]⟩
    ·rcases ñ.mp hq with hq|hq
     ·obtain⟨y,Q,O⟩:=P.cl q hq
      exact⟨y,Q,λr X W=>þ _ (O r X W)⟩
     ·obtain⟨y,Q,O⟩:=B.c q hq Ý
      exact⟨y,Q,λr X W=>Ê _ (O r X W)⟩
    ·rcases Ţ.mp Y with l|l
     ·exact þ _ (P.f u l R r X W)
     ·subst l;exact Ê _ (B.nb r X W)
   |true =>
    have G:=E rfl;obtain⟨w,C⟩:=G.cl S P.cl;refine⟨N,S,_,rfl,F.a,M,G.ek,?_,λu Y=>?_,λq hq=>?_,λu Y R r X W=>?_,by rw[Io,<- P.ex,Z]⟩
    ·exact G.vp.nodup_iff.mpr (Ħ.mpr ⟨λz=>ú _ (P.vl i z),P.vn⟩)
    ·rcases É.mp (G.vp.mem_iff.mp Y) with e|e
     ·rw[e];exact ĉ _
     ·exact é (P.vl u e)
    ·rw[C q hq];exact P.cl q hq
    ·have L:u∉i::vals a:=λz=>R (G.vp.mem_iff.mpr z)
     rw[É,not_or] at L;exact P.f u (by omega) L.2 r X W
  ·cases V
 ·obtain⟨a,S,x,rfl,P⟩:=U
  rw[dM] at P;simp only[VC];exact⟨a,S,P⟩
def MY (h:s[k]?=some (.lst (ds++[x]))):ar (.ai k) (.int (-1)) s=ok x s:=by
 unfold ar ig res;simp only[h,Jo];rfl
section
variable {E:Nat->Nat->Bool} {n:Nat} {a:bj}
def Ws (O:Or E n) (M:Mt E n a) (hn:n<=9) (bK:hl≠hd):∀p,p<n->∀(fuel:Nat) (acc:List Nat) (s:ae),n<fuel+rank E n p->acc.length<=rank E n p->s[hl]?=some (.lst ((acc++[p]).map λp:Nat=>D.int p))->s[hd]?=some (.dK (enc (rv a))) ->
  Wp (n5 (aY (e2 sE (e2 ar (aa 2) (e1 iq (eC (.int 1)))) (aa 1))) (cB (gr (aa 2) (e2 pT (aa 1) (e2 ar (aa 2) (e1 iq (eC (.int 1))))))) fuel [e0,some (.ai hd),some (.ai hl)] s) λfl s'=>fl=.nx [e0,some (.ai hd),some (.ai hl)]/\s'[hl]?=some (.lst ((acc++row n a p).map λp:Nat=>D.int p))/\∀j,j≠hl->s'[j]?=s[j]?:=by
 refine K9 O M (λp Z Y=>?_) λp q Z U T Y ih=>?_
 all_goals
  intro fuel acc s P N e1 e2;have L:=zd O Z;obtain⟨fuel,rfl⟩:∃f,fuel=f+1:=⟨fuel-1,by omega⟩;have W:=e1;rw[ì] at W;unfold n5;rw[bw];simp only[VC];refine ads (show iq (.int 1) s=ok (.int (-1)) s from rfl) ?_;refine ads (MY W) ?_;simp only[VC,inA e2,Y,Option.isSome_none,ab3,Ã,î,ï]
 ·rw[JT O M Z Y]
  exact⟨e1,λ_ _=>trivial⟩
 ·rw[bw]
  simp only[VC];refine⟨by unfold iU;simp only[e1],?_⟩;refine ads (show iq (.int 1) s=ok (.int (-1)) s from rfl) ?_;refine ads (MY W) ?_;rw[Nz e2 Y];simp only[VC];refine ads (show ia (.ai hl) (.int q) s=ok .ax (s.set hl (.lst (((acc++[p])++[q]).map λp:Nat=>D.int p))) from ?_) ?_
  ·unfold ia
   have S:((acc++[p]).map λp:Nat=>D.int p).length<Ø:=Ņ (show _<=1000000 by rw[Â,Ð,ā];omega) (by decide);simp only[e1,Õ S,ï];rw[ì (l₁:=acc++[p])];rfl
  ·have X:=(Æ.mp e1).1
   have K:=Cw O Z U T;refine(ih fuel (acc++[p]) _ (by omega) (by rw[Ð,ā];omega) (ð X) (by rw[ç bK];exact e2)).mono λfl s' hd=>?_;obtain⟨rfl,R,Q⟩:=hd;refine⟨rfl,?_,λj V=>by rw[Q j V,ç (ŕ V)]⟩;rw[JU O M Z Y,R,Ĩ];rfl
def Wt (O:Or E n) (M:Mt E n a) (hn:n<=9) {p hd:Nat} (hp:p<n) (e2:s[hd]?=some (.dK (enc (rv a)))):Wp (aK.xY [.int p,.ai hd] s) λd s'=>d=pD (row n a p)/\Kp s s':=by
 have W:=(Æ.mp e2).1;unfold aK.xY;simp only[VC];refine⟨by decide,?_⟩;unfold zJ;refine(Ws O M hn (e0:=some (.int p)) (hd:=hd) (hl:=s.length) (by omega) p hp 20 [] (s++[.lst [.int p]]) (by omega) (ü _) (by simp) ((Kp.app _ _).get e2)).mono λV s' h=>?_;obtain⟨rfl,Z,Y⟩:=h;simp only[VC];refine ads (show eU [.ai s.length] s'=ok (pD (row n a p)) s' from ?_) ⟨rfl,λj X=>?_⟩
 ·unfold eU res
  simp only[Z];rfl
 ·rw[Y j (by omega)]
  exact Kp.app _ _ j X
end
def Wu (a:bj):∀acc:bj,(keys acc).Nodup->(enc a).foldl ng (enc acc)=enc (a.foldl (λacc p=>dC acc p.2 p.1) acc):=by
 induction a with
 |nil=>intro acc _;rfl
 |cons p r ih =>
  intro acc h;rw[show enc (p::r)=(ŋ (p.1:Int),D.int p.2)::enc r from rfl,ū,ū];rw[show ng (enc acc) (ŋ (p.1:Int),D.int p.2)=gv (enc acc) (ŋ (p.2:Int)) (.int p.1) from rfl,K8 acc h];exact ih _ (Wq [p] acc (by exact(by
   exact h)))
def Wv (a:bj):((enc a).all λp=>xm p.2)=true:=by
 rw[List.all_map];exact õ.mpr λp _=>rfl
def sJ (rs:List (List Int)):List (List Nat):=(starts rs.length (so rs rs.length)).map (row rs.length (so rs rs.length))
def Ww {rs:List (List Int)} (h:GH rs) (h1:1<=rs.length) (h9:rs.length<=9):Wp (aK.uA [rD rs] s) λd s'=>d=.tup ((sJ rs).map pD)/\Kp s s':=by
 have hi:=h9;have O:=L9 h;unfold aK.uA;simp only[VC,uW h h1 h9];refine(JV h h9).mono λd s1 Z=>?_;obtain⟨a,S,rfl,P⟩:=Z;have T:=P.st;have F:=(Æ.mp P.at_).1;refine ads (show DQ (aa 1) [some (rD rs),some (.ai s.length),none] s1=ok (.ai s1.length) (s1++[Cell.dK (enc (rv a))]) from ?_) ?_
 ·show (match lY (.ai s.length) s1 with
   |some R=>if (R.all λp=>xm p.2)=true then ok (D.ai s1.length) (s1++[Cell.dK (R.foldl ng [])]) else none
   |none=>none)=_
  rw[pM P.at_]
  show (if ((enc a).all λp=>xm p.2)=true then ok (D.ai s1.length) (s1++[Cell.dK ((enc a).foldl ng [])]) else none)=_
  rw[Þ (Wv a),show (enc a).foldl ng []=enc (rv a) from Wu a [] ż]
 ·have e1:(s1++[Cell.dK (enc (rv a))])[s.length]?=some (.dK (enc a)):=(Kp.app _ _).get P.at_
  have e2:(s1++[Cell.dK (enc (rv a))])[s1.length]?=some (.dK (enc (rv a))):=by simp
  have N:Kp s (s1++[Cell.dK (enc (rv a))]):=P.kp.trans (Kp.app _ _);generalize s1++[Cell.dK (enc (rv a))]=V at e1 e2 N;generalize s1.length=L at e2;refine ads (eV (s1:=V) (n:=rs.length) (adt (by simp only[VC,tu,Ě])) (by omega)) ⟨le_size (by rw[dM];omega),?_⟩;refine Wp.mono (Q:=λM s'=>M=((starts rs.length a).map λx=>pD (row rs.length a x))/\Kp V s') ?_ λM s' J=>?_
  ·refine uQ (λi Y s'=>Y=(((Ù i).filter λx=>decide (x∉keys a)).map λx=>pD (row rs.length a x))/\Kp V s') (cu 0 rs.length) ⟨rfl,Kp.refl _⟩ (λi d Y s' Z X=>?_) λY s' X=>?_
   ·obtain⟨rfl,K⟩:=X
    rw[il] at Z;split at Z
    ·rename_i I
     cases Z;refine⟨[some (.int (0+i)),some (.ai L),some (.ai s.length)],rfl,?_⟩;rw[Ŕ];simp only[VC,Ny (K.get e1)];have H:(!(bg a i).isSome)=decide (i∉keys a):=by
      cases U:bg a i with
      |none=>exact(Õ (get_none.mp U)).symm
      |some v=>exact(æ λz=>by rw[get_none.mpr z] at U;cases U).symm
     rw[H,abu,ŷ,ì,ť];by_cases W:decide (i∉keys a)=true
     ·rw[Þ W,Þ W]
      refine(Wt O T.m hi I (K.get e2)).mono λd E Z=>?_;obtain⟨rfl,G⟩:=Z;exact⟨rfl,K.trans G⟩
     ·rw[å W,å W]
      exact⟨by simp,K⟩
    ·cases Z
   ·rw[dM] at X
    exact X
  ·obtain⟨rfl,K⟩:=J
   exact ads rfl ⟨by rw[sJ,<- P.ex,ī];rfl,N.trans K⟩
def D8 (h0:0<=r) (h1:r<ds.length):∃d∈ds,ar (.lst ds) (.int r) s=ok d s:=by
 obtain⟨x,e,e2⟩:=zb h0 h1;exact⟨x,Ĥ e2,by simp only[ar,ig,res,e,bq]⟩
def Om (h0:0<=k) (h1:k<3):∃n:Nat,ar (.lst [.int 2,.int 4,.int 8]) (.int k) s=ok (.int n) s/\2<=n/\n<=8:=by
 obtain⟨d,Z,e⟩:=D8 (ds:=[.int 2,.int 4,.int 8]) (s:=s) h0 h1;simp only[É,Ý,or_false] at Z
 rcases Z with rfl|rfl|rfl
 ·exact⟨2,e,by decide,by decide⟩
 ·exact⟨4,e,by decide,by decide⟩
 ·exact⟨8,e,by decide,by decide⟩
def UJ (h:Sf s k):Wp (dW 1 [some (.ai k)] (gN 0) cy (aw aK.eR (af (aa 1) (af (eC (.int 3)) ah))) (cu 0 n) s) λxs s'=>∃ns:List Int,xs=ns.map D.int/\ns.length=n/\Sf s' k/\Ex k s s':=by
 refine uQ (λi Z s'=>∃ns:List Int,Z=ns.map D.int/\ns.length=i/\Sf s' k/\Ex k s s') (cu 0 n) ⟨[],rfl,rfl,h,Ex.refl _ _⟩ (λi d Z s' Y X=>?_) λZ s' X=>?_
 ·obtain⟨ns,rfl,W,V,U⟩:=X
  rw[il] at Y;split at Y
  ·cases Y
   refine⟨[some (.int (0+i)),some (.ai k)],rfl,?_⟩;simp only[VC];refine ads (show cy _ s'=ok true s' from rfl) ?_;simp only[ï];refine(gj V (by decide) (by decide)).mono λd R Y=>?_;obtain⟨r,rfl,Q,P,T,S⟩:=Y;exact⟨ns++[r],by simp,by rw[Ð,W];rfl,T,U.trans S⟩
  ·cases Y
 ·rw[dM] at X
  exact X
noncomputable def pick (ns:List Int) (c:Int) (n:Nat):List Int:=((Ù n).filter λi=>decide (ns.getD i 0=c)).map λi:Nat=>(i:Int)
def JW (ns:List Int) (c:Int) (n:Nat):bY n (pick ns c n):=by
 refine⟨λx Z=>?_,?_⟩
 ·obtain⟨i,hi,rfl⟩:=ò.mp Z
  have:=ë.mp (ÿ.mp hi).1;omega
 ·unfold pick
  rw[List.pairwise_map];exact(List.pairwise_lt_range.filter _).imp λh=>by omega
def Lb:dW 1 [some (.lst (ns.map D.int))] (gN 0) (aY (DI.e2 bH (DI.e2 ar (aa 1) (aa 0)) (eC (.int c)))) (aa 0) (cu 0 ns.length) s=ok ((pick ns c ns.length).map D.int) s:=by
 rw[uV];have:=comp_map (nt:=1) (caps:=[some (.lst (ns.map D.int))]) (g:=gN 0) (t:=aY (DI.e2 bH (DI.e2 ar (aa 1) (aa 0)) (eC (.int c)))) (f:=aa 0) (s:=s) (λi:Nat=>D.int (0+(i:Int))) (λi=>decide (ns.getD i 0=c)) (λi:Nat=>D.int i) (Ù ns.length) λi hi=>⟨[some (.int (0+(i:Int))),some (.lst (ns.map D.int))],rfl,?_,λ_=>?_⟩
 ·rw[this]
  unfold pick;rw[ī];rfl
 ·have hi:=ë.mp hi
  rw[Ŕ];refine adt ?_;simp only[VC];refine ads (show ar (.lst (ns.map D.int)) (.int i) s=ok (.int (ns.getD i 0)) s from ?_) ?_
  ·unfold ar ig res
   simp only[];rw[B0 (by rw[è,getD_some (d:=0) hi];rfl)];rfl
  ·simp only[VC]
   exact⟨by rw[ň];simp,trivial⟩
 ·rw[Ŕ];rfl
def Wx (h:x∈pick ns 1 n) (g:x∈pick ns 2 n):False:=by
 unfold pick at h g;obtain⟨i,hi,rfl⟩:=ò.mp h;obtain⟨j,Z,e⟩:=ò.mp g;have:i=j:=by omega
 subst this;have Y:=(ÿ.mp hi).2;have X:=(ÿ.mp Z).2;simp only[Í] at Y X;omega
def Lc (h:Sf s k):Wp (aK.uH [.ai k] s) λd s'=>∃a b,d=.tup [mD a,mD b]/\bY 8 a/\bY 8 b/\(∀x∈a,x∉b)/\Sf s' k/\Ex k s s':=by
 unfold aK.uH;refine iP.symm ▸ ⟨rfl,adu λR Y=>?_⟩;simp only[VC];refine⟨by decide,?_⟩;refine(gj h (by decide) (by decide)).mono λd T S=>?_;obtain⟨r,rfl,Q,P,W,O⟩:=S;obtain⟨n,e,K,U⟩:=Om (s:=T) Q P;refine ads e ?_;subst Y;refine adu λR Y=>?_;simp only[VC];refine ads (eV (n:=n) rfl (by omega)) ⟨by rw[dM];exact le_size (by omega),?_⟩;refine(UJ W).mono λJ X N=>?_;obtain⟨Z,rfl,M,V,L⟩:=N;subst Y;subst M;refine adu λR Y=>?_;simp only[VC];refine ads (eV (n:=Z.length) rfl (by omega)) ⟨by rw[dM];exact le_size (by omega),?_⟩;refine ads Lb ?_;refine ads (show eU [.lst ((pick Z 1 Z.length).map D.int)] X=ok (mD (pick Z 1 Z.length)) X from rfl) ?_;subst Y;simp only[VC];refine ads (eV (n:=Z.length) rfl (by omega)) ⟨by rw[dM];exact le_size (by omega),?_⟩;refine ads Lb ?_;refine ads (show eU [.lst ((pick Z 2 Z.length).map D.int)] X=ok (mD (pick Z 2 Z.length)) X from rfl) ?_;exact⟨by decide,_,_,rfl,(JW Z 1 _).Gj U,(JW Z 2 _).Gj U,λx W V=>Wx W V,V,O.trans L⟩
def Yq (h:Sf s k) (h0:0<n) (h1:n<=31):Wp (aK.yF [.ai k,.int n] s) λd s'=>∃p,d=p.d/\dg p=true/\Sf s' k/\Ex k s s':=by
 unfold aK.yF;refine iP.symm ▸ ⟨rfl,adu λR X=>?_⟩;simp only[Î,Ğ,Ï,Nat.reduceSub,ď,ē,uT,bZ,cw,dF,pH,fG,wp_call,bL,bP];refine(gj h (by decide) (by decide)).mono λd A Z=>?_;obtain⟨m,rfl,m0,K,g1,T⟩:=Z;refine⟨le_size (n:=2) (by decide),?_⟩;refine(gj g1 (by decide) (by decide)).mono λd J Z=>?_;obtain⟨r,rfl,I,H,g2,S⟩:=Z;obtain⟨d,Z,e⟩:=D8 (ds:=[.int 0,.int m]) (s:=J) I H;refine ads e ?_;have W:∃Y:Int,d=.int Y/\0<=Y/\Y < 4:=by
  simp only[É,Ý,or_false] at Z
  rcases Z with rfl|rfl
  ·exact⟨0,rfl,by decide,by decide⟩
  ·exact⟨m,rfl,m0,K⟩
 obtain⟨Y,rfl,W⟩:=W;refine(gj g2 h0 (by omega)).mono λd x Z=>?_;obtain⟨y,rfl,Q,y1,g3,P⟩:=Z;refine⟨_,_,rfl,?_⟩;simp only[ø,ô,cz];subst X;refine adu λR X=>?_;simp only[VC];refine(gj g3 (by decide) (by decide)).mono λd w Z=>?_;obtain⟨z,rfl,O,N,M,L⟩:=Z;simp only[VC];split
 ·refine⟨by decide,?_⟩
  refine(gj M (by decide) (by decide)).mono λd s5 Z=>?_;obtain⟨z,rfl,O,N,V,U⟩:=Z;obtain⟨n,e,v,u⟩:=Om (s:=s5) O N;refine ads e ?_;refine(gj V (by omega) (by omega)).mono λd t Z=>?_;obtain⟨c,rfl,G,q,F,E⟩:=Z;refine⟨by decide,?_⟩;subst X;exact⟨.cC Y y c,rfl,SF W ⟨Q,by omega⟩ ⟨G,by omega⟩,F,((((T.trans S).trans P).trans L).trans U).trans E⟩
 ·subst X
  simp only[VC];refine(Lc M).mono λd s5 Z=>?_;obtain⟨a,b,rfl,D,C,B,V,U⟩:=Z;exact⟨by decide,.made Y y a b,rfl,SG W ⟨Q,by omega⟩ D C (by decide) B,V,(((T.trans S).trans P).trans L).trans U⟩
open DI.aK
abbrev lD (ps:List Pg):D:=.lst (ps.map Pg.d)
def Kq (s s':ae):Prop:=s.length<=s'.length/\∀j,j<s.length->s'[j]?=s[j]?
def Kq.refl (s:ae):Kq s s:=⟨adv _,λ_ _=>rfl⟩
theorem Kq.trans (h:Kq a b) (g:Kq b c):Kq a c:=⟨Ú h.1 g.1,λj Z=>(g.2 j (Ì Z h.1)).trans (h.2 j Z)⟩
def Kq.app (s c:ae):Kq s (s++c):=⟨by simp,λj Z=>ã Z⟩
def Kq.get (h:Kq s s') {k:Nat} (e:s[k]?=some c):s'[k]?=some c:=by rw[h.2 k (Æ.mp e).1];exact e
def Kq.sf {k:Nat} (h:Kq s s') (g:Sf s k):Sf s' k:=by
 obtain⟨a,b,e,r⟩:=g;exact⟨a,b,h.get e,r⟩
theorem Kq.set (h:Kq s s') (hj:s.length<=j) (c:Cell):Kq s (s'.set j c):=⟨by rw[ġ];exact h.1,λi hi=>by rw[ç (by omega)];exact h.2 i hi⟩
def Dg {x:Int} {ns:List Int} (h:mS d s=some (ns.map D.int)):di (.int x) d s=ok (.bl (decide (x∈ns))) s/\gX (.int x) d s=ok (.bl (!decide (x∈ns))) s:=by
 have Z:mR 100 (.int x) (ns.map D.int)=true:=by simp only[mR,lay,oY,dep,đ,ü,į]
 have e:inD (.int x) (ns.map D.int)=some (decide (x∈ns)):=by unfold inD;rw[Þ Z,Cp]
 unfold di gX;rw[h];simp only[e];exact⟨rfl,rfl⟩
def Ld (h:s[j]?=some (.lst ds)):mS (.ai j) s=some ds:=by unfold mS res;simp only[h]
def uX (h:s[j]?=some (.lst ds)) (hl:ds.length<=1000):iU (.ai j) s=true/\ia (.ai j) x s=ok .ax (s.set j (.lst (ds++[x]))):=by
 refine⟨by simp only[iU,h],?_⟩;unfold ia;simp only[h,Õ (Ņ hl (show 1000<Ø by decide)),ï]
section
variable {s:ae} {ps:List Pg} {p:Pg} {m k:Int} {Q:Fl->ae->Prop} {e0 e1 e2 e3 e4 e5 e6 e7 e8:Option D}
def JX {x:Int} {b:Bool}:fO (.lst [.int x]) (.int (if b then 1 else 0)) s=ok (.lst ((if b=true then [x] else []).map D.int)) s:=by
 cases b<;>rfl
def Ma {a b:List Int} (h:a.length+b.length<=1000000):bX (.lst (a.map D.int)) (.lst (b.map D.int)) s=ok (.lst ((a++b).map D.int)) s:=by
 rw[wc (by simpa only [Â] using h),ì]
def one_le (x:Int) (b:Bool):(if b=true then [x] else []).length<=1:=by cases b<;>simp
def oR (m k:Int) (p:Pg):List Int:=if mi m k p=true then [p.day] else []
def oS (m k:Int) (p:Pg):List Int:=if mj m k p=true then [p.day] else []
def kW (m k:Int) (p:Pg):List Int:=if nG m k p=true then [p.day] else []
def SU:shown (ps++[p]) m k=shown ps m k++oR m k p:=by
 unfold shown oR;rw[ŷ,ì];congr 1
 cases h:mi m k p<;>simp[List.filter,h]
def Rp:cQ (ps++[p]) m k=cQ ps m k++oS m k p:=by
 unfold cQ oS;rw[ŷ,ì];congr 1
 cases h:mj m k p<;>simp[List.filter,h]
def Rq:cc (ps++[p]) m k=cc ps m k++kW m k p:=by
 unfold cc kW;rw[ŷ,ì];congr 1
 cases h:nG m k p<;>simp[List.filter,h]
def Yr {a b c:List Int} {j:Nat} (hj:s[j]?=some (.lst (c.map D.int))) (la:a.length<=900) (lb:b.length<=900) (lc:c.length<=900)
  (hQ:∀s',s'[j]?=some (.lst ((c++kW m k p).map D.int))->(s'=s\/∃x,s'=s.set j x)->Q (.nx [e0,some (.int m),some (.int k),some (.lst ((a++oR m k p).map D.int)),some (.lst ((b++oS m k p).map D.int)),some (.ai j),some p.d,e7,e8]) s') :
  Wp (AM [e0,some (.int m),some (.int k),some (.lst (a.map D.int)),some (.lst (b.map D.int)),some (.ai j),some p.d,e7,e8] s) Q:=by
 unfold AM
 cases p with
 |cC Y Z V =>
  have P:oR m k (.cC Y Z V)=[]:=rfl;have O:oS m k (.cC Y Z V)=[]:=rfl;rw[P,O,Ē,Ē] at hQ;refine adu λR N=>?_;simp only[VC,Pg.d];refine ads (show ar (.tup [.str "mended",.int Y,.int Z,.int V]) (.int 0) s=ok (.str "mended") s from rfl) ?_;refine ads (show bH (.str "mended") (.str "mended") s=ok (.bl true) s from rfl) ?_;simp only[VC,ï];refine ads (show ar (.tup [.str "mended",.int Y,.int Z,.int V]) (.int 1) s=ok (.int Y) s from rfl) ?_;have rest:∀s',s'[j]?=some (.lst ((c++kW m k (.cC Y Z V)).map D.int))->(s'=s\/∃x,s'=s.set j x)->nE R Q (.nx [e0,some (.int m),some (.int k),some (.lst (a.map D.int)),some (.lst (b.map D.int)),some (.ai j),some (.tup [.str "mended",.int Y,.int Z,.int V]),e7,e8]) s':=λs' e x=>by
   rw[cz];subst N;simp only[VC];refine ads (show ar (.tup [.str "mended",.int Y,.int Z,.int V]) (.int 0) s'=ok (.str "mended") s' from rfl) ?_;refine ads (show bH (.str "mended") (.str "made") s'=ok (.bl false) s' from rfl) ?_;simp only[VC,Ã,î];exact hQ s' e x
  simp only[VC];split
  ·rename_i U
   refine ads (show ar (.tup [.str "mended",.int Y,.int Z,.int V]) (.int 3) s=ok (.int V) s from rfl) ?_;simp only[VC];split
   ·rename_i T
    have S:kW m k (.cC Y Z V)=[Z]:=by
     unfold kW nG;rw[Þ (by simp at U T;simp[U,T])];rfl
    rw[S] at rest;obtain⟨U,T⟩:=uX (x:=.int Z) hj (by rw[Â];omega);refine⟨U,?_⟩;refine ads (show ar (.tup [.str "mended",.int Y,.int Z,.int V]) (.int 2) s=ok (.int Z) s from rfl) ?_;refine ads T (rest _ ?_ (.inr ⟨_,rfl⟩));rw[ð (Æ.mp hj).1];simp
   ·rename_i T
    have S:kW m k (.cC Y Z V)=[]:=by
     unfold kW nG;rw[å (by simp at U T;simp[U,T])]
    rw[S,Ē] at rest;exact rest s hj (.inl rfl)
  ·rename_i U
   have S:kW m k (.cC Y Z V)=[]:=by
    unfold kW nG;rw[å (by simp at U;simp[U])]
   rw[S,Ē] at rest;simp only[Ã,î];exact rest s hj (.inl rfl)
 |made Y Z X W =>
  have S:kW m k (.made Y Z X W)=[]:=rfl;rw[S,Ē] at hQ;refine adu λR N=>?_;simp only[VC,Pg.d];refine ads (show ar (.tup [.str "made",.int Y,.int Z,.tup [ti X,ti W]]) (.int 0) s=ok (.str "made") s from rfl) ?_;refine ads (show bH (.str "made") (.str "mended") s=ok (.bl false) s from rfl) ?_;simp only[VC,Ã,î];subst N;simp only[VC];refine ads (show ar (.tup [.str "made",.int Y,.int Z,.tup [ti X,ti W]]) (.int 0) s=ok (.str "made") s from rfl) ?_;refine ads (show bH (.str "made") (.str "made") s=ok (.bl true) s from rfl) ?_;simp only[VC,ï];refine ads (show ar (.tup [.str "made",.int Y,.int Z,.tup [ti X,ti W]]) (.int 1) s=ok (.int Y) s from rfl) ?_;simp only[VC];split
  ·rename_i U
   have e1:(Y==m)=true:=U
   have P:oR m k (.made Y Z X W)=if decide (k∈X)=true then [Z] else []:=by
    unfold oR mi;simp only[beq_iff_eq] at e1;simp only[e1,į,ĕ];rfl
   have O:oS m k (.made Y Z X W)=if decide (k∈W)=true then [Z] else []:=by
    unfold oS mj;simp only[beq_iff_eq] at e1;simp only[e1,į,ĕ];rfl
   rw[P,O] at hQ;refine ads (show ar (.tup [.str "made",.int Y,.int Z,.tup [ti X,ti W]]) (.int 2) s=ok (.int Z) s from rfl) ?_;refine⟨by decide,?_⟩;refine ads (show ar (.tup [.str "made",.int Y,.int Z,.tup [ti X,ti W]]) (.int 3) s=ok (.tup [ti X,ti W]) s from rfl) ?_;refine ads (show ar (.tup [ti X,ti W]) (.int 0) s=ok (ti X) s from rfl) ?_;refine ads (pw (ns:=X)) ?_
   refine ads (show sX [.bl (decide (k∈X))] s=ok (.int (if decide (k∈X) then 1 else 0)) s from rfl) ?_
   refine ads JX ?_;have M:=one_le Z (decide (k∈X));have L:=one_le Z (decide (k∈W));refine ads (Ma (by omega)) ?_;refine ads (show ar (.tup [.str "made",.int Y,.int Z,.tup [ti X,ti W]]) (.int 2) s=ok (.int Z) s from rfl) ?_;refine⟨by decide,?_⟩;refine ads (show ar (.tup [.str "made",.int Y,.int Z,.tup [ti X,ti W]]) (.int 3) s=ok (.tup [ti X,ti W]) s from rfl) ?_;refine ads (show ar (.tup [ti X,ti W]) (.int 1) s=ok (ti W) s from rfl) ?_;refine ads (pw (ns:=W)) ?_
   refine ads (show sX [.bl (decide (k∈W))] s=ok (.int (if decide (k∈W) then 1 else 0)) s from rfl) ?_
   refine ads JX ?_;refine ads (Ma (by omega)) ?_;exact hQ s hj (.inl rfl)
  ·rename_i U
   have e1:¬ Y=m:=by simpa using U
   have P:oR m k (.made Y Z X W)=[]:=by unfold oR mi;simp[e1]
   have O:oS m k (.made Y Z X W)=[]:=by unfold oS mj;simp[e1]
   rw[P,O,Ē,Ē] at hQ;exact hQ s hj (.inl rfl)
def oT (sh la me:Nat->Bool) (d:Nat):Bool:=!(me d&&sh d)&&!(pr sh me d&&la d)
def jR (ps:List Pg) (m k:Int):Bool:=(Ù 31).all (oT (sN ps m k) (lN ps m k) (mN ps m k))
def Ys {a b c:List Int} {j y:Nat} {t:Bool} (hj:s[j]?=some (.lst (c.map D.int)))
  (hR:(decide ((y:Int)∈c)&&decide ((y:Int)∈a))=true\/((decide ((y:Int)∈a)||(t&&!decide ((y:Int)∈c)))&&decide ((y:Int)∈b))=true->Q (.rt (.bl false)) s)
  (hQ:(decide ((y:Int)∈c)&&decide ((y:Int)∈a))=false->((decide ((y:Int)∈a)||(t&&!decide ((y:Int)∈c)))&&decide ((y:Int)∈b))=false->Q (.nx [e0,e1,e2,some (.lst (a.map D.int)),some (.lst (b.map D.int)),some (.ai j),e6,some (.bl (decide ((y:Int)∈a)||(t&&!decide ((y:Int)∈c)))),some (.int y)]) s) :
  Wp (AN [e0,e1,e2,some (.lst (a.map D.int)),some (.lst (b.map D.int)),some (.ai j),e6,some (.bl t),some (.int y)] s) Q:=by
 have W:=Dg (x:=y) (Ld hj);have V:=Dg (x:=y) (d:=.lst (a.map D.int)) (s:=s) (ns:=a) rfl;have S:=Dg (x:=y) (d:=.lst (b.map D.int)) (s:=s) (ns:=b) rfl;generalize P:decide ((y:Int)∈a)=Z at *;generalize O:decide ((y:Int)∈b)=N at *;generalize M:decide ((y:Int)∈c)=Y at *;unfold AN;refine adu λR X=>?_;simp only[mJ,uR,bL,bP,mI,dF,W.1,V.1,aR,jO]
 have next:(Y&&Z)=false->nE R Q (.nx [e0,e1,e2,some (.lst (a.map D.int)),some (.lst (b.map D.int)),some (.ai j),e6,some (.bl t),some (.int y)]) s:=λU=>by
  rw[cz];subst X;have e:(l9 (DI.e2 di (aa 8) (aa 3)) (cH (aa 7) (DI.e2 gX (aa 8) (aa 5)))) [e0,e1,e2,some (.lst (a.map D.int)),some (.lst (b.map D.int)),some (.ai j),e6,some (.bl t),some (.int y)] s=ok (.bl (Z||(t&&!Y))) s:=by
   refine adt ?_;simp only[LZ,Co,dF,bL,bP,V.1,W.2,aR,jO]
   cases Z<;>cases t<;>simp
  refine adu λR X=>?_;rw[iI];refine ads e ?_;rw[iu];simp only[ø,ô];rw[cz];subst X;simp only[mJ,uR,si,bL,bP,pq,mI,dF,S.1,aR,jO]
  cases T:(Z||(t&&!Y)) with
  |false =>
   rw[T] at hQ;simp only[Ã,î,kj];exact hQ U rfl
  |true =>
   rw[T] at hQ hR;simp only[ï]
   cases N with
   |true=>simp only[ï,iH,fG];exact hR (.inr rfl)
   |false=>simp only[Ã,î,kj];exact hQ U rfl
 cases Y with
 |true =>
  simp only[ï]
  cases Z with
  |true=>simp only[ï,iH,fG,yW];exact hR (.inl rfl)
  |false=>simp only[Ã,î,kj];exact next rfl
 |false =>
  simp only[Ã,î,kj]
  exact next rfl
def AF (sh me:Nat->Bool):Nat->Bool
 |0=>false
 |d+1=>pr sh me d
def UK (sh me:Nat->Bool) (d:Nat):(sh d||(AF sh me d&&!me d))=pr sh me d:=by
 cases d with
 |zero=>simp[AF,pr]
 |succ d=>rfl
def SV (hl:ps.length<=100):Wp (xw [lD ps,.int m,.int k] s) λd s'=>d=.bl (jR ps m k)/\Kq s s':=by
 unfold xw;refine iP.symm ▸ ⟨rfl,adu λR Y=>?_⟩;refine ads (show sV 3 4 5 (af (eY ah) (af (eY ah) (af (eNew ah) ah))) _ s=ok (.nx [some (lD ps),some (.int m),some (.int k),some (.lst []),some (.lst []),some (.ai s.length),none,none,none]) (s++[.lst []]) from rfl) ?_;rw[cz];subst Y;refine adu λR Y=>?_;rw[mC];refine ads (lg rfl) ?_;have N:=Kq.app s [.lst []];have M:(s++[Cell.lst []])[s.length]?=some (.lst (([]:List Int).map D.int)):=by simp
 generalize s++[Cell.lst []]=S at N M;have len:∀{U:List Pg} {f:Pg->Bool},U.length<=100->((U.filter f).map Pg.day).length<=900:=λ{U f} h=>by
  rw[Â];exact Ú (Ĭ _ _) (by omega)
 refine Wp.iV (λi env s'=>∃e6:Option D,env=[some (lD ps),some (.int m),some (.int k),some (.lst ((shown (ps.take i) m k).map D.int)),some (.lst ((cQ (ps.take i) m k).map D.int)),some (.ai s.length),e6,none,none]/\s'[s.length]?=some (.lst ((cc (ps.take i) m k).map D.int))/\Kq s s') _ ⟨_,rfl,M,N⟩ (λi d env s' Z X=>?_) (λenv s' X=>?_)
 ·obtain⟨e6,rfl,W,kp⟩:=X
  rw[è] at Z;obtain⟨p,L,rfl⟩:=Ů.mp Z;have hi:=(Æ.mp L).1;have J:ps.take (i+1)=ps.take i++[p]:=by rw[List.take_add_one,L];rfl
  have T:(ps.take i).length<=100:=by rw[abL];omega
  refine⟨_,rfl,?_⟩;refine Yr W (len T) (len T) (len T) λV I H=>?_;rw[J,SU,Rp,Rq];refine⟨_,rfl,I,?_⟩
  rcases H with rfl | ⟨x,rfl⟩
  ·exact kp
  ·exact kp.set (adv _) _
 obtain⟨e6,rfl,W,kp⟩:=X;rw[Â,List.take_length] at W |-;subst Y;refine adu λR Y=>?_;simp only[iI,iu,fG,ø,ô,cz];subst Y;refine adu λR Y=>?_;rw[mC];refine ads (eV (n:=31) rfl (by decide)) ?_;refine Wp.iV (λi env V=>V=s'/\(∀d<i,oT (sN ps m k) (lN ps m k) (mN ps m k) d=true)/\∃e8,env=[some (lD ps),some (.int m),some (.int k),some (.lst ((shown ps m k).map D.int)),some (.lst ((cQ ps m k).map D.int)),some (.ai s.length),e6,some (.bl (AF (sN ps m k) (mN ps m k) i)),e8]) _ ⟨rfl,λd h=>absurd h (ac5 _),_,rfl⟩ (λi d env V Z X=>?_) (λenv V X=>?_)
 ·obtain⟨rfl,Q,e8,rfl⟩:=X
  rw[il] at Z;split at Z
  ·rename_i hi
   cases Z;rw[Ŕ];refine⟨_,rfl,?_⟩;have K:(decide ((i:Int)∈shown ps m k)||(AF (sN ps m k) (mN ps m k) i&&!decide ((i:Int)∈cc ps m k)))=pr (sN ps m k) (mN ps m k) i:=UK (sN ps m k) (mN ps m k) i;refine Ys W ?_ ?_
   ·rw[K]
    intro G;subst Y;refine⟨?_,kp⟩;congr 1;symm;unfold jR;rw[List.all_eq_false];refine⟨i,ë.mpr hi,?_⟩
    rcases G with h|h
    ·have P:(mN ps m k i&&sN ps m k i)=true:=h
     unfold oT;rw[P];simp
    ·have P:(pr (sN ps m k) (mN ps m k) i&&lN ps m k i)=true:=h
     unfold oT;rw[P];simp
   ·rw[K]
    intro F E;refine⟨rfl,λd Z=>?_,_,rfl⟩;by_cases e:d=i
    ·subst e
     have O:(mN ps m k d&&sN ps m k d)=false:=F;have C:(pr (sN ps m k) (mN ps m k) d&&lN ps m k d)=false:=E;unfold oT;rw[O,C];rfl
    ·exact Q d (by omega)
  ·cases Z
 ·obtain⟨rfl,Q,e8,rfl⟩:=X
  subst Y;simp only[VC];refine⟨?_,kp⟩;congr 1;symm;exact õ.mpr λd Z=>Q d (by rw[dM];exact ë.mp Z)
def Bl:jR ps m k=true↔yJ (sN ps m k) (lN ps m k) (mN ps m k):=by
 unfold jR;rw[õ];constructor
 ·intro h d e hs Q P Z
  have st:∀x,x<=30->oT (sN ps m k) (lN ps m k) (mN ps m k) x=true:=λx U=>h x (ë.mpr (by omega));have Y:=st e P;unfold oT at Y;simp only[È,ĵ,Bool.and_eq_false_iff] at Y
  rcases Z with Z | ⟨rfl,Z⟩
  ·apply Classical.byContradiction
   intro O;have:pr (sN ps m k) (mN ps m k) e=true:=Dc.mpr ⟨d,Q,hs,λx W V=>by
    cases U:mN ps m k x with
    |false=>rfl
    |true=>exact(O ⟨x,W,V,U⟩).elim⟩
   rcases Y.2 with z|z
   ·rw[this] at z;cases z
   ·rw[Z] at z;cases z
  ·rcases Y.1 with z|z
   ·rw[Z] at z;cases z
   ·rw[hs] at z;cases z
 ·intro N d X
  have X:d<=30:=by have:=ë.mp X;omega
  unfold oT;simp only[È,ĵ,Bool.and_eq_false_iff];constructor
  ·cases M:mN ps m k d with
   |false=>exact .inl rfl
   |true =>
    right
    cases hs:sN ps m k d with
    |false=>rfl
    |true =>
     obtain⟨x,T,S,_⟩:=N d d hs (adv _) X (.inr ⟨rfl,M⟩);omega
  ·cases L:pr (sN ps m k) (mN ps m k) d with
   |false=>exact .inl rfl
   |true =>
    right
    cases K:lN ps m k d with
    |false=>rfl
    |true =>
     obtain⟨e,W,V,J⟩:=Dc.mp L;obtain⟨x,T,S,R⟩:=N e d V W X (.inl K);rw[J x T S] at R;cases R
end
def Qr (hd:qh ps) (h:∀m∈m4,∀k∈k8,yJ (sN ps m k) (lN ps m k) (mN ps m k)):mL ps=[]:=by
 unfold mL;rw[ace];intro m W;rw[ace];intro k V;rw[List.map_eq_nil_iff];unfold lF;rw[ace];intro d U;rw[List.map_eq_nil_iff,List.filter_eq_nil_iff];intro e T Z;have hs:d∈shown ps m k:=mw.mp U;obtain⟨i,hi,rfl⟩:=ò.mp T;rw[ë] at hi;have R:=hd.of hs;unfold oQ at Z;simp only[È,ab5,Í,ĵ] at Z;have e1:((d.toNat:Nat):Int)=d:=by omega
 have e2:(((d+(i:Int)).toNat:Nat):Int)=d+(i:Int):=by omega
 obtain⟨x,Q,P,X⟩:=h m W k V d.toNat (d+(i:Int)).toNat (by simp only[sN,e1,Í];exact hs) (by omega) (by omega) (by
  rcases Z.1 with z | ⟨O,S⟩
  ·exact .inl (by simp only[lN,e2,Í];exact z)
  ·exact .inr ⟨by omega,by simp only[mN,e1,Í];exact S⟩)
 have Y:=Z.2;unfold zV at Y;rw[abx] at Y;simp only[mN,Í] at X;refine Y _ X ?_;simp only[È,Í];omega
section
variable {s s':ae} {ps qs:List Pg} {p q:Pg} {a b:Nat} {bs:List (List Pg)} {env aA:Env} {st cJ:adq Fl} {d x:D} {y:aQ}
def iF (ps:List Pg):Bool:=decide (ps.length<=24)&&m4.all λm=>k8.all λk=>jR ps m k
def Yt (hl:ps.length<=100):Wp (aK.xZ [lD ps] s) λd s'=>d=.bl (iF ps)/\Kq s s':=by
 unfold aK.xZ;refine iP.symm ▸ ⟨rfl,adu λR V=>?_⟩;simp only[VC];refine ads (show bN [lD ps] s=ok (.int ps.length) s from by show ok (D.int ((ps.map Pg.d).length:Nat)) s=_;rw[Â]) ?_;simp only[VC];by_cases S:(24:Int)<ps.length
 ·rw[Õ S,Þ rfl]
  refine⟨?_,Kq.refl s⟩;unfold iF;rw[æ (by omega)];rfl
 ·rw[æ S,å Ö]
  have N:iF ps=m4.all λm=>k8.all λk=>jR ps m k:=by unfold iF;rw[Õ (by omega)];rfl
  rw[N];subst V;refine adu λR V=>?_;rw[mC];refine ads (eV (n:=4) rfl (by decide)) ?_;refine Wp.iV (λi env s'=>Kq s s'/\(∀m:Nat,m<i->∀k∈k8,jR ps m k=true)/\∃e1 e2,env=[some (lD ps),e1,e2]) _ ⟨Kq.refl s,λm h=>absurd h (ac5 _),_,_,rfl⟩ (λi d env s' Z Y=>?_) (λenv s' Y=>?_)
  ·obtain⟨kp,U,e1,e2,rfl⟩:=Y
   rw[il] at Z;split at Z
   ·rename_i hi
    cases Z;refine⟨_,rfl,?_⟩;rw[Ŕ];unfold HR;rw[mC];refine ads (eV (n:=8) rfl (by decide)) ?_;refine Wp.iV (λX env s'=>Kq s s'/\(∀k:Nat,k<X->jR ps i k=true)/\∃e2,env=[some (lD ps),some (.int (i:Int)),e2]) _ ⟨kp,λk h=>absurd h (ac5 _),_,rfl⟩ (λX d env M Z Y=>?_) (λenv M Y=>?_)
    ·obtain⟨kp,T,e2,rfl⟩:=Y
     rw[il] at Z;split at Z
     ·rename_i K
      cases Z;refine⟨_,rfl,?_⟩;rw[Ŕ];unfold HQ;simp only[VC];refine(SV hl).mono λd J Z=>?_;obtain⟨rfl,Q⟩:=Z;simp only[VC]
      cases P:jR ps i X with
      |false =>
       simp only[adf,ï,iH,fG];subst V;refine⟨?_,kp.trans Q⟩;congr 1;symm;rw[List.all_eq_false];refine⟨(i:Int),zc.mpr (by omega),?_⟩;rw[aba,List.all_eq_false];exact⟨(X:Int),sk.mpr (by omega),by rw[P];decide⟩
      |true =>
       simp only[Č,Ã,î,kj];refine⟨kp.trans Q,λk W=>?_,_,rfl⟩;by_cases e:k=X
       ·subst e;exact P
       ·exact T k (by omega)
     ·cases Z
    ·obtain⟨kp,T,e2,rfl⟩:=Y
     refine⟨kp,λm O k W=>?_,_,_,rfl⟩;by_cases e:m=i
     ·subst e
      have I:=sk.mp W;have:=T k.toNat (by rw[dM];omega);rw[show ((k.toNat:Nat):Int)=k by omega] at this;exact this
     ·exact U m (by omega) k W
   ·cases Z
  ·obtain⟨kp,U,e1,e2,rfl⟩:=Y
   subst V;simp only[VC];refine⟨?_,kp⟩;congr 1;symm;refine õ.mpr λm O=>õ.mpr λk W=>?_;have L:=zc.mp O;have:=U m.toNat (by rw[dM];omega) k W;rw[show ((m.toNat:Nat):Int)=m by omega] at this;exact this
def Lf (h:Laid ps):iF ps=ef ps:=by
 by_cases Z:ps.length<=24
 ·have W:=h.jo Z
  rw[ň];unfold iF;rw[Õ Z,ĕ];constructor
  ·intro hs
   have e:=Qr (Jb W) λm Y k X=>Bl.mp (õ.mp (õ.mp hs m Y) k X);unfold ef;rw[W,e];rfl
  ·intro V
   exact õ.mpr λm Y=>õ.mpr λk X=>Bl.mpr (V5 V (zc.mp Y) (sk.mp X))
 ·have U:iF ps=false:=by unfold iF;rw[æ Z];rfl
  have T:ef ps=false:=by unfold ef jo;rw[æ Z];rfl
  rw[U,T]
def eqB (p q:Pg):Bool:=beq p.d q.d
def BK:eqB p p=true:=by
 unfold eqB
 cases p<;>simp[Pg.d,ti,beq,eD,yh]
def eqB_iff:eqB p q=true↔p=q:=by
 have Z:(Ā "made"==Ā "mended")=false:=by decide +kernel
 have Y:(Ā "mended"==Ā "made")=false:=by decide +kernel
 constructor
 ·unfold eqB
  cases p<;>cases q<;>intro h
  ·simp[Pg.d,ti,beq,eD,yh] at h
   obtain⟨rfl,rfl,rfl,rfl⟩:=h;rfl
  ·simp[Pg.d,ti,beq,eD,Z] at h
  ·simp[Pg.d,ti,beq,eD,Y] at h
  ·simp[Pg.d,ti,beq,eD] at h
   obtain⟨rfl,rfl,rfl⟩:=h;rfl
 ·intro h
  rw[h];exact BK
def Mb (p:Pg):lay p.d=true:=by
 have Z:acI "made"=true:=by decide +kernel
 have Y:acI "mended"=true:=by decide +kernel
 cases p with
 |made m d a b=>simp only[Pg.d,lay,DI.cU,ti,oY,Z,đ]
 |cC m d k=>simp only[Pg.d,lay,DI.cU,Y,đ]
def BL (ps:List Pg):DI.cU (ps.map Pg.d)=true:=by
 induction ps with
 |nil=>rfl
 |cons p r ih=>simp only[Î,DI.cU,Mb,ih,đ]
def xo (p:Pg) (ps:List Pg):Bool:=ps.any λq=>eqB q p
def Wy:xo p ps=true↔p∈ps:=by
 unfold xo;rw[ų];exact⟨λ⟨q,Z,Y⟩=>eqB_iff.mp Y ▸ Z,λh=>⟨p,h,BK⟩⟩
theorem Jf:∀ps:List Pg,eD (ps.map Pg.d) (ps.map Pg.d)=true
 | []=>rfl
 |p::ps=>by
  have:=BK (p:=p);unfold eqB at this;simp only[Î,eD,this,Jf ps,đ]
theorem JY:∀ps:List Pg,c8 (ps.map Pg.d)<=10
 | []=>ü _
 |p::ps=>by
  have Z:=yS p;have Y:=JY ps;simp only[Î,c8];omega
def Wz:dB (bD ps) (bD ps) s=ok (.bl false) s:=by
 unfold dB gk;have Z:=JY ps;have Y:dep (bD ps)<=100:=by show c8 (ps.map Pg.d)+1<=100;omega
 rw[show res (bD ps) s=bD ps from rfl,å (by rw[show i7 (bD ps)=false from rfl];exact Ö),Þ (by
  rw[show lay (bD ps)=true from BL ps,Õ (show min (dep (bD ps)) (dep (bD ps))<=100 by omega)];rfl)]
 rw[show beq (bD ps) (bD ps)=true from Jf ps];rfl
def WA:dB (bD ps) (.tup []) s=ok (.bl (!ps.isEmpty)) s:=by
 unfold dB gk;rw[show res (bD ps) s=bD ps from rfl,show res (.tup []) s=.tup [] from rfl,å (by rw[show i7 (bD ps)=false from rfl];exact Ö),Þ (by
  rw[show lay (bD ps)=true from BL ps];have:min (dep (bD ps)) (dep (.tup []))<=100:=by have:dep (.tup [])=1:=rfl;omega
  rw[Õ this];rfl)]
 cases ps<;>rfl
end
section
variable {s s':ae} {ps qs:List Pg} {p q:Pg} {m k:Int}
def Rr (h:ps.Perm qs):jR ps m k=jR qs m k:=by
 have e1:sN ps m k=sN qs m k:=by
  funext d;unfold sN shown;congr 1;exact propext ((h.filter _).map _).mem_iff
 have e2:lN ps m k=lN qs m k:=by
  funext d;unfold lN cQ;congr 1;exact propext ((h.filter _).map _).mem_iff
 have Z:mN ps m k=mN qs m k:=by
  funext d;unfold mN cc;congr 1;exact propext ((h.filter _).map _).mem_iff
 unfold jR;rw[e1,e2,Z]
def WB (h:ps.Perm qs):iF ps=iF qs:=by
 unfold iF;rw[h.length_eq];simp only[Rr h]
def Ip (hp:∀p∈ps,dg p=true) (hn:ps.Nodup):Laid (ST.fB cP ps):=⟨λq Z=>hp q ((ST.rn _).mem_iff.mp Z),Uz hn⟩
def Rt (hp:∀p∈ps,dg p=true) (hn:ps.Nodup) (hb:iF ps=true):ef (ST.fB cP ps)=true:=by
 rw[<- Lf (Ip hp hn),WB (ST.rn ps)];exact hb
def Ru (h:s[j]?=some (.lst (ps.map Pg.d))):gX p.d (.ai j) s=ok (.bl (!xo p ps)) s:=by
 have e:inD p.d (ps.map Pg.d)=some (xo p ps):=by
  unfold inD;have Z:=yS p;rw[Þ (by unfold mR;rw[BL,Mb,Õ (show dep p.d<=100 by omega)];rfl),ac9];rfl
 unfold gX;rw[Ld h];simp only[e];rfl
def Yu {k:Nat} {n:Int} (h:Sf s k) (h0:0<=n) (h1:n<=30):Wp (aK.yG [.ai k,.int n] s) λd s'=>∃ps:List Pg,d=bD ps/\ef ps=true/\Laid ps/\Sf s' k/\Ex k s s':=by
 have c:=h.lt;unfold aK.yG;refine iP.symm ▸ ⟨rfl,adu λR V=>?_⟩;simp only[Î,Ğ,Ï,Nat.reduceSub,ď,ē,uT,bZ,cw,vi,dF,pH,fG,wp_call,bL,bP];refine⟨le_size (n:=0) (by decide),le_size (n:=3) (by decide),?_⟩;refine(gj ((Kq.app s _).sf h) (by decide) (by decide)).mono λd s1 Z=>?_;obtain⟨r,rfl,w,v,g1,G⟩:=Z;obtain⟨d,Z,e⟩:=D8 (ds:=[.int 31,.int 6,.int 12]) (s:=s1) w v;refine ads e ?_;have U:∃y:Int,d=.int y/\0<y/\y<=31:=by
  simp only[É,Ý,or_false] at Z
  rcases Z with rfl|rfl|rfl
  ·exact⟨31,rfl,by decide,by decide⟩
  ·exact⟨6,rfl,by decide,by decide⟩
  ·exact⟨12,rfl,by decide,by decide⟩
 obtain⟨y,rfl,u,y1⟩:=U;refine⟨_,_,rfl,?_⟩;simp only[ø,ô,cz];have Q:s.length≠k:=by omega
 have t:s1[s.length]?=some (.lst (([]:List Pg).map Pg.d)):=G.get (by simp) Q;have P:Ex k s s1:=(Ex.app k s _).trans G;subst V;refine adu λR V=>?_;rw[mC];refine ads (KO (n:=n.toNat) (s1:=s1) (i:=n) (adt (by simp only[VC,Ě])) (by omega) (by omega)) ?_;refine Wp.iV (λi env s'=>∃(ps:List Pg) (O N:Option D),env=[some (.ai k),some (.int n),some (.ai s.length),some (.int y),O,N]/\ps.length<=i/\(∀p∈ps,dg p=true)/\ps.Nodup/\iF ps=true/\s'[s.length]?=some (.lst (ps.map Pg.d))/\Sf s' k/\Ex k s s') _ ⟨[],_,_,rfl,adv _,λ_ z=>(Ý z).elim,.nil,by decide +kernel,t,g1,P⟩ (λi d env s' Z M=>?_) (λenv s' M=>?_)
 ·obtain⟨ps,O,N,rfl,L,Y,X,T,K,g2,J⟩:=M
  rw[il] at Z;split at Z
  ·rename_i hi
   cases Z;refine⟨_,rfl,?_⟩;unfold JH;refine adu λR V=>?_;simp only[iI,iu,wp_call,bZ,cw,bL,bP,ø,ô];refine(Yq g2 u y1).mono λd W Z=>?_;obtain⟨p,rfl,o,g3,F⟩:=Z;have S:=F.get K Q;have E:=J.trans F;rw[cz];subst V;simp only[mJ,uR,mI,dF,bL,bP,Ru S,aR,jO]
   cases C:xo p ps with
   |true =>
    simp only[Č,Ã,î,kj];exact⟨ps,_,_,rfl,by omega,Y,X,T,S,g3,E⟩
   |false =>
    have I:p∉ps:=λz=>by rw[Wy.mpr z] at C;cases C
    simp only[adf,ï,si,wp_call,bZ,cw,dF,pH,bL,bP];refine⟨le_size (n:=1) (by decide),?_⟩;refine ads (show bX (.ai s.length) (.lst [p.d]) W=ok (lD (ps++[p])) W from ?_) ?_
    ·unfold bX
     have e:res (.ai s.length) W=.lst (ps.map Pg.d):=by unfold res;simp only[S]
     rw[e];have m:gp (ps.map Pg.d) [p.d]=true:=Õ (le_size (by rw[Â,ê,Ć];omega))
     show bq (if gp (ps.map Pg.d) [p.d]=true then some (D.lst (ps.map Pg.d++[p.d])) else none) W=_
     rw[Þ m];show ok (D.lst (ps.map Pg.d++[p.d])) W=ok (D.lst ((ps++[p]).map Pg.d)) W;rw[ì];rfl
    ·refine(Yt (by rw[Ð,ê,Ć];omega)).mono λd l Z=>?_
     obtain⟨rfl,kp⟩:=Z;have H:=kp.get S;have B:=kp.sf g3;have A:Ex k s l:=E.trans ⟨kp.1,λi hi _=>kp.2 i hi⟩;simp only[pq]
     cases j:iF (ps++[p]) with
     |true =>
      simp only[ï,rM,yX,bL,bP];obtain⟨a1,a2⟩:=uX (x:=p.d) H (by rw[Â];omega);refine⟨a1,?_⟩;refine ads a2 ?_;refine⟨ps++[p],_,_,rfl,by rw[Ð];exact acP L,λq g=>?_,?_,j,?_,Sf.set B Q _,A.hi (adv _) _⟩
      ·rcases ñ.mp g with z|z
       ·exact Y q z
       ·rw[Ü.mp z];exact o
      ·rw[ŧ]
       exact⟨X,by simp,λx f y U e=>I (by rw[Ü] at U;rw[<- U,<- e];exact f)⟩
      ·rw[ð (Æ.mp H).1,ì]
       rfl
     |false =>
      simp only[Ã,î,kj];exact⟨ps,_,_,rfl,by omega,Y,X,T,H,B,A⟩
  ·cases Z
 ·obtain⟨ps,O,N,rfl,L,Y,X,T,K,g2,J⟩:=M
  rw[dM] at L;subst V;rw[cz];simp only[iH,lM,bZ,cw,bL,bP];refine ads (show ve [.ai s.length] s'=ok (.lst ((ST.fB cP ps).map Pg.d)) s' from ?_) ?_
  ·unfold ve
   have e:res (.ai s.length) s'=.lst (ps.map Pg.d):=by unfold res;simp only[K]
   simp only[e];rw[Þ (by rw[Â];omega),yr];rfl
  ·refine ads (show eU [.lst ((ST.fB cP ps).map Pg.d)] s'=ok (bD (ST.fB cP ps)) s' from rfl) ?_
   exact⟨_,rfl,Rt Y X T,Ip Y X,g2,J⟩
end
noncomputable abbrev kX (p:Nat×Nat):D:=.tup [.int p.1,.int p.2]
def Fe (h:0<=d/\d<31):ar (.lst ((Ù 31).map f)) (.int d) s=ok (f d.toNat) s:=by
 simp only[ar,ig,res,V9 h.1 h.2,bq]
def NA:e9 (n+1) (-1)=some n:=by
 unfold e9;rw[å (by omega),Þ (by omega)];congr 1;omega
def aa8 {xs:List D} {x:D}:c9 (xs++[x]) (-1)=some x:=by
 unfold c9;rw[Ð,ā,NA];simp
def Mc (h:s[k]?=some (.lst (ds++[x]))):ar (.ai k) (.int (-1)) s=ok x s:=by
 unfold ar ig res;simp only[h,aa8];rfl
def WC (h:s[k]?=some (.lst (ds++[x]))):lV (.ai k) (.int (-1)) y s=some (s.set k (.lst (ds++[y]))):=by
 unfold lV;simp only[h];have e:e9 (ds++[x]).length (-1)=some ds.length:=by rw[Ð,ā,NA]
 rw[e];simp
theorem BM (b:Nat->Bool):∀n,(bR b n).length<=n
 |0=>adv _
 |n+1=>by
  have:=BM b n;unfold bR;split
  ·rename_i h
   simp only[Ð,List.length_dropLast,ê,Ć];omega
  ·split
   ·simp;omega
   ·omega
def SW (h:jK b n=true):∃L d e,bR b n=L++[(d,e)]:=by
 rcases MX (b:=b) n n (adv _) with ⟨Z,_⟩ | ⟨_,S,d,_,_,_,e⟩
 ·rw[h] at Z;cases Z
 ·exact⟨_,_,_,e⟩
def Yv:uj [.lst ((Ù 31).map λi=>.bl (b i))] s=ok (.lst ((bR b 31).map kX)) (s++[.dead]):=by
 refine adt ?_;unfold uj;simp only[iP,ê,Ć,Nat.reduceAdd,Nat.reduceSub,Ï,Î,Ğ,ď,ē,acB,nP,iI,iu,vi,cw,ø,ô,cz,mC];refine⟨by decide,?_⟩;refine ads (eV (n:=31) rfl (by decide)) ?_;refine Wp.iV (λi env Z=>i<=31->∃a2,env=[some (.lst ((Ù 31).map λi=>.bl (b i))),some (.ai s.length),a2]/\Z=s++[.lst ((bR b i).map kX)]) _ (λ_=>⟨_,rfl,rfl⟩) (λi d env Z Y X=>?_) (λenv Z X=>?_)
 ·rw[il] at Y
  split at Y
  ·rename_i hi
   cases Y;obtain⟨a2,rfl,rfl⟩:=X (by omega);refine⟨_,rfl,?_⟩;simp only[ø,ô,Ŕ];have cell:(s++[Cell.lst ((bR b i).map kX)])[s.length]?=some (.lst ((bR b i).map kX)):=by simp
   have upd:∀c:Cell,(s++[Cell.lst ((bR b i).map kX)]).set s.length c=s++[c]:=λc=>by simp[abt]
   have ln:=BM b i;have app:(b i&&jK b i)=false->Wp (bE (cx (e2 ar (aa 0) (aa 2))) (cB (gr (aa 1) (cg (af (aa 2) (af (aa 2) ah))))) bM [some (.lst ((Ù 31).map λi=>.bl (b i))),some (.ai s.length),some (.int i)] (s++[.lst ((bR b i).map kX)])) λW Z=>W=.nx [some (.lst ((Ù 31).map λi=>.bl (b i))),some (.ai s.length),some (.int i)]/\Z=s++[.lst ((bR b (i+1)).map kX)]:=λP=>by
    rw[mJ];simp only[VC,Fe (show 0<=(i:Int)/\(i:Int)<31 by omega),Ĳ]
    have st:bR b (i+1)=if (b i&&jK b i)=true then (bR b i).dropLast++[(((bR b i).getLast?.getD (0,0)).1,i)] else if b i=true then bR b i++[(i,i)] else bR b i:=rfl
    rw[st,P]
    cases V:b i with
    |false=>simp
    |true =>
     simp only[ï,Ã,î]
     refine⟨by simp only[iU,cell],by decide,ads (show ia _ _ _=ok .ax (s++[.lst ((bR b i++[(i,i)]).map kX)]) from ?_) (by first|exact⟨rfl,rfl⟩|rfl)⟩
     unfold ia;simp only[cell];rw[Þ (by rw[Í,Â];exact Ì (show (bR b i).length<1000 by omega) (le_size (by decide))),upd,ì];rfl
   rw[mJ];simp only[uR,si,dF,bL,bP,Fe (show 0<=(i:Int)/\(i:Int)<31 by omega),Ĳ,aR,pq]
   cases V:b i with
   |false =>
    simp only[Ã,î];exact(app (by rw[V];rfl)).mono λW S h=>by obtain⟨rfl,rfl⟩:=h;exact λ_=>⟨_,rfl,rfl⟩
   |true =>
    simp only[ï,mI,dF,fG,bL,bP,L0,jO];by_cases R:0<i
    ·rw[Õ (show (i:Int) > 0 by omega)]
     simp only[ï,KQ,Fe (show 0<=(i:Int)-1/\(i:Int)-1<31 by omega),aR,pq];rw[show ((i:Int)-1).toNat=i-1 by omega];have U:jK b i=b (i-1):=by unfold jK;rw[Õ R];rfl
     cases T:b (i-1) with
     |false =>
      simp only[Ã,î];exact(app (by rw[U,T,Bool.and_false])).mono λW S h=>by obtain⟨rfl,rfl⟩:=h;exact λ_=>⟨_,rfl,rfl⟩
     |true =>
      simp only[ï];obtain⟨L,d,e,Q⟩:=SW (b:=b) (n:=i) (by rw[U];exact T);rw[Q,ì] at cell upd |-;rw[KN];simp only[lC,bZ,cw,dF,vI,bL,bP,fG];refine ads (show iq (.int 1) _=ok (.int (-1)) _ from rfl) ?_;refine ads (Mc cell) ?_;refine ads (show ar (kX (d,e)) (.int 0) _=ok (.int d) _ from rfl) ?_;refine⟨le_size (by simp only[ê,Ć];decide),ads (show iq (.int 1) _=ok (.int (-1)) _ from rfl) ⟨_,WC cell,λ_=>⟨_,rfl,?_⟩⟩⟩;rw[upd]
      have st:bR b (i+1)=if (b i&&jK b i)=true then (bR b i).dropLast++[(((bR b i).getLast?.getD (0,0)).1,i)] else if b i=true then bR b i++[(i,i)] else bR b i:=rfl
      have:bR b (i+1)=L++[(d,i)]:=by
       rw[st,V,U,T,Q];simp
      rw[this,ì];rfl
    ·rw[æ (show ¬ (i:Int) > 0 by omega)]
     simp only[Ã,î];exact(app (by unfold jK;rw[æ R];simp)).mono λW S h=>by obtain⟨rfl,rfl⟩:=h;exact λ_=>⟨_,rfl,rfl⟩
  ·cases Y
 ·rw[dM] at X
  obtain⟨a2,rfl,rfl⟩:=X (adv _);simp only[iH,cz,pJ,LY,bL,bP];exact ads Wa ⟨rfl,rfl⟩
theorem Lg {α:Type} (d:α->D) (h:α->List D):∀(xs:List α) (s:ae),(∀x∈xs,∃env,g (d x) lQ=some env/\(∀s,t env s=ok true s)/\∀s,Wp (act env s) λys s'=>ys=h x/\∃c,s'=s++c) ->
  Wp (fX g t act lQ (xs.map d) s) λys s'=>ys=xs.flatMap h/\∃c,s'=s++c
 | [],s,_=>by
  rw[Ğ];unfold fX;rw[aR];exact⟨rfl,[],by simp⟩
 |x::xs,s,Y=>by
  obtain⟨env,X,W,V⟩:=Y x Ñ;rw[Î];unfold fX;rw[X];simp only[W,kq,de,ï,bw,vH];refine(V s).mono λys S Z=>?_;obtain⟨rfl,c,rfl⟩:=Z;refine(Lg d h xs (s++c) λy Z=>Y y (Ò _ Z)).mono λzs R U=>?_;obtain⟨rfl,T,rfl⟩:=U;rw[aR,List.flatMap_cons];exact⟨rfl,c++T,by rw[Ĩ]⟩
abbrev j9 (h l:List Int):D:=.tup [mD h,mD l]
def oU (ps:List Pg) (m:Int) (h l:List Int) (d:Nat):Bool:=h.all (λk=>!ab (lN ps m k) (mN ps m k) d)&&l.all λk=>!pr (sN ps m k) (mN ps m k) d
structure Sh (h l:List Int):Prop where
 a:bY 8 h
 b:bY 8 l
 ap:∀x∈h,x∉l
def JZ (hk:bY 8 h):mK h (k8.filter p)=h.all λk=>!p k:=by
 unfold mK;rw[List.not_any_eq_all_not];rw[ň,õ,õ];have e:∀x∈h,(!decide (x∈k8.filter p))=!p x:=λx Z=>by
  congr 1;rw[ň,Í,ÿ];exact⟨λz=>z.2,λz=>⟨sk.mpr (hk.lo x Z),z⟩⟩
 exact⟨λz x Z=>by rw[<- e x Z];exact z x Z,λz x Z=>by rw[e x Z];exact z x Z⟩
def UL {m:Int} {h l:List Int} {d:Nat} (hs:Sh h l) (hd:d<=30):uO [j9 h l,pV (kT ps m) (jJ ps m) d] s=ok (.bl (oU ps m h l d)) s:=by
 refine adt ?_;have Z:=hs.a.len;have Y:=hs.b.len;unfold uO pV oU;simp only[VC];refine ads (t5 _ _ _).1 (ads (t5 _ _ _).2 ?_);refine ads (BJ (by omega)) ?_;rw[JZ hs.a];simp only[VC,V7 hd]
 cases h.all λk=>!ab (lN ps m k) (mN ps m k) d with
 |false=>simp
 |true =>
  simp only[ï,ĕ];refine ads (t5 _ _ _).2 (ads (t5 _ _ _).1 ?_);refine ads (BJ (by omega)) ?_;rw[JZ hs.b];simp only[V6 hd,Ě]
def SX (hs:Sh h l):xG [j9 h l] s=ok .ax s:=by
 refine adt ?_;have Y:=hs.a.len;have X:=hs.b.len;unfold xG;simp only[VC];refine ads (JQ (by omega) (by omega)) ?_;rw[yd hs.a (adv _),yd hs.b (adv _),show mK h l=true by unfold mK;rw[ĵ,abx];intro x Z;simpa using hs.ap x Z];simp only[VC,đ,Č,Ã,î,Ě]
def fN (ps:List Pg) (h l:List Int):List D:=m4.flatMap λm=>(bR (oU ps m h l) 31).map λp=>D.tup [.int m,.int p.1,.int p.2]
def SY :
  Wp (yE nt cap it gd c act env s) Q=Wp (it env s) λds s=>Wp (fX gd c act (Ï nt none++dP cap env) ds s) λxs s=>xs.length<=Ø/\Q (.ai s.length) (s++[.lst xs]):=by
 unfold yE;simp only[bw,vH,nN,aR]
def ze (ps:List Pg) (h l:List Int):(fN ps h l).length<=124:=by
 unfold fN;refine Ú (rN (b:=31) λm _=>?_) (by decide);rw[Â];exact BM _ 31
def Jg (hl:ps.length<=1000) (hf:∀p∈ps,jZ p) (hb:ef ps=true) (hs:Sh h l):Wp (uq [bD ps,j9 h l] s) λx s'=>∃c,x=.ai (s++c).length/\s'=s++c++[.lst (fN ps h l)]:=by
 unfold uq;rw[iP];refine⟨rfl,?_⟩;rw[nP,rM];simp only[wp_call,bZ,cw,bL,bP,Î,Ğ,ď,ē,Ï,Nat.reduceSub];refine ads (UA hl hf hb) ?_;rw[cz,nP,rM];simp only[wp_call,bZ,cw,bL,bP];refine ads (SX hs) ?_;rw[cz,iH,SY];refine ads (eV (n:=4) rfl (by decide)) ?_;rw[show cu 0 4=m4.map D.int from rfl];refine(Lg D.int (λm=>(bR (oU ps m h l) 31).map λp=>D.tup [.int m,.int p.1,.int p.2]) m4 s λm X=>⟨[some (.int m),none,none,some (j9 h l),some (bD ps)],rfl,λ_=>rfl,λs=>?_⟩).mono λW s' Z=>?_
 ·unfold more
  rw[bw];have hi:∃c,cZ (aw uj (af (cE 1 [3] (cZ (aw ua (af (aa 4) (af (aa 0) ah)))) (gN 0) cy (aw uO (af (aa 1) (af (aa 0) ah)))) ah)) [some (.int m),none,none,some (j9 h l),some (bD ps)] s=ok ((bR (oU ps m h l) 31).map kX) (s++c):=by
   obtain⟨x,s',e,rfl,c,rfl⟩:=V8 (m:=m) (s:=s) hl;refine⟨c++[.dead],lg (adt ?_)⟩;simp only[wp_call,bZ,cw,rV];refine ads (lg (s1:=s++c) (ds:=kU.map (pV (kT ps m) (jJ ps m))) (adt ?_)) ⟨by rw[Â];exact le_size (by decide),?_⟩
   ·simp only[wp_call,bZ,cw,bL,bP]
    exact ads e ⟨rfl,rfl⟩
   refine ads (comp_map (pV (kT ps m) (jJ ps m)) (λ_=>true) (λd=>.bl (oU ps m h l d.toNat)) kU λd Y=>⟨[some (pV (kT ps m) (jJ ps m) d),some (j9 h l)],rfl,rfl,λ_=>?_⟩) ?_
   ·refine adt ?_
    obtain⟨i,hi,rfl⟩:=ò.mp Y;rw[ë] at hi;simp only[wp_call,bZ,cw,bL,bP];exact ads (UL hs (by omega)) ⟨rfl,rfl⟩
   ·rw[filter_tt]
    unfold kU;rw[ī];refine ads (Yv (b:=oU ps m h l)) ⟨rfl,?_⟩;rw[Ĩ]
  obtain⟨c,hi⟩:=hi;refine ads hi ?_;refine ads (sj kX (λ_=>true) (λp=>[D.tup [.int m,.int p.1,.int p.2]]) (bR (oU ps m h l) 31) λp V=>⟨[some (.int m),some (.int p.1),some (.int p.2),some (j9 h l),some (bD ps)],rfl,rfl,λ_=>?_⟩) ?_
  ·refine adt ?_
   unfold emit;rw[bw];simp only[VC]
   first|exact⟨by decide,rfl,trivial⟩|exact⟨by decide,trivial⟩|decide
  ·rw[filter_tt,<- ac4]
   exact⟨rfl,c,rfl⟩
 ·obtain⟨rfl,c,rfl⟩:=Z
  refine⟨le_size (Ú (ze ps h l) (by decide)),?_⟩;rw[pJ];exact⟨c,rfl,rfl⟩
structure Ct where
 r:Int
 q:Int
 h:Int
structure Ct.ok (p:Ct):Prop where
 r0:0<=p.r
 r1:p.r<1000
 q0:0<=p.q
 q1:p.q<20
 h0:0<=p.h
 h1:p.h<24
noncomputable abbrev cD (p:Ct):D:=.tup [.int p.r,.int p.q,.int p.h]
noncomputable def sh (p:Ct):Int:=p.r*480+p.q*24+p.h
noncomputable def gR (m:Int):Ct:=⟨m / 480,m / 24 % 20,m % 24⟩
def mulC (h0:0<=i) (h1:i<1000000000):fO (.int i) (.int j) s=DI.ok (.int (i*j)) s:=tm s (mulOk_of (by omega) (by omega))
def Qs (h:p.ok):aK.xS [cD p] s=DI.ok (.int (sh p)) s:=by
 refine adt ?_;unfold aK.xS;obtain⟨Z,X,Y,W,V,U⟩:=h;simp only[VC,mulC Z (show p.r<1000000000 by omega),mulC Y (show p.q<1000000000 by omega)];exact⟨rfl,trivial⟩
def Rv (h0:0<=m) (h1:m<=479999):aK.xW [.int m] s=DI.ok (cD (gR m)) s:=by
 refine adt ?_;unfold aK.xW;simp only[VC,æ (show ¬ 479999<m by omega),Ã,î,zU _ (show (0:Int)<480 by decide) (by decide),zU _ (show (0:Int)<24 by decide) (by decide),oy _ (show (0:Int)<20 by decide),oy _ (show (0:Int)<24 by decide)];exact⟨le_size (n:=3) (by decide),rfl,trivial⟩
def Rw (h:p.ok):aK.xX [cD p] s=DI.ok (.bl true) s:=by
 refine adt ?_;unfold aK.xX;obtain⟨Z,Y,X,W,V,U⟩:=h;simp only[VC];refine ads (show fR [cD p,.ty "tuple"] s=DI.ok (.bl true) s from rfl) ?_;simp only[VC,Č,Ã,î];refine ads (show bN [cD p] s=DI.ok (.int 3) s from rfl) ?_;simp only[VC,show ((3:Int)==3)=true from rfl,Č,Ã,î,pb,Õ Z,Õ Y,Õ X,Õ W,Õ V,Õ U,đ,ï,Ě]
def Yw {ps:List Ct} {s:ae}:zT [.lst (ps.map λp=>D.int (sh p))] s=DI.ok (.int (ps.map sh).sum) s:=by
 show (match lL (ps.map λp=>D.int (sh p)) with|some Z=>DI.ok (D.int Z.sum) s|none=>none)=_
 rw[show (ps.map λp=>D.int (sh p))=(ps.map sh).map D.int by rw[ī];rfl,Be]
def J0 :
  Wp (r9 nt cap it gd c f env s) Q=Wp (it env s) λp s=>p.1.length<=Ø/\Wp (ki nt (dP cap env) gd c f p.2 p.1 s) λxs s=>Q (.lst xs) s:=by
 unfold r9;simp only[bw,nN,aR]
def Jh {α:Type} (d:α->D) (mf:γ s) (h:α->D) (xs:List α) (hh:∀x∈xs,∃env,g (d x) (Ï nt none++caps)=some env/\t env s=ok true s/\f env s=ok (h x) s) :
  ki nt caps g t f γ (xs.map d) s=ok (xs.map h) s:=by
 induction xs with
 |nil=>rw[Ğ];unfold ki;rw[Þ mf];rfl
 |cons n U ih =>
  obtain⟨env,Z,Y,X⟩:=hh n Ñ;have ih:=ih λW V=>hh W (Ò _ V);rw[Î];unfold ki;rw[Þ mf,Z];simp only[Y,kq,de,ï,X,ih,Î]
def UM (e:f env s=ok (.ai b) s) (h:s[b]?=some (.lst ds)):sG f env s=ok (ds,λs=>res (.ai b) s=.lst ds) s:=by
 unfold sG;rw[e,de,show res (.ai b) s=.lst ds by unfold res;simp only[h]]
def Ji {ps:List Ct} {s:ae} {j:Nat} (hj:s[j]?=some (.lst (ps.map cD))) (h:∀p∈ps,p.ok) (hl:ps.length<=20) (h0:0<=(ps.map sh).sum) (h1:(ps.map sh).sum<=479999):aK.uF [.ai j] s=DI.ok (cD (gR (ps.map sh).sum)) s:=by
 have Z:res (.ai j) s=.lst (ps.map cD):=by unfold res;simp only[hj]
 have e1:fR [.ai j,.ty "list"] s=DI.ok (.bl true) s:=by
  show (if DK "list"=true then bq ((DI.kd (.ai j) s).map λk=>D.bl (oj k "list")) s else none)=_
  rw[Þ (by decide)];show bq ((DI.kd (.ai j) s).map λk=>D.bl (oj k "list")) s=_;unfold DI.kd;rw[Z];rfl
 have e2:bN [.ai j] s=DI.ok (.int ps.length) s:=by
  show bq (qc (.ai j) s) s=_;unfold qc;rw[Z];show DI.ok (D.int ((ps.map cD).length:Nat)) s=_;rw[Â]
 have X:∀(i:Nat) (env:Env),aa i env s=ok (.ai j) s->sG (aa i) env s=ok (ps.map cD,λs=>res (.ai j) s=.lst (ps.map cD)) s:=λi env e=>UM e hj;have W:aK.xE [.ai j] s=DI.ok (.bl true) s:=by
  refine adt ?_;unfold aK.xE;simp only[VC,J0,e1,ï,e2,Õ (show (ps.length:Int)<=20 by omega)];refine ads (X 0 _ rfl) ⟨le_size (by rw[Â];omega),?_⟩;refine ads (Jh cD Z (λ_=>D.bl true) ps λp Y=>⟨[some (cD p)],rfl,rfl,adt (by simp only[VC,Rw (h p Y),Ě])⟩) ?_;exact ads (nR (λ_=>true) ps s) ⟨by simp,rfl⟩
 refine adt ?_;unfold aK.uF;simp only[VC,J0,W,Č,Ã,î];refine ads (X 0 _ rfl) ⟨le_size (by rw[Â];omega),?_⟩;refine ads (Jh cD Z (λp=>D.int (sh p)) ps λp Y=>⟨[some (cD p)],rfl,rfl,adt (by simp only[VC,Qs (h p Y),Ě])⟩) ?_;refine ads Yw ?_;exact ads (Rv h0 h1) ⟨rfl,rfl⟩
section
variable {s s':ae} {ps:List Pg} {h l:List Int} {ra rb rs:List (List Int)} {jc:Nat} {cs:List Ct}
structure eO (rs:List (List Int)):Prop where
 g:GH rs
 lo:1<=rs.length
 hi:rs.length<=9
structure kY (s:ae) (j:Nat) (cs:List Ct):Prop where
 at_:s[j]?=some (.lst (cs.map cD))
 ok:∀p∈cs,p.ok
 sm:∀p∈cs,p.r<=60
 len:cs.length<=20
 lo:0<=(cs.map sh).sum
 hi:(cs.map sh).sum<=20000
def kY.kp (c:kY s jc cs) (k:Kp s s'):kY s' jc cs:=⟨k.get c.at_,c.ok,c.sm,c.len,c.lo,c.hi⟩
def n9 (h:List Int) (rs:List (List Int)):List D:=[.int (mx rs),.tup ((sJ rs).map pD),pD (longest (dS rs rs.length)),.int ((mx (rs++[h]):Int)-mx rs)]
def jm (cs:List Ct) (h:List Int) (ra rb:List (List Int)):List D:=[cD (gR (cs.map sh).sum)]++n9 h ra++n9 h rb
def km (ps:List Pg) (h l:List Int) (ra rb:List (List Int)):List (List D):=[nD (dG ra),nD (dG rb),fN ps h l,fN ps [] []]
structure ToldN (s s':ae) (is:List Nat) (Ls:List (List D)):Prop where
 kp:Kp s s'
 nd:is.Nodup
 ge:∀i∈is,s.length<=i
 at_:is.map (λi=>s'[i]?)=Ls.map λL=>some (Cell.lst L)
def ToldN.get (T:ToldN s s' is Ls) (hi:i∈is):∃L∈Ls,s'[i]?=some (.lst L):=by
 have:=List.mem_map_of_mem (f:=λi=>s'[i]?) hi;rw[T.at_] at this;obtain⟨L,Z,e⟩:=ò.mp this;exact⟨L,Z,e.symm⟩
def ToldN.more (T:ToldN s s' is Ls) (k:Kp s' t):ToldN s t is Ls:=by
 refine⟨T.kp.trans k,T.nd,T.ge,?_⟩;rw[<- T.at_];refine abQ λi hi=>?_;obtain⟨L,_,e⟩:=T.get hi;exact k i (Æ.mp e).1
def zf (xs:ae) (c:Cell) (ys:ae):(xs++c::ys)[xs.length]?=some c:=by simp
def WD (g:eO rs) (hm:bY 8 h) (hl:acc.length<=100) :
  Wp (aZ (e2 bX (aa 5) (eY (af (aw aK.uG (af (aa 6) ah)) (af (aw aK.uA (af (aa 6) ah)) (af (aw aK.t9 (af (aa 6) ah)) (af (aw aK.uB (af (aa 6) (af (DI.e2 ar (aa 3) (eC (.int 0))) ah))) ah)))))) (gN 5) [v0,v1,v2,some (j9 h l),v4,some (.lst acc),some (rD rs)] s) λfl s'=>fl=.nx [v0,v1,v2,some (j9 h l),v4,some (.lst (acc++n9 h rs)),some (rD rs)]/\Kp s s':=by
 have e:∀s,ar (j9 h l) (.int 0) s=ok (mD h) s:=λ_=>rfl;simp only[VC,SK g.g g.lo g.hi];refine(Ww g.g g.lo g.hi).mono λd X Z=>?_;obtain⟨rfl,Y⟩:=Z;simp only[VC,PY g.g g.lo g.hi,e,Wj g.g g.lo g.hi hm];refine⟨le_size (n:=4) (by decide),?_⟩;refine ads (wc (ys:=n9 h rs) (by show acc.length+4<=1000000;omega)) ?_;exact⟨rfl,Y⟩
def UN (ga:eO ra) (gb:eO rb):dW 1 [] (gN 0) cy (aw aK.rH (af (aa 0) ah)) [rD ra,rD rb] s=ok [.ai s.length,.ai (s.length+1)] (s++[.lst (nD (dG ra))]++[.lst (nD (dG rb))]):=by
 have e:∀{rs s},eO rs->aw aK.rH (af (aa 0) ah) [some (rD rs)] s=ok (.ai s.length) (s++[.lst (nD (dG rs))]):=λ{rs s} g=>adt (by simp only[VC,SM g.g g.lo g.hi,Ě]);unfold dW dW dW;simp only[Ï,Ē,gN,ô,cy,kq,de,ï,e ga,e gb,Ð,ā]
def Dh (ga:eO ra) (gb:eO rb) (hc:kY s jc cs) (hl:ps.length<=1000) (hf:∀p∈ps,jZ p) (hb:ef ps=true) (hs:Sh h l) (hm:bY 8 h) :
  Wp (aK.sd [.lst [rD ra,rD rb],.ai jc,bD ps,j9 h l] s) λd s'=>∃is,d=.tup [.lst (is.map D.ai),.lst (jm cs h ra rb)]/\ToldN s s' is (km ps h l ra rb):=by
 have m0:bY 8 []:=⟨λ_ W=>absurd W Ý,.nil⟩;unfold aK.sd;refine iP.symm ▸ ⟨rfl,adu λR U=>?_⟩;simp only[Î,Ğ,Ï,Nat.reduceSub,ď,ē,iI,dF,rV,iu];refine ads (lg rfl) ⟨le_size (n:=2) (by decide),?_⟩;refine ads (UN ga gb) ?_;simp only[pH,bZ,cw,wp_call,bL,bP,lC];refine(Jg hl hf hb hs).mono λx J W=>?_;obtain⟨Z,rfl,rfl⟩:=W;refine⟨le_size (n:=0) (by decide),le_size (n:=0) (by decide),le_size (n:=2) (by decide),?_⟩;refine(Jg (h:=[]) (l:=[]) hl hf hb ⟨m0,m0,λ_ W=>absurd W Ý⟩).mono λx M W=>?_;obtain⟨Y,rfl,rfl⟩:=W;simp only[Ð,ā,iu,ø,ô];refine⟨le_size (n:=2) (by decide),ads (wc (xs:=[_,_]) (ys:=[_,_]) (show 2+2<=1000000 by decide)) ?_⟩;rw[cz];subst U;have T:ToldN s (s++[Cell.lst (nD (dG ra))]++[Cell.lst (nD (dG rb))]++Z++[Cell.lst (fN ps h l)]++Y++[Cell.lst (fN ps [] [])]) [s.length,s.length+1,s.length+1+1+Z.length,s.length+1+1+Z.length+1+Y.length] (km ps h l ra rb):=by
  refine⟨?_,by simp;omega,λi hi=>by simp at hi;omega,?_⟩
  ·simp only[Ĩ]
   exact Kp.app _ _
  ·have e1:=zf s (.lst (nD (dG ra))) ([Cell.lst (nD (dG rb))]++Z++[Cell.lst (fN ps h l)]++Y++[Cell.lst (fN ps [] [])])
   have e2:=zf (s++[Cell.lst (nD (dG ra))]) (.lst (nD (dG rb))) (Z++[Cell.lst (fN ps h l)]++Y++[Cell.lst (fN ps [] [])]);have Q:=zf (s++[Cell.lst (nD (dG ra))]++[Cell.lst (nD (dG rb))]++Z) (.lst (fN ps h l)) (Y++[Cell.lst (fN ps [] [])]);have P:=zf (s++[Cell.lst (nD (dG ra))]++[Cell.lst (nD (dG rb))]++Z++[Cell.lst (fN ps h l)]++Y) (.lst (fN ps [] [])) [];rw[Ð,ā] at e2;rw[Ð,Ð,Ð,ā,ā] at Q;rw[Ð,Ð,Ð,Ð,Ð,ā,ā,ā] at P;simp only[Ĩ,ď,ē] at e1 e2 Q P;simp only[Î,Ğ,km,Ĩ,ď,ē,e1,e2,Q,P]
 generalize s++[Cell.lst (nD (dG ra))]++[Cell.lst (nD (dG rb))]++Z++[Cell.lst (fN ps h l)]++Y++[Cell.lst (fN ps [] [])]=S at T;generalize V:[s.length,s.length+1,s.length+1+1+Z.length,s.length+1+1+Z.length+1+Y.length]=is at T;have L:[D.ai s.length,D.ai (s.length+1)]++[D.ai (s.length+1+1+Z.length),D.ai (s.length+1+1+Z.length+1+Y.length)]=is.map D.ai:=by rw[<- V];rfl
 rw[L];clear V L;refine adu λR U=>?_;have c:=hc.kp T.kp;simp only[iI,pH,bZ,cw,wp_call,bL,bP,Ji c.at_ c.ok c.len c.lo (show (cs.map sh).sum<=479999 by have:=c.hi;omega),aR,iu,ø,ô];refine⟨le_size (n:=1) (by decide),?_⟩;rw[cz];subst U;refine adu λR U=>?_;rw[mC];refine ads (lg rfl) ?_;refine Wp.iV (λi env s'=>∃O,env=[some (.lst [rD ra,rD rb]),some (.ai jc),some (bD ps),some (j9 h l),some (.lst (is.map D.ai)),some (.lst ([cD (gR (cs.map sh).sum)]++([ra,rb].take i).flatMap (n9 h))),O]/\Kp S s') _ ⟨none,rfl,Kp.refl _⟩ (λi d env s' X V=>?_) (λenv s' V=>?_)
 ·obtain⟨O,rfl,k⟩:=V
  have go:∀{rs:List (List Int)} {acc:List D},eO rs->acc.length<=100->_:=λ{rs acc} g hl=>WD (s:=s') (l:=l) (v0:=some (.lst [rD ra,rD rb])) (v1:=some (.ai jc)) (v2:=some (bD ps)) (v4:=some (.lst (is.map D.ai))) (rs:=rs) (acc:=acc) g hm hl
  match i,X with
  |0,X =>
   cases X;refine⟨_,rfl,(go (acc:=[cD (gR (cs.map sh).sum)]) ga (show 1<=100 by decide)).mono λK M X=>?_⟩;obtain⟨rfl,N⟩:=X;exact⟨_,rfl,k.trans N⟩
  |1,X =>
   cases X;refine⟨_,rfl,(go (acc:=[cD (gR (cs.map sh).sum)]++([ra,rb].take 1).flatMap (n9 h)) gb (show 5<=100 by decide)).mono λK M X=>?_⟩;obtain⟨rfl,N⟩:=X;exact⟨_,rfl,k.trans N⟩
 ·obtain⟨O,rfl,k⟩:=V
  rw[cz];subst U;simp only[VC];exact⟨le_size (n:=2) (by decide),is,by simp[jm,List.flatMap],T.more k⟩
end
mutual
theorem ye:∀{d:D},plain d=true->deep s d=d
 | .tup Z,h=>by simp only[plain] at h;simp only[deep,xT h]
 | .lst Z,h=>by simp only[plain] at h;simp only[deep,xT h]
 | .ai _,h=>by cases h
 | .ax,_=>rfl
 | .bl _,_=>rfl
 | .int _,_=>rfl
 | .str _,_=>rfl
 | .bA _,_=>rfl
 | .ty _,h=>by cases h
 | .bV _,h=>by cases h
 | .exc _ _,h=>by cases h
 | .cN _ _ _,h=>by cases h
theorem xT:∀{ds:List D},iJ ds=true->fC s ds=ds
 | [],_=>rfl
 |d::ds,h=>by
  simp only[iJ,È] at h;simp only[fC,ye h.1,xT h.2]
end
section
variable {s s':ae} {ps:List Pg} {h l:List Int} {ra rb rs:List (List Int)} {jc:Nat} {cs:List Ct}
def BN (e:s[j]?=some (.lst L)):deep s (.ai j)=.lst L:=by
 show res (.ai j) s=_;unfold res;simp only[e]
theorem Iq:∀{is:List Nat} {Ls:List (List D)},is.map (λi=>s[i]?)=Ls.map (λL=>some (Cell.lst L))->fC s (is.map D.ai)=Ls.map D.lst
 | [],[],_=>rfl
 | [],_::_,h=>by cases h
 |_::_,[],h=>by cases h
 |i::is,L::Ls,h=>by
  simp only[Î,ş] at h;simp only[Î,fC,BN h.1,Iq h.2]
def Lh (h:Ft n W d) (hn:n<=100) (hw:W<=390000):sW d=true:=by
 have l:=PyData.shown_le 40 (by decide) _ h.lv;have w:=h.wt;have p:=h.dp;have z:Ø=16777216:=Ÿ;have Z:(py d).shown.length<=Ø:=by rw[z];omega
 unfold sW;rw[h.pl,h.sh,Õ (show (py d).depth<=100 by omega),Õ Z];rfl
def Li (hl:ns.length<=c) (h:∀x∈ns,x<9):∀x∈nD ns,Ft 0 110 x:=λx Z=>by
 obtain⟨n,Y,rfl⟩:=ò.mp Z;have:=h n Y;exact lG (by omega) (by omega)
def Rx (rs:List (List Int)):longest (dS rs rs.length)∈dS rs rs.length:=by
 obtain⟨x,Z,e⟩:=K7 rs rs.length;rw[e];exact(UC Z x).1
def HH (rs:List (List Int)):(longest (dS rs rs.length)).length<=rs.length/\∀p∈longest (dS rs rs.length),p<rs.length:=Bj _ _ (Rx rs)
theorem J1 (b:bj):∀f p,(we b f p).length<=f+1
 |0,_=>adv _
 |f+1,p=>by
  show (p::_).length<=_;rw[ê];refine acP ?_
  cases bg b p with
  |none=>exact ü _
  |some q=>exact J1 b f q
def S0 (g:eO rs):(sJ rs).length<=9/\∀r∈sJ rs,r.length<=10/\∀x∈r,x<9:=by
 obtain⟨_,_,_,a,S,_,P⟩:=JV g.g g.hi (s:=[]);have M:=P.st.m;have O:=L9 g.g;have hi:=g.hi;have key:∀p,p<rs.length->∀x∈row rs.length a p,x<rs.length:=K9 O M (λp Y X x Z=>by
  rw[JT O M Y X,Ü] at Z;rw[Z];exact Y) λp q Y U T X ih x Z=>by
  rw[JU O M Y X] at Z
  rcases É.mp Z with e|e
  ·rw[e];exact Y
  ·exact ih x e
 unfold sJ;rw[<- P.ex,Â];refine⟨Ú (Ĭ _ _) (by rw[ŀ];exact hi),λr W=>?_⟩;obtain⟨x,Z,rfl⟩:=ò.mp W;refine⟨Ú (J1 _ _ _) (by omega),λy V=>?_⟩;have:=key x (UH Z) y V;omega
def Yx:∀n:Fin 12,zW (.int ((n.val:Int)-12))=true:=by decide +kernel
def Lj (h1:-12<=n) (h2:n<=60):Ft 0 110 (.int n):=by
 by_cases z:-1<=n
 ·exact lG z h2
 ·refine zz ?_
  have:=Yx ⟨(n+12).toNat,by omega⟩;have e2:(((n+12).toNat:Nat):Int)-12=n:=by omega
  rw[e2] at this;exact this
def MZ (rs:List (List Int)):mx rs<=rs.length:=(HH rs).1
def Md (hl:ns.length<=10) (h:∀x∈ns,x<9):Ft 1 1110 (pD ns):=kl (n:=0) (W:=110) (c:=10) (ds:=nD ns) (by rw[Â];exact hl) (Li hl h)
def J2 (g:eO rs):∀x∈n9 h rs,Ft 2 9999 x:=by
 have hi:=g.hi;obtain⟨Q,V⟩:=HH rs;obtain⟨U,Y⟩:=S0 g;have P:=MZ rs;have T:=MZ (rs++[h]);rw[Ð,ā] at T;intro x Z;unfold n9 at Z;simp only[É,Ý,or_false] at Z
 rcases Z with rfl|rfl|rfl|rfl
 ·exact Ft.mono (Lj (by omega) (by omega)) (by decide) (by decide)
 ·refine kl (n:=1) (W:=1110) (c:=9) (by rw[Â];exact U) λy S=>?_
  obtain⟨r,X,rfl⟩:=ò.mp S;exact Md (Y r X).1 (Y r X).2
 ·exact Ft.mono (Md (by omega) λp R=>by have:=V p R;omega) (by decide) (by decide)
 ·exact Ft.mono (Lj (by omega) (by omega)) (by decide) (by decide)
def D9 (h:p.ok) (h1:p.r<=60):Ft 1 333 (cD p):=kl (n:=0) (W:=110) (c:=3) (ds:=[.int p.r,.int p.q,.int p.h]) (adv 3) λx Z=>by
 simp only[É,Ý,or_false] at Z;have:=h.r0;have:=h.q0;have:=h.q1;have:=h.h0;have:=h.h1
 rcases Z with rfl|rfl|rfl<;>exact lG (by omega) (by omega)
def J3 (c:kY s jc cs) (ga:eO ra) (gb:eO rb):Ft 3 165668 (.lst (jm cs h ra rb)):=by
 refine Ft.mono (pL (n:=2) (W:=9999) (c:=9) (adv 9) λx hx=>?_) (by decide) (by decide);unfold jm at hx
 rcases ñ.mp hx with hx|hx
 ·rcases ñ.mp hx with hx|hx
  ·rw[Ü.mp hx]
   have lo:=c.lo;have hi:=c.hi;exact Ft.mono (D9 (p:=gR (cs.map sh).sum) ⟨by simp only[gR];omega,by simp only[gR];omega,by simp only[gR];omega,by simp only[gR];omega,by simp only[gR];omega,by simp only[gR];omega⟩ (by simp only[gR];omega)) (by decide) (by decide)
  ·exact J2 ga x hx
 ·exact J2 gb x hx
def Bm (rs:List (List Int)):(dG rs).length<=rs.length/\∀p∈dG rs,p<rs.length:=by
 unfold dG;split
 ·exact⟨ü _,λ_ Z=>absurd Z Ý⟩
 ·exact⟨Ú (Ĭ _ _) (by rw[ŀ];exact adv _),λp Z=>ë.mp (ÿ.mp Z).1⟩
theorem Lk:∀n,∀p∈bR b n,p.1<=n/\p.2<=n
 |0,p,Z=>absurd Z Ý
 |n+1,p,Z=>by
  have ih:=Lk (b:=b) n;simp only[bR] at Z;split at Z
  ·rcases ñ.mp Z with z|z
   ·have:=ih p ((List.dropLast_sublist _).subset z);omega
   ·rw[Ü.mp z]
    refine⟨?_,ł _⟩
    cases Y:(bR b n).getLast? with
    |none=>exact ü _
    |some x=>exact Nat.le_succ_of_le (ih x (List.mem_of_getLast? Y)).1
  ·split at Z
   ·rcases ñ.mp Z with z|z
    ·have:=ih p z;omega
    ·rw[Ü.mp z];exact⟨ł _,ł _⟩
   ·have:=ih p Z;omega
def M0:Ft 2 41416 (.lst (fN ps h l)):=by
 refine pL (n:=1) (W:=333) (c:=124) (ze ps h l) λx Z=>?_;obtain⟨m,X,Z⟩:=acO.mp Z;obtain⟨p,V,rfl⟩:=ò.mp Z;have:=Lk 31 p V;have:0<=m/\m<4:=(show ∀m∈m4,0<=m/\m<4 by decide) m X;refine kl (n:=0) (W:=110) (c:=3) (ds:=[.int m,.int p.1,.int p.2]) (adv 3) λy Y=>?_;simp only[É,Ý,or_false] at Y
 rcases Y with rfl|rfl|rfl<;>exact lG (by omega) (by omega)
def UO (ga:eO ra) (gb:eO rb):Ft 3 165668 (.lst ((km ps h l ra rb).map D.lst)):=by
 have Z:∀{rs},eO rs->Ft 2 41416 (.lst (nD (dG rs))):=λ{rs} g=>by
  have hi:=g.hi;obtain⟨X,V⟩:=Bm rs;exact Ft.mono (pL (n:=0) (W:=110) (c:=9) (by rw[Â];omega) (Li X λp U=>by have:=V p U;omega)) (by decide) (by decide)
 refine pL (n:=2) (W:=41416) (c:=4) (adv 4) λx Y=>?_;simp only[km,Î,Ğ,É,Ý,or_false] at Y
 rcases Y with rfl|rfl|rfl|rfl
 ·exact Z ga
 ·exact Z gb
 ·exact M0
 ·exact M0
def BO (T:ToldN s s' is (km ps h l ra rb)) (c:kY s jc cs) (ga:eO ra) (gb:eO rb) :
  lB [.tup [.lst (is.map D.ai),.lst (jm cs h ra rb)]] s'=ok (.str (py (.tup [.lst ((km ps h l ra rb).map D.lst),.lst (jm cs h ra rb)])).shown) s':=by
 have e:fC s' [.lst (is.map D.ai),.lst (jm cs h ra rb)]=[.lst ((km ps h l ra rb).map D.lst),.lst (jm cs h ra rb)]:=by
  have f:=(J3 (h:=h) c ga gb).pl;simp only[plain] at f;simp only[fC,deep,Iq T.at_,xT f]
 show (if sW (.tup (fC s' _))=true then ok (D.str (py (.tup (fC s' _))).shown) s' else none)=_
 rw[e,Þ];refine Lh (n:=4) (W:=2*(165668+1)) (kl (n:=3) (c:=2) (adv 2) λx Z=>?_) (by decide) (by decide);simp only[É,Ý,or_false] at Z
 rcases Z with rfl|rfl
 ·exact UO ga gb
 ·exact J3 c ga gb
def WE (ha:Ft n W1 a) (hb:Ft n W2 b) (hc:Ft n W3 c):Ft (n+1) (W1+W2+W3+3) (.tup [a,b,c]):=by
 have a1:=ha.dp;have a2:=hb.dp;have Z:=hc.dp;have Y:=ha.wt;have X:=hb.wt;have W:=hc.wt;refine⟨?_,?_,?_,?_,?_,?_⟩
 ·simp only[plain,iJ,ha.pl,hb.pl,hc.pl,đ]
 ·simp only[py,bW,abr,Ŷ,ha.sh,hb.sh,hc.sh,đ]
 ·simp only[py,bW,abe,PyData.hasDictAll,ha.nd,hb.nd,hc.nd,Bool.or_self]
 ·simp only[py,bW,PyData.depth,Ļ];omega
 ·simp only[py,bW,PyData.weight,abc];omega
 ·simp only[py,bW,ada,acJ,ha.lv,hb.lv,hc.lv,đ]
def Ll (g:eO rs):Ft 2 8001 (rD rs):=kl (n:=1) (W:=888) (c:=9) (by rw[Â];exact g.hi) λx Z=>by
 obtain⟨r,Y,rfl⟩:=ò.mp Z;exact De (g.g.jI r Y)
abbrev ZQ (cs:List Ct) (ps:List Pg) (ra rb:List (List Int)):D:=.tup [.lst [rD ra,rD rb],.lst (cs.map cD),bD ps]
def Bn (e:deep s x=.lst (cs.map cD)) (ok1:∀p∈cs,p.ok) (sm:∀p∈cs,p.r<=60) (len:cs.length<=20) (hb:ef ps=true) (ga:eO ra) (gb:eO rb) :
  lB [.tup [.lst [rD ra,rD rb],x,bD ps]] s=ok (.str (py (ZQ cs ps ra rb)).shown) s:=by
 have X:Ft 4 16004 (.lst [rD ra,rD rb]):=Ft.mono (pL (n:=2) (W:=8001) (c:=2) (adv 2) λx Z=>by
  simp only[É,Ý,or_false] at Z
  rcases Z with rfl|rfl
  ·exact Ll ga
  ·exact Ll gb) (by decide) (by decide)
 have U:Ft 4 6680 (.lst (cs.map cD)):=Ft.mono (pL (n:=1) (W:=333) (c:=20) (by rw[Â];exact len) λx Z=>by
  obtain⟨p,Y,rfl⟩:=ò.mp Z;exact D9 (ok1 p Y) (sm p Y)) (by decide) (by decide)
 obtain⟨T,S⟩:=Je hb;have V:Ft 4 (24*(7116+1)) (bD ps):=kl (by rw[Â];exact T) λx Z=>by
  obtain⟨p,Y,rfl⟩:=ò.mp Z;exact(S p Y).ft
 have R:fC s [.lst [rD ra,rD rb],x,bD ps]=[.lst [rD ra,rD rb],.lst (cs.map cD),bD ps]:=by
  simp only[fC,e,ye X.pl,ye V.pl]
 show (if sW (.tup (fC s _))=true then ok (D.str (py (.tup (fC s _))).shown) s else none)=_
 rw[R,Þ];exact Lh (WE X U V) (by decide) (by decide)
end
end DI
namespace DI
open PySem L2 TK
section
variable {s:ae}
noncomputable abbrev qR (k:Nat):D:=.tup [.str "mark",.int k]
def UP {is:List Nat} {i:Nat} (h:(mP (is.map D.ai))[i]?=some d):∃x,is[i]?=some x/\d=.tup [.int i,.ai x]:=by
 unfold mP at h;rw[è] at h;obtain⟨p,Z,rfl⟩:=Ů.mp h;rw[List.getElem?_zipIdx,è,Option.map_map] at Z;obtain⟨x,Y,rfl⟩:=Ů.mp Z;exact⟨x,Y,by simp⟩
structure MkI (s s':ae) (is:List Nat) (k:Nat):Prop where
 o:∀j,(∀m,m<k->is[m]?≠some j)->s'[j]?=s[j]?
 m:∀m i,m<k->is[m]?=some i->∃L,s'[i]?=some (.lst (L++[qR m]))
def S6 {is:List Nat} (nd:is.Nodup) (h8:is.length=8) (hl:∀i∈is,∃L,s[i]?=some (.lst L)/\L.length<=1000):Wp (aK.yi [.lst (is.map D.ai)] s) λd s'=>d=.bl true/\∀j,j∉is->s'[j]?=s[j]?:=by
 have inj:∀{m n i:Nat},is[m]?=some i->is[n]?=some i->m=n:=λ{m n i} S N=>by
  have M:=(Æ.mp S).1;exact(List.getElem?_inj M nd).mp (S.trans N.symm)
 unfold aK.yi;refine iP.symm ▸ ⟨rfl,adu λR K=>?_⟩;simp only[Î,Ğ,Ï,Nat.reduceSub,ď,ē,mC];refine ads (show C7 _ _ _=ok (mP (is.map D.ai)) _ from rfl) ?_;refine Wp.iV (λi env s'=>∃y z,env=[some (.lst (is.map D.ai)),y,z]/\MkI s s' is i) _ ⟨_,_,rfl,λ_ _=>rfl,λm _ Y=>absurd Y (ac5 _)⟩ (λi d env s' V X=>?_) (λenv s' X=>?_)
 ·obtain⟨y,z,rfl,I⟩:=X
  obtain⟨x,Z,rfl⟩:=UP V;obtain⟨L,e,J⟩:=hl x (Ĥ Z);have P:s'[x]?=some (.lst L):=by
   rw[I.o x λm Y z=>by have:=inj z Z;omega];exact e
  obtain⟨a1,a2⟩:=uX (x:=qR i) P J;refine⟨_,rfl,?_⟩;simp only[VC];refine⟨a1,le_size (n:=2) (by decide),?_⟩;refine ads a2 ?_;have H:=(Æ.mp P).1;refine⟨_,_,rfl,λj U=>?_,λm u Y T=>?_⟩
  ·rw[ç (λz=>U i (ĉ i) (by rw[<- z];exact Z))]
   exact I.o j λm Y=>U m (é Y)
  ·rcases Ţ.mp Y with q|q
   ·have G:x≠u:=λz=>by subst z;have:=inj T Z;omega
    rw[ç G];exact I.m m u q T
   ·subst q
    rw[Z] at T;cases T;exact⟨L,ð H⟩
 ·obtain⟨y,z,rfl,I⟩:=X
  have F:(mP (is.map D.ai)).length=8:=by unfold mP;rw[Â,List.length_zipIdx,Â,h8]
  rw[F] at I;rw[cz];subst K;simp only[iH,dF,rV];refine ads (lg (s1:=s') (ds:=is.map D.ai) rfl) ⟨le_size (by rw[Â];omega),?_⟩;refine Wp.mono (Q:=λO t=>O=(Ù 8).map qR/\t=s') ?_ λO t Z=>?_
  ·refine uQ (λi W t=>W=(Ù i).map qR/\t=s') (is.map D.ai) ⟨rfl,rfl⟩ (λi d W t V X=>?_) λW t X=>?_
   ·obtain⟨rfl,rfl⟩:=X
    rw[è] at V;obtain⟨x,Z,rfl⟩:=Ů.mp V;have hi:=(Æ.mp Z).1;obtain⟨L,e⟩:=I.m i x (by omega) Z;refine⟨[some (.ai x)],rfl,?_⟩;refine ads (show cy _ t=ok true t from rfl) ?_;simp only[VC,ï];refine ads (show iq (.int 1) t=ok (.int (-1)) t from rfl) ?_;refine ads (Mc e) ?_;rw[abu,ì];exact⟨rfl,rfl⟩
   ·rw[Â,h8] at X
    exact X
  ·obtain⟨rfl,rfl⟩:=Z
   have E:bN [.lst (is.map D.ai)] t=ok (.int (8:Nat)) t:=by
    show ok (D.int ((is.map D.ai).length:Nat)) t=_;rw[Â,h8]
   refine ads (eV (s1:=t) (n:=8) (adt (by simp only[VC,E,Ě])) (by decide)) ⟨le_size (n:=8) (by decide),?_⟩;rw[uV];refine ads (comp_map (λi:Nat=>D.int (0+(i:Int))) (λ_=>true) qR (Ù 8) λi hi=>⟨[some (.int (0+(i:Int)))],rfl,rfl,λ_=>adt (by rw[Ŕ];simp only[VC];exact⟨le_size (n:=2) (by decide),trivial⟩)⟩) ?_;rw[List.filter_eq_self.mpr (λ_ _=>rfl)];refine ads (show bH (.lst ((Ù 8).map qR)) (.lst ((Ù 8).map qR)) t=ok (.bl true) t by kernel_rfl) ?_;refine⟨rfl,λj U=>I.o j λm _ Y=>U (Ĥ Y)⟩
end
open DI.aK
section
variable {s s':ae} {ps qs:List Pg} {p q:Pg} {a b:Nat} {bs:List (List Pg)} {env aA:Env} {st cJ:adq Fl} {d x:D} {y:aQ}
def UQ (hl:ps.length<=1000):bX (bD ps) (.tup [p.d]) s=ok (bD (ps++[p])) s:=by
 have e:bX (.tup (ps.map Pg.d)) (.tup [p.d]) s=ok (.tup (ps.map Pg.d++[p.d])) s:=by
  show bq (if gp (ps.map Pg.d) [p.d]=true then some (D.tup (ps.map Pg.d++[p.d])) else none) s=_
  rw[Þ (show gp (ps.map Pg.d) [p.d]=true from Õ (le_size (by rw[Â];show ps.length+1<=1000000;omega)))];rfl
 rw[show bD (ps++[p])=.tup (ps.map Pg.d++[p.d]) by show D.tup _=_;rw[ì];rfl];exact e
structure Bk (ps:List Pg):Prop where
 laid:Laid ps
 book:ef ps=true
def Bk.len (h:Bk ps):ps.length<=24:=by
 have:=h.book;unfold ef jo at this;simp only[È,Í] at this;exact this.1.1
theorem Bk.nil:Bk []:=⟨⟨λ_ h=>absurd h Ý,.nil⟩,by decide +kernel⟩
def UR (h:∀p∈ps,dg p=true):∀p∈ps,jZ p:=λp Z=>Jc (h p Z)
end
section
variable {s s':ae} {ps book:List Pg} {p q:Pg} {a b:Nat} {fy bs:List (List Pg)} {env aA:Env} {st cJ:adq Fl} {d x:D} {y:aQ}
def Me (h:st env s=ok (.nx aA) s'):ay st cJ env s=cJ aA s':=by unfold ay;rw[h];rfl
structure Di (s:ae) (a b:Nat) (fy:List (List Pg)) (book:List Pg):Prop where
 ha:s[a]?=some (.ins "Diary" [("books",.ai b)])
 hb:s[b]?=some (.lst ((fy++[book]).map bD))
 ln:fy.length<=500
 bk:∀ps∈fy++[book],Bk ps
def Di.last (h:Di s a b fy book):Bk book:=h.bk book (by simp)
def NB (ha:s[a]?=some (.ins "Diary" [("books",.ai b)])):nh "Diary" (.ai a) s=some (a,([("books",.ai b)]:List (Str×D))):=by
 unfold nh;dsimp only;rw[ha];dsimp only;rw[Þ (Õ rfl)]
def Mf (ha:s[a]?=some (.ins "Diary" [("books",.ai b)])):sY "Diary" "books" (.ai a) s=ok (.ai b) s:=by
 unfold sY;rw[NB ha];rfl
def Ea (ha:s[a]?=some (.ins "Diary" [("books",.ai b)])) (hm:(([("books",D.ai b)]:List (Str×D)).lookup f).isNone=true) (he:fo env s=ok (.ai a) s) (hf:fa env s=ok ds s):vF "Diary" f fn fo fa env s=fn (.ai a::ds) s:=by
 unfold vF;rw[he,de,NB ha];dsimp only;rw[hm,Þ rfl,hf,de]
def WG (h:s[b]?=some (.lst ds)):res (.ai b) s=.lst ds:=by unfold res;dsimp only;rw[h]
def WH:ar (.lst (xs++[x])) (.int (-1)) s=ok x s:=by
 rw[Yl (xs:=xs++[x]) (by simp),List.getLast_append_of_ne_nil _ (by simp)];rfl
def WI:ar (.lst ((fy++[book]).map bD)) (.int (-1)) s=ok (bD book) s:=by
 rw[ì];exact WH
def ZR (h:Di s a b fy book):ar (.ai b) (.int (-1)) s=ok (bD book) s:=by
 have e:ar (.ai b) (.int (-1)) s=ar (.lst ((fy++[book]).map bD)) (.int (-1)) s:=by
  unfold ar ig;rw[WG h.hb];rfl
 rw[e,WI]
def aa9:iq (.int 1) s=ok (.int (-1)) s:=rfl
def Yy (h:Di s a b fy book):nJ [.ai a] s=ok (bD book) s:=by
 refine adt ?_;unfold nJ;refine iP.symm ▸ ⟨rfl,?_⟩;show Wp (aM _ [some (.ai a)] s) _;rw[iH,dF,vI,bL];refine ads (Mf h.ha) ?_;rw[vI,fG];refine ads aa9 (ads (ZR h) ?_);exact⟨rfl,rfl⟩
def Dj (h:Di s a b fy book) (he:aa i env s=ok (.ai a) s):jk "Diary" "book_now" nJ (aa i) ah env s=ok (bD book) s:=by
 refine(Ea h.ha (by rfl) (ds:=[]) he rfl).trans ?_;rw[Yy h];rfl
def WJ (h:dg p=true):rg [p.d] s=ok .ax s:=by
 refine adt ?_;unfold rg;simp only[VC,KU (Jc h),h,Č,Ã,î,Ě]
def US {r:Env} {z:Option D} (h:dg p=true):cB (aw rg (af (aa 1) ah)) (z::some p.d::r) s=ok (.nx (z::some p.d::r)) s:=by
 show ak (ne (rg [p.d] s)) _=_;rw[WJ h];rfl
def WK (h:Di s a b fy book) (hl:ps.length<=100) (hp:∀p∈ps,dg p=true) (hb:ef ps=true):qY [.ai a,bD ps] s=ok .ax (s.set b (.lst ((fy++[book]++[ps]).map bD))):=by
 have e:fm (cx (aw rB (af (aa 1) ah))) [some (.ai a),some (bD ps)] s=ok false s:=by
  refine adt ?_;simp only[VC,KW (show ps.length<=1000 by omega) (UR hp),hb,Č,Ě]
 unfold qY aN;show ak (ay _ _ [some (.ai a),some (bD ps)] s) _=_;rw[Me (show bE _ _ _ [some (.ai a),some (bD ps)] s=ok (.nx [some (.ai a),some (bD ps)]) s by unfold bE;rw[e];rfl)];refine adt ?_;obtain⟨Z,Y⟩:=uX (x:=bD ps) h.hb (by rw[Â,Ð];have:=h.ln;simp;omega);rw[bw,rM,yX,vI,bL];refine ads (Mf h.ha) ⟨Z,?_⟩;simp only[bP,bL];refine ads Y ?_;rw[aR,ì (l₂:=[ps])];exact⟨rfl,rfl⟩
def WL (h:Di s a b fy book) (hp:dg p=true) (hb:ef (ST.fB cP (book++[p]))=true):qZ [.ai a,p.d] s=ok .ax (s.set b (.lst ((fy++[book]++[ST.fB cP (book++[p])]).map bD))):=by
 have V:=h.last.len;unfold qZ aN;show ak (ay _ _ [some (.ai a),some p.d] s) _=_;rw[Me (US hp)];have Z:af (eB eU (af (eB TK.uN (af (e2 bX (jk "Diary" "book_now" nJ (aa 0) ah) (cg (af (aa 1) ah))) ah)) ah)) ah [some (.ai a),some p.d] s=ok [bD (ST.fB cP (book++[p]))] s:=by
  refine adt ?_;rw[bZ,lM,bZ,lM,bZ,dF];refine ads (Dj h rfl) ?_;simp only[lC,bZ,cw,bP,bL];refine⟨le_size (n:=1) (by decide),?_⟩;refine ads (UQ (show book.length<=1000 by omega)) ?_;refine ads (show uN [bD (book++[p])] s=ok (.lst ((ST.fB cP (book++[p])).map Pg.d)) s from ?_) ?_
  ·show (if ((book++[p]).map Pg.d).length<64 then bq (pR ((book++[p]).map Pg.d)) s else none)=_
   rw[Â,Þ (by rw[Ð];show book.length+1<64;omega),yr];rfl
  exact⟨_,_,rfl,rfl,rfl⟩
 have Y:∀q∈ST.fB cP (book++[p]),dg q=true:=λq X=>by
  rcases ñ.mp ((ST.rn _).mem_iff.mp X) with h'|h'
  ·exact h.last.laid.pg q h'
  ·rw[Ü.mp h'];exact hp
 unfold cB;show ak (ak (vF "Diary" "keep" (λW s=>ne (qY W s)) (aa 0) (af _ ah) _ s) _) _=_;rw[Ea h.ha (by rfl) rfl Z];show ak (ak (ne (qY [.ai a,bD _] s)) _) _=_;rw[WK h (by rw[(ST.rn _).length_eq,Ð];show book.length+1<=100;omega) Y hb];rfl
def Yz:zt "Diary" ug env s=ok (.ai s.length) (s++[.ins "Diary" [("books",.ai (s.length+1))],.lst [.tup []]]):=by
 have e:ug [.ai s.length] (s++[.ins "Diary" []])=ok .ax (s++[.ins "Diary" [("books",.ai (s.length+1))],.lst [.tup []]]):=by
  unfold ug aN;show ak (zr _ _ _ _ [some (.ai s.length)] (s++[.ins "Diary" []])) _=_;unfold zr;have e1:eNew (af (cg ah) ah) [some (.ai s.length)] (s++[.ins "Diary" []])=ok (.ai (s.length+1)) (s++[.ins "Diary" [],.lst [.tup []]]):=by
   refine adt ?_;simp only[vi,lC,bZ,cw];refine⟨le_size (n:=0) (by decide),le_size (n:=1) (by decide),?_,?_⟩
   ·simp
   ·simp
  rw[e1,de];show ak (ak (ok (D.ai s.length) _) _) _=_;rw[de];have e2:nh "Diary" (.ai s.length) (s++[.ins "Diary" [],.lst [.tup []]])=some (s.length,[]):=by
   unfold nh;dsimp only;rw[ă (adv _),Nat.sub_self];rw[List.getElem?_cons_zero];dsimp only;rw[Þ (Õ rfl)]
  rw[e2];dsimp only;rw[Þ (by decide)];have Z:∀(x y z:Cell),List.set (s++[x,y]) s.length z=s++[z,y]:=λx y z=>by simp
  rw[Z];rfl
 unfold zt;rw[e];rfl
def WM (s:ae):Di (s++[.ins "Diary" [("books",.ai (s.length+1))],.lst [.tup []]]) s.length (s.length+1) [] []:=by
 refine⟨by simp,?_,by decide,λps Z=>?_⟩
 ·rw[ă (by omega),show s.length+1-s.length=1 by omega]
  rfl
 ·have:ps=[]:=by simpa using Z
  subst this;exact Bk.nil
def UT {m d:Int} {u v:List Int} (hp:dg (.made m d u v)=true) (ha:∀x∈u,x∉v):ef [.made m d u v]=true:=by
 have U:Laid [.made m d u v]:=⟨λq Y=>by rw[Ü.mp Y];exact hp,χ _ _⟩;rw[<- Lf U];unfold iF;refine È _ _ |>.mpr ⟨rfl,õ.mpr λV _=>õ.mpr λk _=>Bl.mpr ?_⟩;intro x y T _ _ X;exfalso;have e1:mi V k (.made m d u v)=true:=by
  have:=ċ (show decide (_∈_)=true from T);obtain⟨q,Y,_⟩:=ò.mp this;obtain⟨W,Z⟩:=ÿ.mp Y;rw[Ü.mp W] at Z;exact Z
 rcases X with X | ⟨_,X⟩
 ·have e2:mj V k (.made m d u v)=true:=by
   have:=ċ (show decide (_∈_)=true from X);obtain⟨q,Y,_⟩:=ò.mp this;obtain⟨W,Z⟩:=ÿ.mp Y;rw[Ü.mp W] at Z;exact Z
  simp only[mi,mj,È,Í] at e1 e2;exact ha k e1.2 e2.2
 ·have:=ċ (show decide (_∈_)=true from X)
  obtain⟨q,Y,_⟩:=ò.mp this;obtain⟨W,Z⟩:=ÿ.mp Y;rw[Ü.mp W] at Z;cases Z
end
def eq_str:bH (.str x) (.str x) s=ok (.bl true) s:=by
 unfold bH gk;simp[res,i7,beq]
section
variable {s s':ae} {ps book:List Pg} {h l:List Int} {ra rb:List (List Int)} {jc a b:Nat} {cs:List Ct} {fy:List (List Pg)} {v0 v1 v2 v5:Option D}
def S7 (D:Di s a b [] []) (c:kY s jc cs) (jb:jc≠b) (ab:a≠b) (hb:ef ps=true) (hL:Laid ps) :
  Wp (bE (ei (aY (e2 dB (aa 3) (cg ah))) (aY (e2 bH (e2 ar (e2 ar (aa 3) (eC (.int 0))) (eC (.int 0))) (eC (.str "made"))))) (cB (jk "Diary" "tell" qZ (aa 6) (af (e2 ar (aa 3) (eC (.int 0))) ah))) bM [v0,v1,v2,some (bD ps),some (.ai jc),v5,some (.ai a),none,none,none,none,none,none] s)
   λfl s'=>fl=.nx [v0,v1,v2,some (bD ps),some (.ai jc),v5,some (.ai a),none,none,none,none,none,none]/\∃fy bk,Di s' a b fy bk/\kY s' jc cs:=by
 cases ps with
 |nil =>
  simp only[VC];refine⟨le_size (n:=0) (by decide),?_⟩;refine ads (show dB (bD []) (.tup []) s=ok (.bl false) s from rfl) ?_;simp only[VC,Ã,î];exact⟨_,_,D,c⟩
 |cons p r =>
  have X:∀s,ar (bD (p::r)) (.int 0) s=ok p.d s:=λ_=>by simp[ar,ig,res,c9,e9,bq]
  have Z:=hL.pg p Ñ;simp only[VC];refine⟨le_size (n:=0) (by decide),?_⟩;refine ads (show dB (bD (p::r)) (.tup []) s=ok (.bl true) s from WA) ?_;simp only[VC,ï,X]
  cases p with
  |cC m d k =>
   refine ads (show ar (Pg.d (.cC m d k)) (.int 0) s=ok (.str "mended") s from rfl) ?_;refine ads (show bH (.str "mended") (.str "made") s=ok (.bl false) s from rfl) ?_;simp only[VC,Ã,î];exact⟨_,_,D,c⟩
  |made m d u v =>
   refine ads (show ar (Pg.d (.made m d u v)) (.int 0) s=ok (.str "made") s from rfl) ?_;refine ads (show bH (.str "made") (.str "made") s=ok (.bl true) s from rfl) ?_;simp only[VC,ï,X];have U:∀x∈u,x∉v:=(K6 Z).apart;have W:=UT Z U;have T:ST.fB cP (([]:List Pg)++[.made m d u v])=[.made m d u v]:=rfl;have V:=WL D Z W;rw[T] at V;have em:jk "Diary" "tell" qZ (aa 6) (af (e2 ar (aa 3) (eC (.int 0))) ah) [v0,v1,v2,some (bD (.made m d u v::r)),some (.ai jc),v5,some (.ai a),none,none,none,none,none,none] s=ok .ax (s.set b (.lst ((([]:List (List Pg))++[[]]++[[Pg.made m d u v]]).map bD))):=by
    refine(Ea D.ha (by rfl) (ds:=[Pg.d (.made m d u v)]) rfl (adt (by simp only[bZ,cw,dF,bP,bL,fG,X,aR,Ě]))).trans ?_;rw[V];rfl
   refine ads em ?_;have S:=(Æ.mp D.hb).1;refine⟨[[]],[.made m d u v],⟨by rw[ç (ŕ ab)];exact D.ha,ð S,by decide,λR Y=>?_⟩,⟨by rw[ç (ŕ jb)];exact c.at_,c.ok,c.sm,c.len,c.lo,c.hi⟩⟩;simp only[ď,ē,É,Ý,or_false] at Y
   rcases Y with rfl|rfl
   ·exact Bk.nil
   ·exact⟨⟨λq Y=>by rw[Ü.mp Y];exact Z,χ _ _⟩,W⟩
def J4 (T:ToldN s s' is (km ps h l ra rb)):is.length=4:=by
 have:=Ķ List.length T.at_;rw[Â,Â] at this;exact this
def Jj (ga:eO ra) (gb:eO rb) (T:ToldN s s' is (km ps h l ra rb)) (hi:i∈is):∃L,s'[i]?=some (.lst L)/\L.length<=1000:=by
 obtain⟨L,hL,e⟩:=T.get hi;refine⟨L,e,?_⟩;have Z:(nD (dG ra)).length<=1000:=by rw[Â];exact Ú (Bm ra).1 (Ú ga.hi (by decide))
 have Y:(nD (dG rb)).length<=1000:=by rw[Â];exact Ú (Bm rb).1 (Ú gb.hi (by decide))
 have X:(fN ps h l).length<=1000:=Ú (ze ps h l) (by decide);have W:(fN ps [] []).length<=1000:=Ú (ze ps [] []) (by decide);unfold km at hL
 rcases É.mp hL with z|hL
 ·rw[z];exact Z
 rcases É.mp hL with z|hL
 ·rw[z];exact Y
 rcases É.mp hL with z|hL
 ·rw[z];exact X
 ·rw[Ü.mp hL];exact W
end
def UU (ns:List Int) (hn:ns.length<=63):∃s,aK.zu [.bV ns] []=some (.ok (.bl true),s):=by
 have h:Wp (aK.zu [.bV ns] []) λd s'=>d=.bl true:=by
  unfold aK.zu;refine iP.symm ▸ ⟨rfl,adu λR Z=>?_⟩;simp only[Î,Ğ,Ï,Nat.reduceSub,ď,ē,iI,wp_call,bZ,cw,bL,fG,iu,ø,ô];refine(Wg (s:=[]) (Int.le_refl 0)).mono λd s1 Y=>?_;obtain⟨rfl,g1,c,rfl⟩:=Y;rw[cz];subst Z;refine adu λR Z=>?_;simp only[uT,bZ,cw,pH,wp_call,bL,bP,fG];generalize ([]:ae)++[c]=s1 at g1;refine(L6 g1 (by decide) (by decide)).mono λd s2 Y=>?_;obtain⟨H,rfl,a1,a9,ga,g2,x2⟩:=Y;refine(L6 g2 (by decide) (by decide)).mono λd s3 Y=>?_;obtain⟨G,rfl,b1,b9,gb,g3,x3⟩:=Y;refine⟨le_size (n:=2) (by decide),?_⟩;refine(gj g3 (by decide) (by decide)).mono λd s4 Y=>?_;obtain⟨n,rfl,n0,n1,g4,x4⟩:=Y;refine(Yu g4 n0 (by omega)).mono λd s5 Y=>?_;obtain⟨ps,rfl,hb,hL,g5,x5⟩:=Y;refine⟨_,_,rfl,?_⟩;simp only[ø,ô,cz];have ha:eO H:=⟨ga,a1,a9⟩;have U:eO G:=⟨gb,b1,b9⟩;clear x2 x3 x4 x5 ga gb a1 a9 b1 b9;subst Z;refine adu λR Z=>?_;refine Wp.ZM ?_;simp only[bZ,cw,vi,lC,wp_call,bL,bP,fG];refine⟨le_size (n:=3) (by decide),?_⟩;refine(gj g5 (by decide) (by decide)).mono λd M Y=>?_;obtain⟨t,rfl,t0,t1,m,x6⟩:=Y;refine⟨le_size (n:=3) (by decide),le_size (n:=2) (by decide),?_⟩;have gy:[D.tup [.int 1,.int 2,.int 3],D.tup [.int 0,.int t,.int 23]]=[(⟨1,2,3⟩:Ct),⟨0,t,23⟩].map cD:=rfl;rw[gy];have S:kY (M++[.lst ([(⟨1,2,3⟩:Ct),⟨0,t,23⟩].map cD)]) M.length [⟨1,2,3⟩,⟨0,t,23⟩]:=by
   refine⟨by simp,λp Q=>?_,λp Q=>?_,show 2<=20 by decide,?_,?_⟩
   ·simp only[É,Ý,or_false] at Q
    rcases Q with rfl|rfl
    ·exact⟨by decide,by decide,by decide,by decide,by decide,by decide⟩
    ·exact⟨show (0:Int)<=0 by decide,show (0:Int)<1000 by decide,t0,t1,show (0:Int)<=23 by decide,show (23:Int)<24 by decide⟩
   ·simp only[É,Ý,or_false] at Q
    rcases Q with rfl|rfl
    ·decide
    ·exact show (0:Int)<=60 by decide
   ·simp[sh];omega
   ·simp[sh];omega
  have A:Sf (M++[.lst ([(⟨1,2,3⟩:Ct),⟨0,t,23⟩].map cD)]) ([]:ae).length:=m.app _;have F:[(⟨1,2,3⟩:Ct),⟨0,t,23⟩].length=2:=rfl;generalize [(⟨1,2,3⟩:Ct),⟨0,t,23⟩]=cs at S A F |-;have jl:M.length<(M++[Cell.lst (cs.map cD)]).length:=by simp
  have j0:([]:ae).length<M.length:=m.lt;generalize M++[Cell.lst (cs.map cD)]=s7 at S A jl;generalize M.length=P at S jl j0;refine(Lc A).mono λd T Y=>?_;obtain⟨h,l,rfl,w,hl,t6,g8,k⟩:=Y;refine ads Yz ?_;have C:=WM T;have l8:=k.len;have J:kY (T++[.ins "Diary" [("books",.ai (T.length+1))],.lst [.tup []]]) P cs:=⟨(Kp.app _ _).get (k.get S.at_ (by omega)),S.ok,S.sm,S.len,S.lo,S.hi⟩;generalize T++[Cell.ins "Diary" [("books",.ai (T.length+1))],.lst [.tup []]]=s9 at C J;have ja:P≠T.length:=by omega
  have jb:P≠T.length+1:=by omega
  have ab:T.length≠T.length+1:=by omega
  generalize T.length+1=b at C jb ab;generalize T.length=a at C ja ab |-;refine⟨_,_,_,rfl,?_⟩;simp only[ø,ô,cz];subst Z;refine adu λR Z=>?_;refine(S7 C J jb ab hb hL).mono λfl Ox Y=>?_;obtain⟨rfl,fy,bk,B,X⟩:=Y;rw[cz];subst Z;clear C J S A g8 k l8 m x6 g5 g1 g2 g3 g4;have hs:Sh h l:=⟨w,hl,t6⟩;have Oy:=Je hb;have g:ps.length<=1000:=by have:=Oy.1;omega
  have f:∀p∈ps,jZ p:=λp Q=>(Oy.2 p Q).jZ;refine adu λR Z=>?_;simp only[uT,bZ,cw];refine ads (Dj B rfl) ?_;simp only[lM,lC,bZ,cw,bL,bP];refine⟨le_size (n:=3) (by decide),?_⟩;refine ads (Bn (BN X.at_) X.ok X.sm X.len hb ha U) ?_;refine⟨_,_,rfl,?_⟩;simp only[ø,ô,cz];subst Z;refine adu λR Z=>?_;simp only[iI,wp_call,bZ,cw,bL,bP,iu,ø,ô];refine(Dh ha U X g f hb hs w).mono λd s11 Y=>?_;obtain⟨E,rfl,O⟩:=Y;rw[cz];subst Z;refine adu λR Z=>?_;simp only[iI,lM,bZ,cw,bL,bP,iu,ø,ô];refine ads (BO O X ha U) ?_;rw[cz];subst Z;refine adu λR Z=>?_;simp only[iI,wp_call,bZ,cw,bL,bP,iu,ø,ô];have J:=X.kp O.kp;refine(Dh ha U J g f hb hs w).mono λd v Y=>?_;obtain⟨u,rfl,N⟩:=Y;rw[cz];subst Z;refine adu λR Z=>?_;simp only[mJ,yV,mI,dF,lM,bZ,cw,bL,bP];refine ads (BO N J ha U) ?_;refine ads ne_str ?_;simp only[jO,Ã,î,lC,bZ,cw,bL,bP];have r:=J.kp N.kp;refine⟨le_size (n:=3) (by decide),?_⟩;refine ads (Bn (BN r.at_) r.ok r.sm r.len hb ha U) ?_;refine ads ne_str ?_;simp only[jO,Ã,î,KL,si,wp_call,bZ,cw,dF,bL,bP,fG];refine ads (show ar (.tup [.lst (E.map D.ai),.lst (jm cs h H G)]) (.int 0) v=ok (.lst (E.map D.ai)) v from rfl) ?_;refine ads (show ar (.tup [.lst (u.map D.ai),.lst (jm cs h H G)]) (.int 0) v=ok (.lst (u.map D.ai)) v from rfl) ?_;have t1:=J4 O;have t2:=J4 N;refine ads (wc (by rw[Â,Â,t1,t2];decide)) ?_;rw[<- ì];have AD:∀i∈E,i<s11.length:=λi hi=>by
   obtain⟨L,_,e⟩:=O.get hi;exact(Æ.mp e).1
  have nd:(E++u).Nodup:=ŧ.mpr ⟨O.nd,N.nd,λx hx y hy e=>by
   have:=AD x hx;have:=N.ge y hy;omega⟩
  have out:∀{j:Nat},j<Ox.length->j∉E++u:=λ{j} hj z=>by
   have l1:=O.kp.len
   rcases ñ.mp z with z|z
   ·have:=O.ge j z;omega
   ·have:=N.ge j z;omega
  have K:=O.kp.trans N.kp;refine(S6 nd (by rw[Ð,t1,t2]) (λi hi=>by
   rcases ñ.mp hi with z|z
   ·exact Jj ha U (O.more N.kp) z
   ·exact Jj ha U N z)).mono λd Gr Y=>?_
  obtain⟨rfl,Oz⟩:=Y;have st:∀{j:Nat} {c:Cell},Ox[j]?=some c->Gr[j]?=some c:=λ{j c} e=>by
   rw[Oz j (out (Æ.mp e).1)];exact K.get e
  have Gs:kY Gr P cs:=⟨st X.at_,X.ok,X.sm,X.len,X.lo,X.hi⟩;have q:Di Gr a b fy bk:=⟨st B.ha,st B.hb,B.ln,B.bk⟩;clear st out K nd AD Oz;simp only[pq,Č,Ã,î,kj];rw[cz];subst Z;refine adu λR Z=>?_;simp only[mJ,yV,mI,dF,lM,bZ,cw,wp_call,bL,bP];refine(Dh ha U Gs g f hb hs w).mono λd OA Y=>?_;obtain⟨i3,rfl,o⟩:=Y;refine ads (BO o Gs ha U) ?_;refine ads ne_str ?_;simp only[jO,Ã,î];have D4:Di OA a b fy bk:=⟨o.kp.get q.ha,o.kp.get q.hb,q.ln,q.bk⟩;refine ads (Dj D4 rfl) ?_;refine ads Wz ?_;simp only[jO,Ã,î,kj];rw[cz];subst Z;refine adu λR Z=>?_;have I:=Gs.kp o.kp;simp only[iI,wp_call,bZ,cw,bL,bP,Ji I.at_ I.ok I.len I.lo (show (cs.map sh).sum<=479999 by have:=I.hi;omega),aR,iu,ø,ô];rw[cz];subst Z;refine adu λR Z=>?_;obtain⟨p1,p2⟩:=uX (x:=cD ⟨0,0,1⟩) I.at_ (by rw[Â,F];decide);simp only[rM,yX,bL,bP,lC,bZ,cw,fG];refine⟨p1,le_size (n:=3) (by decide),ads p2 ?_⟩;rw[cz];subst Z;have aS:=(Æ.mp I.at_).1;generalize hS:OA.set P (.lst (cs.map cD++[cD ⟨0,0,1⟩]))=V;have hj:V[P]?=some (.lst (cs.map cD++[cD ⟨0,0,1⟩])):=by rw[<- hS];exact ð aS
  have esl:∀env:Env,env[4]?=some (some (.ai P))->i9 (aa 4) i8 (iT (eC (.int 2))) env V=ok (.lst (cs.map cD)) V:=λenv he=>by
   refine adt ?_;have e4:aa 4 env V=ok (.ai P) V:=by unfold aa;rw[he]
   have er:res (.ai P) V=.lst (cs.map cD++[cD ⟨0,0,1⟩]):=by unfold res;simp only[hj]
   rw[zx,e4,aR,yY,uU (i:=2) rfl];refine ads (show lA (.ai P) none (some 2) V=ok (.lst (cutD (cs.map cD++[cD ⟨0,0,1⟩]) none (some ((2:Nat):Int)))) V by unfold lA;rw[er];rfl) ⟨?_,rfl⟩;rw[JR (by rw[Ð,Â,F];decide),List.take_append_of_le_length (by rw[Â,F];decide),acm (by rw[Â,F];decide)]
  simp only[iH,Co,dF,bL,bP,fG];refine ads (show ar (.tup [.lst (E.map D.ai),.lst (jm cs h H G)]) (.int 1) V=ok (.lst (jm cs h H G)) V from rfl) ?_;refine ads (show ar (.lst (jm cs h H G)) (.int 0) V=ok (cD (gR (cs.map sh).sum)) V from rfl) ?_;refine ads (show bH (cD (gR (cs.map sh).sum)) (cD (gR (cs.map sh).sum)) V=ok (.bl true) V by unfold bH gk;simp[res,i7,beq,eD,lay,DI.cU,dep,c8]) ?_;simp only[jO,ï,dF,lM,lC,bZ,cw,bL,bP];refine ads (esl _ rfl) ?_;refine⟨le_size (n:=3) (by decide),?_⟩;have fc:plain (.lst (cs.map cD))=true:=(pL (n:=1) (W:=333) (c:=20) (ds:=cs.map cD) (by rw[Â,F];decide) λx hx=>by
   obtain⟨p,Q,rfl⟩:=ò.mp hx;exact D9 (X.ok p Q) (X.sm p Q)).pl
  refine ads (Bn (ye fc) X.ok X.sm X.len hb ha U) ?_;refine ads (show bH (.str _) (.str _) V=ok (.bl true) V from eq_str) ?_;rfl
 obtain⟨d,s,e,rfl⟩:=h;exact⟨s,e⟩
open PySem.W
noncomputable def rP (K:ĥ) (c:Str) (fs:List Str):Bool:=match nsIn K â c with
 |some (some (.ref C))=>plainGet K C Str.empty&&hasDictIn K C&&plainOver K C&&(match findIn K (.ref C) "__setattr__" with|some (some (.builtin x))=>decide (x="object.__setattr__") | _=>false)&&fs.all (λf=>match findIn K (.ref C) f with|some none=>true | _=>false)&&makesIn K C&&keepIn K (.ref C)
 |_=>false
section
variable {K:ĥ} {c m q f:Str} {fs ps:List Str} {st:ado} {h:œ} {mg:Str->Option Ç}
def Ff (e:rP K c fs=true):∃C,nsIn K â c=some (some (.ref C))/\jz K C/\(∀f∈fs,mG K C f)/\makesIn K C=true/\keepIn K (.ref C)=true:=by
 unfold rP at e;split at e
 ·rename_i C Y
  simp only[È,õ] at e;obtain⟨⟨⟨⟨⟨⟨X,W⟩,V⟩,Z⟩,U⟩,T⟩,S⟩:=e;refine⟨C,Y,⟨X,W,V,?_⟩,λf R=>?_,T,S⟩
  ·split at Z
   ·rename_i x Q
    rw[Q,ċ Z]
   ·cases Z
  ·have q:=U f R
   unfold mG;split at q
   ·assumption
   ·cases q
 ·cases e
def ZS (e:rP K c fs=true) (hf:f∈fs):zS K c f:=by
 obtain⟨C,Z,Y,X,_⟩:=Ff e;exact⟨C,Z,Y,X f hf⟩
def Dm (K:ĥ) (c m q:Str) (st:ado):Prop:=∃(C f:ä) (Z:Ç) (Y:Option ä) (X:Array (Option Ç)) (kV W pm:Ç) (an:Option ä) (cd V:Ç),nsIn K â c=some (some (.ref C))/\findIn K (.ref C) m=some (some (.ref f))/\K.lookup f=some ⟨Z,Y,.func (fnOf m q (kg st) (ik st) (dJ st) .none kV W pm an cd V),X⟩/\codeIn K cd q=true/\keepIn K (.ref f)=true/\isFn K (.ref f)=true
def ZT {C f:ä} {oc:Ç} {od:Option ä} {sl:Array (Option Ç)} {kV dc pm:Ç} {an:Option ä} {cd ct:Ç} (a:nsIn K â c=some (some (.ref C))) (b:findIn K (.ref C) m=some (some (.ref f))) (l:K.lookup f=some ⟨oc,od,.func (fnOf m q (kg st) (ik st) (dJ st) .none kV dc pm an cd ct),sl⟩) (d:codeIn K cd q=true) (k:keepIn K (.ref f)=true) (i:isFn K (.ref f)=true):Dm K c m q st:=⟨C,f,oc,od,sl,kV,dc,pm,an,cd,ct,a,b,l,d,k,i⟩
def Eb (e:rP K c fs=true) (D:Dm K c m q st) (hb:∀(kV doc pm:Ç) (an:Option ä) (bO ct:Ç) (us:List Ç),us.length=ps.length->bindArgs (fnOf m q (kg st) (ik st) (dJ st) .none kV doc pm an bO ct) ⟨us,[]⟩=pure (ps.zip us)):GM K c m q st ps:=by
 obtain⟨C,f,X,W,V,kV,U,pm,an,cd,ct,a,b,l,d,k,i⟩:=D;obtain⟨T,Z,Y,_⟩:=Ff e;rw[a] at Z;cases Z;have F:=yN (st:=st) l d k;exact⟨C,f,_,a,Y,⟨b,i,k⟩,⟨F,F.binds hb⟩⟩
def ZU (X:K.In h) (G:h.Ns â mg) (e:rP K c fs=true) (D:Dm K c "__init__" q st) (hb:∀(kV doc pm:Ç) (an:Option ä) (bO ct:Ç) (us:List Ç),us.length=ps.length->bindArgs (fnOf "__init__" q (kg st) (ik st) (dJ st) .none kV doc pm an bO ct) ⟨us,[]⟩=pure (ps.zip us)):GK K mg c q st ps:=by
 obtain⟨C,f,V,U,T,kV,S,pm,an,cd,ct,a,b,l,d,k,i⟩:=D;obtain⟨R,Z,_,_,Y,W⟩:=Ff e;rw[a] at Z;cases Z;have F:=yN (st:=st) l d k;exact⟨C,f,_,a,mg_of X G a,⟨Y,b,i,W⟩,⟨F,F.binds hb⟩⟩
end
end DI
end
namespace DI.aK
open PySem L2 DI
def Df (K:ĥ) (x:Str) (st:ado):Prop:=∃(f:ä) (Z:Ç) (Y:Option ä) (X:Array (Option Ç)) (kV W pm:Ç) (an:Option ä) (cd V:Ç),ù K â x=some (some (.ref f))/\K.lookup f=some ⟨Z,Y,.func (ι x x (kg st) (ik st) (dJ st) .none kV W pm an cd V),X⟩/\acz K cd x=true/\ź K (.ref f)=true
def ZV {K:ĥ} {x:Str} {st:ado} {f:ä} {oc:Ç} {od:Option ä} {sl:Array (Option Ç)} {kV dc pm:Ç} {an:Option ä} {cd ct:Ç} (a:ù K â x=some (some (.ref f))) (l:K.lookup f=some ⟨oc,od,.func (ι x x (kg st) (ik st) (dJ st) .none kV dc pm an cd ct),sl⟩) (c:acz K cd x=true) (k:ź K (.ref f)=true):Df K x st:=⟨f,oc,od,sl,kV,dc,pm,an,cd,ct,a,l,c,k⟩
def jq {K:ĥ} {x:Str} {i:Int} {t:Tok} (e:ù K â x=some (some (.int i t))):∃t,ù K â x=some (some (.int i t)):=⟨t,e⟩
def bc {K:ĥ} {h:œ} {mg:Str->Option Ç} {x:Str} {st:ado} {ps:List Str} (X:K.In h) (G:h.Ns â mg) (D:Df K x st) (hb:∀(kV doc pm:Ç) (an:Option ä) (bO ct:Ç) (us:List Ç),us.length=ps.length->bindArgs (ι x x (kg st) (ik st) (dJ st) .none kV doc pm an bO ct) ⟨us,[]⟩=pure (ps.zip us)):∃f fd,Gd K mg x st ps f fd:=by
 obtain⟨f,Z,Y,W,kV,V,pm,an,cd,ct,a,l,c,k⟩:=D;have F:=yN (st:=st) l c k;exact⟨f,_,İ X G a,F,F.binds hb⟩
def cm {P:List Ç->Prop} (h:∀a0:Ç,P [a0]) (us:List Ç) (hl:us.length=1):P us:=by
 cases us with
 |nil=>simp at hl
 |cons a0 Z =>
 cases Z with
 |cons _ _=>simp at hl
 |nil =>
 exact h a0
def fP {P:List Ç->Prop} (h:∀a0 a1:Ç,P [a0,a1]) (us:List Ç) (hl:us.length=2):P us:=by
 cases us with
 |nil=>simp at hl
 |cons a0 Z =>
 cases Z with
 |nil=>simp at hl
 |cons a1 Y =>
 cases Y with
 |cons _ _=>simp at hl
 |nil =>
 exact h a0 a1
def og {P:List Ç->Prop} (h:∀a0 a1 a2:Ç,P [a0,a1,a2]) (us:List Ç) (hl:us.length=3):P us:=by
 cases us with
 |nil=>simp at hl
 |cons a0 Z =>
 cases Z with
 |nil=>simp at hl
 |cons a1 Y =>
 cases Y with
 |nil=>simp at hl
 |cons a2 X =>
 cases X with
 |cons _ _=>simp at hl
 |nil =>
 exact h a0 a1 a2
def Ec {P:List Ç->Prop} (h:∀a0 a1 a2 a3:Ç,P [a0,a1,a2,a3]) (us:List Ç) (hl:us.length=4):P us:=by
 cases us with
 |nil=>simp at hl
 |cons a0 Y =>
 cases Y with
 |nil=>simp at hl
 |cons a1 X =>
 cases X with
 |nil=>simp at hl
 |cons a2 W =>
 cases W with
 |nil=>simp at hl
 |cons a3 Z =>
 cases Z with
 |cons _ _=>simp at hl
 |nil =>
 exact h a0 a1 a2 a3
def all_mk {P:ó} {w:Ĕ} {K:ĥ} {h:œ} {mg:Str->Option Ç} {fa:ä} (X:K.In h) (G:h.Ns â mg) (hfa:mg "law"=some (.ref fa))
  (d0:Df K "_law_cell_at" (top 79))
  (d1:Df K "_law_state" (top 80))
  (d2:Df K "count_of" (top 32))
  (d3:Df K "is_number" (top 15))
  (d4:Df K "is_below" (top 16))
  (d5:Df K "is_count" (top 29))
  (d6:Df K "are_counts" (top 30))
  (d7:Df K "sheets_of" (top 31))
  (d8:Df K "summed" (top 28))
  (d9:Df K "is_rising" (top 20))
  (Gv:Df K "is_mark" (top 17))
  (Gw:Df K "are_marks" (top 37))
  (Gx:Df K "are_laid_marks" (top 41))
  (Gy:Df K "need_heap" (top 63))
  (Gz:Df K "has_all" (top 40))
  (GA:Df K "is_strange" (top 64))
  (GB:Df K "most_strangers" (top 65))
  (GC:Df K "needed" (top 62))
  (GD:Df K "are_apart" (top 39))
  (GF:Df K "is_sheet" (top 38))
  (GI:Df K "is_mould" (top 18))
  (GJ:Df K "is_day" (top 19))
  (GN:Df K "is_page" (top 42))
  (GO:Df K "are_laid" (top 43))
  (GP:Df K "days_seen" (top 48))
  (GQ:Df K "days_mended" (top 49))
  (GR:Df K "is_any_behind" (top 47))
  (GS:Df K "clashes" (top 46))
  (GU:Df K "faults_of" (top 45))
  (GV:Df K "is_book" (top 44))
  (GW:Df K "need_book" (top 53))
  (kU:Df K "need_sheet" (top 51))
  (GX:Df K "stretches" (top 77))
  (GY:Df K "agree" (top 76))
  (GZ:Df K "days_present" (top 74))
  (G0:Df K "days_absent" (top 75))
  (G1:Df K "marks_on" (top 73))
  (G2:Df K "sure_sheets" (top 72))
  (G3:Df K "places_of" (top 71))
  (G4:Df K "fewest" (top 58))
  (G5:Df K "may_follow" (top 68))
  (G6:Df K "find_behind" (top 67))
  (G7:Df K "places_ahead" (top 66))
  (G8:Df K "row_from" (top 69))
  (G9:Df K "rows_of" (top 59))
  (Ha:Df K "strangers_of" (top 60))
  (Hb:Df K "need_marks" (top 50))
  (Hc:Df K "more_by" (top 61))
  (Hd:Df K "_law_all" (top 90))
  (He:Df K "_law_take" (top 81))
  (Hf:Df K "_law_sheet" (top 83))
  (Hg:Df K "_law_page" (top 84))
  (Hh:Df K  adI (top 85))
  (Hi:Df K "_law_is_book" (top 86))
  (Hj:Df K "_law_book" (top 87))
  (Hk:Df K "_law_marks" (top 82))
  (Hl:Df K "_law_heap" (top 88))
  (Hm:Df K "_law_marked" (top 89))
  (Hn:Df K "need_page" (top 52))
  (ph:rP K "Diary" ["books"]=true)
  (Ho:Dm K "Diary" "keep" "Diary.keep" (j7 (top 55) 5))
  (Hq:Dm K "Diary" "book_now" "Diary.book_now" (j7 (top 55) 4))
  (Hr:Dm K "Diary" "tell" "Diary.tell" (j7 (top 55) 1))
  (Hs:Dm K "Diary" "__init__" "Diary.__init__" (j7 (top 55) 0))
  (dl:Df K "law" (top 91))
  (Cz:∃t,ù K â "MARKS"=some (some (.int (8) t)))
  (BP:∃t,ù K â "MOULDS"=some (some (.int (4) t)))
  (Dk:∃t,ù K â "DAYS"=some (some (.int (31) t)))
  (CB:∃t,ù K â "QUIRE"=some (some (.int (24) t)))
  (BQ:∃t,ù K â "QUIRES"=some (some (.int (20) t)))
  (Dl:∃t,ù K â "REAM"=some (some (.int (480) t)))
  (CC:∃t,ù K â "REAMS"=some (some (.int (1000) t)))
  (Dp:∃t,ù K â "MOST"=some (some (.int (479999) t)))
  (BR:∃t,ù K â "COUNTS"=some (some (.int (20) t)))
  (CD:∃t,ù K â "PAGES"=some (some (.int (24) t)))
  (Ed:∃t,ù K â "HAS"=some (some (.int (0) t)))
  (CF:∃t,ù K â "LACKS"=some (some (.int (1) t)))
  (Dq:∃t,ù K â "HEAP"=some (some (.int (9) t)))
  (Ee:ù K â "all"=some none)
  (Ef:ù K â "any"=some none)
  (Dr:ù K â "bool"=some none)
  (A3:ù K â "enumerate"=some none)
  (Eg:ù K â "int"=some none)
  (AX:ù K â "isinstance"=some none)
  (Eh:ù K â "len"=some none)
  (Ds:ù K â "list"=some none)
  (Ei:ù K â "max"=some none)
  (CG:ù K â "range"=some none)
  (Dt:ù K â "repr"=some none)
  (Ba:ù K â "reversed"=some none)
  (Ej:ù K â "set"=some none)
  (BS:ù K â "sorted"=some none)
  (El:ù K â "sum"=some none)
  (CH:ù K â "tuple"=some none)
  (Em:ù K â "zip"=some none)
  : ∃fd:ő,(∀(s:Å) (v:Ç),BindsTo s fd ⟨[v],[]⟩ [(ady,v)])/\∀base:œ,K.In base->base.Ns â mg->dH P w K mg base fK 19 fa fd [ady] (zp K):=by
 have g0:=bc (ps:=[ady,adC]) X G d0 λ_ _ _ _ _ _=>fP λ_ _=>rfl;have g1:=bc (ps:=[ady,adC]) X G d1 λ_ _ _ _ _ _=>fP λ_ _=>rfl;have g2:=bc (ps:=["many"]) X G d2 λ_ _ _ _ _ _=>cm λ_=>rfl;have g3:=bc (ps:=["thing"]) X G d3 λ_ _ _ _ _ _=>cm λ_=>rfl;have g4:=bc (ps:=["thing","many"]) X G d4 λ_ _ _ _ _ _=>fP λ_ _=>rfl;have g5:=bc (ps:=["thing"]) X G d5 λ_ _ _ _ _ _=>cm λ_=>rfl;have g6:=bc (ps:=["thing"]) X G d6 λ_ _ _ _ _ _=>cm λ_=>rfl;have g7:=bc (ps:=["count"]) X G d7 λ_ _ _ _ _ _=>cm λ_=>rfl;have g8:=bc (ps:=["counts"]) X G d8 λ_ _ _ _ _ _=>cm λ_=>rfl;have g9:=bc (ps:=["things"]) X G d9 λ_ _ _ _ _ _=>cm λ_=>rfl;have Z:=bc (ps:=["thing"]) X G Gv λ_ _ _ _ _ _=>cm λ_=>rfl;have Y:=bc (ps:=["thing"]) X G Gw λ_ _ _ _ _ _=>cm λ_=>rfl;have W:=bc (ps:=["thing","most"]) X G Gx λ_ _ _ _ _ _=>fP λ_ _=>rfl;have V:=bc (ps:=["thing"]) X G Gy λ_ _ _ _ _ _=>cm λ_=>rfl;have U:=bc (ps:=["marks","others"]) X G Gz λ_ _ _ _ _ _=>fP λ_ _=>rfl;have T:=bc (ps:=["heap","places","place"]) X G GA λ_ _ _ _ _ _=>og λ_ _ _=>rfl;have S:=bc (ps:=["heap"]) X G GB λ_ _ _ _ _ _=>cm λ_=>rfl;have R:=bc (ps:=["heap"]) X G GC λ_ _ _ _ _ _=>cm λ_=>rfl;have Q:=bc (ps:=["marks","others"]) X G GD λ_ _ _ _ _ _=>fP λ_ _=>rfl;have O:=bc (ps:=["thing"]) X G GF λ_ _ _ _ _ _=>cm λ_=>rfl;have N:=bc (ps:=["thing"]) X G GI λ_ _ _ _ _ _=>cm λ_=>rfl;have M:=bc (ps:=["thing"]) X G GJ λ_ _ _ _ _ _=>cm λ_=>rfl;have L:=bc (ps:=["thing"]) X G GN λ_ _ _ _ _ _=>cm λ_=>rfl;have J:=bc (ps:=["thing"]) X G GO λ_ _ _ _ _ _=>cm λ_=>rfl;have I:=bc (ps:=["pages","mould","mark","half"]) X G GP λ_ _ _ _ _ _=>Ec λ_ _ _ _=>rfl;have H:=bc (ps:=["pages","mould","mark"]) X G GQ λ_ _ _ _ _ _=>og λ_ _ _=>rfl;have E:=bc (ps:=["days","day","later"]) X G GR λ_ _ _ _ _ _=>og λ_ _ _=>rfl;have D:=bc (ps:=["pages","mould","mark"]) X G GS λ_ _ _ _ _ _=>og λ_ _ _=>rfl;have C:=bc (ps:=["pages"]) X G GU λ_ _ _ _ _ _=>cm λ_=>rfl;have B:=bc (ps:=["thing"]) X G GV λ_ _ _ _ _ _=>cm λ_=>rfl;have A:=bc (ps:=["thing"]) X G GW λ_ _ _ _ _ _=>cm λ_=>rfl;have z:=bc (ps:=["thing"]) X G kU λ_ _ _ _ _ _=>cm λ_=>rfl;have y:=bc (ps:=["holds"]) X G GX λ_ _ _ _ _ _=>cm λ_=>rfl;have x:=bc (ps:=["sheet","sure"]) X G GY λ_ _ _ _ _ _=>fP λ_ _=>rfl;have u:=bc (ps:=["book","mould","mark"]) X G GZ λ_ _ _ _ _ _=>og λ_ _ _=>rfl;have r:=bc (ps:=["book","mould","mark"]) X G G0 λ_ _ _ _ _ _=>og λ_ _ _=>rfl;have q:=bc (ps:=["days_by_mark","day"]) X G G1 λ_ _ _ _ _ _=>fP λ_ _=>rfl;have p:=bc (ps:=["book","mould"]) X G G2 λ_ _ _ _ _ _=>fP λ_ _=>rfl;have o:=bc (ps:=["book","sheet"]) X G G3 λ_ _ _ _ _ _=>fP λ_ _=>rfl;have n:=bc (ps:=["heap"]) X G G4 λ_ _ _ _ _ _=>cm λ_=>rfl;have m:=bc (ps:=["heap","place","other"]) X G G5 λ_ _ _ _ _ _=>og λ_ _ _=>rfl;have j:=bc (ps:=["heap","place","ahead","tried"]) X G G6 λ_ _ _ _ _ _=>Ec λ_ _ _ _=>rfl;have i:=bc (ps:=["heap"]) X G G7 λ_ _ _ _ _ _=>cm λ_=>rfl;have g:=bc (ps:=["place","behind"]) X G G8 λ_ _ _ _ _ _=>fP λ_ _=>rfl;have d:=bc (ps:=["heap"]) X G G9 λ_ _ _ _ _ _=>cm λ_=>rfl;have b:=bc (ps:=["heap"]) X G Ha λ_ _ _ _ _ _=>cm λ_=>rfl;have g46:=bc (ps:=["thing"]) X G Hb λ_ _ _ _ _ _=>cm λ_=>rfl;have g47:=bc (ps:=["heap","marks"]) X G Hc λ_ _ _ _ _ _=>fP λ_ _=>rfl;have g48:=bc (ps:=[adE,adF,adG,adH]) X G Hd λ_ _ _ _ _ _=>Ec λ_ _ _ _=>rfl;have g49:=bc (ps:=[adx,adz]) X G He λ_ _ _ _ _ _=>fP λ_ _=>rfl;have g50:=bc (ps:=[adx]) X G Hf λ_ _ _ _ _ _=>cm λ_=>rfl;have g51:=bc (ps:=[adx,"_law_days"]) X G Hg λ_ _ _ _ _ _=>fP λ_ _=>rfl;have g52:=bc (ps:=[adB,adD,adA]) X G Hh λ_ _ _ _ _ _=>og λ_ _ _=>rfl;have g53:=bc (ps:=[adB]) X G Hi λ_ _ _ _ _ _=>cm λ_=>rfl;have g54:=bc (ps:=[adx,adz]) X G Hj λ_ _ _ _ _ _=>fP λ_ _=>rfl;have g55:=bc (ps:=[adx,adz]) X G Hk λ_ _ _ _ _ _=>fP λ_ _=>rfl;have g56:=bc (ps:=[adx,"_law_most"]) X G Hl λ_ _ _ _ _ _=>fP λ_ _=>rfl
 have g57:=bc (ps:=["_law_told"]) X G Hm λ_ _ _ _ _ _=>cm λ_=>rfl;have g58:=bc (ps:=["thing"]) X G Hn λ_ _ _ _ _ _=>cm λ_=>rfl;have pf:∃t,mg "MARKS"=some (.int (8) t):=by obtain⟨t,e⟩:=Cz;exact⟨t,İ X G e⟩
 have uC:∃t,mg "MOULDS"=some (.int (4) t):=by obtain⟨t,e⟩:=BP;exact⟨t,İ X G e⟩
 have pk:∃t,mg "DAYS"=some (.int (31) t):=by obtain⟨t,e⟩:=Dk;exact⟨t,İ X G e⟩
 have rJ:∃t,mg "QUIRE"=some (.int (24) t):=by obtain⟨t,e⟩:=CB;exact⟨t,İ X G e⟩
 have yk:∃t,mg "QUIRES"=some (.int (20) t):=by obtain⟨t,e⟩:=BQ;exact⟨t,İ X G e⟩
 have yH:∃t,mg "REAM"=some (.int (480) t):=by obtain⟨t,e⟩:=Dl;exact⟨t,İ X G e⟩
 have BF:∃t,mg "REAMS"=some (.int (1000) t):=by obtain⟨t,e⟩:=CC;exact⟨t,İ X G e⟩
 have Cj:∃t,mg "MOST"=some (.int (479999) t):=by obtain⟨t,e⟩:=Dp;exact⟨t,İ X G e⟩
 have Bi:∃t,mg "COUNTS"=some (.int (20) t):=by obtain⟨t,e⟩:=BR;exact⟨t,İ X G e⟩
 have BG:∃t,mg "PAGES"=some (.int (24) t):=by obtain⟨t,e⟩:=CD;exact⟨t,İ X G e⟩
 have sg:∃t,mg "HAS"=some (.int (0) t):=by obtain⟨t,e⟩:=Ed;exact⟨t,İ X G e⟩
 have rL:∃t,mg "LACKS"=some (.int (1) t):=by obtain⟨t,e⟩:=CF;exact⟨t,İ X G e⟩
 have Ck:∃t,mg "HEAP"=some (.int (9) t):=by obtain⟨t,e⟩:=Dq;exact⟨t,İ X G e⟩
 have ZW:=Ċ X G Ee;have ZX:=Ċ X G Ef;have YA:=Ċ X G Dr;have Qt:=Ċ X G A3;have ZY:=Ċ X G Eg;have PZ:=Ċ X G AX;have ZZ:=Ċ X G Eh;have YB:=Ċ X G Ds;have Z0:=Ċ X G Ei;have WN:=Ċ X G CG;have YC:=Ċ X G Dt;have Ry:=Ċ X G Ba;have Z1:=Ċ X G Ej;have UW:=Ċ X G BS;have Z3:=Ċ X G El;have WO:=Ċ X G CH;have Z4:=Ċ X G Em;have m0:=Eb (ps:=["self","pages"]) ph Ho λ_ _ _ _ _ _=>fP λ_ _=>rfl;have m1:=Eb (ps:=["self"]) ph Hq λ_ _ _ _ _ _=>cm λ_=>rfl;have m2:=Eb (ps:=["self","page"]) ph Hr λ_ _ _ _ _ _=>fP λ_ _=>rfl;have m3:=ZU (ps:=["self"]) X G ph Hs λ_ _ _ _ _ _=>cm λ_=>rfl;obtain⟨f,oc,od,sl,kV,dc,pm,an,cd,ct,a,l,c,k⟩:=dl;have e:=hfa.symm.trans (İ X G a);cases e;have F:=yN (st:=(top 91)) l c k;have GL:Gd K mg "law" (top 91) [ady] _ _:=⟨İ X G a,F,F.binds λ_ _ _ _ _ _=>cm λ_=>rfl⟩;exact⟨_,λs v=>.of_eq rfl,λbase _ _=>XO (X2 ⟨ZW,ZX,YA,Qt,ZY,PZ,ZZ,YB,Z0,WN,YC,Ry,Z1,UW,Z3,WO,Z4,pf,uC,pk,rJ,yk,yH,BF,Cj,Bi,BG,sg,rL,Ck,ZS ph (by decide),m0,m1,m2,m3,g0,g1,g2,g3,g4,g5,g6,g7,g8,g9,Z,Y,W,V,U,T,S,R,Q,O,N,M,L,J,I,H,E,D,C,B,A,z,y,x,u,r,q,p,o,n,m,j,i,g,d,b,g46,g47,g48,g49,g50,g51,g52,g53,g54,g55,g56,g57,g58⟩ GL) UU⟩
def walk {l:PySem.W.OpenLaw} {q:ó} {loose:List Str} {XP:(Str->Option Ç)->œ->Prop} {YP:Ĕ->œ->Prop} {d:DefRec} {K:Params->ĥ} (hn:l.most=some 63) (wI:d.params.defaults=[])
  (hY:∀(w:Ĕ) (h:œ),YP w h->(K w.params).In h)
  (F:∀(w:Ĕ) (mg:Str->Option Ç) (fa:ä) (h:œ),(K w.params).In h->h.Ns â mg->mg d.name=some (.ref fa) ->
   ∃fd:ő,(∀(s:Å) (u:Ç),BindsTo s fd ⟨[u],[]⟩ [(ady,u)])/\∀base:œ,(K w.params).In base->base.Ns â mg->dH l.prog w (K w.params) mg base fK 19 fa fd [ady] (zp (K w.params))) :
  PySem.W.WalkO q loose XP YP l.row.toRowW d [] (λf vs=>PySem.call f vs) :=
 L2.Vj (n:=63) (k:=19) (x:= ady) (CX:=λ_=>fK) (sp:=λw=>zp (K w.params)) hn (by decide) wI ⟨rfl,by decide,by decide,rfl⟩ hY F (λ_ _ a Z Y _ X=>⟨a,Z,rfl,X,Y,λ_=>rfl⟩) λ_ _ _ _ _ z=>z
end DI.aK
open PySem PySem.W PyProof.Rows
namespace PySem.W.Fast
def te9321492905334495083:=trivial
def te5096635634495156416:=trivial
def te12224088115770508487:=trivial
def te8403559534865787773:=trivial
def te15500001179271910561:=trivial
def te4678103353419205127:=trivial
end PySem.W.Fast
set_option maxRecDepth 100000 in
set_option maxHeartbeats 0 in
theorem PySem.Challenge.cw_twinmoulds_k54_told_lists_are_the_askers_holds : PySem.Challenge.rw_twinmoulds_k54_told_lists_are_the_askers.Holds := by
 w_on;o_law;k_head;(case hw=>w_witness2)
 k_fill
 refine DI.aK.walk (l:=PySem.Challenge.rw_twinmoulds_k54_told_lists_are_the_askers) rfl rfl (λw h Y=>PySem.W.kIn_of Y) ?F
 case F =>
  intro w V U h Z G X;refine' DI.aK.all_mk Z G X ?d0 ?d1 ?d2 ?d3 ?d4 ?d5 ?d6 ?d7 ?d8 ?d9 ?Gv ?Gw ?Gx ?Gy ?Gz ?GA ?GB ?GC ?GD ?GF ?GI ?GJ ?GN ?GO ?GP ?GQ ?GR ?GS ?GU ?GV ?GW ?kU ?GX ?GY ?GZ ?G0 ?G1 ?G2 ?G3 ?G4 ?G5 ?G6 ?G7 ?G8 ?G9 ?Ha ?Hb ?Hc ?Hd ?He ?Hf ?Hg ?Hh ?Hi ?Hj ?Hk ?Hl ?Hm ?Hn ?ph ?Ho ?Hq ?Hr ?Hs ?dl ?Cz ?BP ?Dk ?CB ?BQ ?Dl ?CC ?Dp ?BR ?CD ?Ed ?CF ?Dq ?Ee ?Ef ?Dr ?A3 ?Eg ?AX ?Eh ?Ds ?Ei ?CG ?Dt ?Ba ?Ej ?BS ?El ?CH ?Em
  (case d0|d1|d2|d3|d4|d5|d6|d7|d8|d9|Gv|Gw|Gx|Gy|Gz|GA|GB|GC|GD|GF|GI|GJ|GN|GO|GP|GQ|GR|GS|GU|GV|GW|kU|GX|GY|GZ|G0|G1|G2|G3|G4|G5|G6|G7|G8|G9|Ha|Hb|Hc|Hd|He|Hf|Hg|Hh|Hi|Hj|Hk|Hl|Hm|Hn|dl=>refine' DI.aK.ZV ?a ?l ?c ?k;(case a=>k_is);(case l=>k_is);(case c=>k_is);(case k=>k_is))
  (case Cz=>refine' DI.aK.jq ?e;(case e=>k_is))
  (case BP=>refine' DI.aK.jq ?e;(case e=>k_is))
  (case Dk=>refine' DI.aK.jq ?e;(case e=>k_is))
  (case CB=>refine' DI.aK.jq ?e;(case e=>k_is))
  (case BQ=>refine' DI.aK.jq ?e;(case e=>k_is))
  (case Dl=>refine' DI.aK.jq ?e;(case e=>k_is))
  (case CC=>refine' DI.aK.jq ?e;(case e=>k_is))
  (case Dp=>refine' DI.aK.jq ?e;(case e=>k_is))
  (case BR=>refine' DI.aK.jq ?e;(case e=>k_is))
  (case CD=>refine' DI.aK.jq ?e;(case e=>k_is))
  (case Ed=>refine' DI.aK.jq ?e;(case e=>k_is))
  (case CF=>refine' DI.aK.jq ?e;(case e=>k_is))
  (case Dq=>refine' DI.aK.jq ?e;(case e=>k_is))
  (case Ee|Ef|Dr|A3|Eg|AX|Eh|Ds|Ei|CG|Dt|Ba|Ej|BS|El|CH|Em=>k_is)
  (case ph=>kernel_rfl)
  (case Ho|Hq|Hr|Hs=>refine' DI.ZT ?a ?b ?l ?c ?k ?f;(case a=>k_is);(case b=>k_is);(case l=>k_is);(case c=>k_is);(case k=>k_is);(case f=>k_is))
