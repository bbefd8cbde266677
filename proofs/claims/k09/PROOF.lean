import PyProof.Rows.All
import Wide.All
import OpenK.AllK
import Wide.FinOn
import Lean
import PyProof.EqAt
import PyProof.EqKinds
import PyProof.TupleCall
import PyProof.NeData
import PyProof.P3In
import PyProof.FactsAll.set
import PyProof.CollectWalk
import PyProof.FactsAll.range
import PyProof.MinMaxWalk
import KE.KMinKey
import PyProof.WalkInts
import PyProof.Rows.CallKwBuiltin
import KE.KSortTup
import PyProof.Rows.Range3
import PyProof.ListRange
import PyProof.DictRoadsH
import KE.KDictList
import PyProof.Rows.SortKeyStr
import PyProof.DictCompW
import PyProof.DictWalks
import PyProof.Rows.CompDC
import PyProof.SumAny
import PyProof.TupleOfGen
import PyProof.CollectIter
import PySem.Challenge.RW_twinmoulds_k09_narrowest_datings
set_option bootstrap.genMatcherCode false
set_option genInjectivity false
set_option genSizeOfSpec false
set_option Elab.async false
set_option linter.all false
set_option maxRecDepth 100000
set_option maxHeartbeats 4000000
open PySem renaming wpAny_bind→À,wpAny_pure→Â,Shared→Ç,Value→Ì,sizeLine→Õ,wpAny→Ü,starEach→Þ,Addr→â,model→í,wpAny_newObj_type→î,foldedSetIterable→ï,Program→ö,mainGlobals→ø,wpAny_call_entry→ÿ,bootBuiltins→Ă,wpAny_callSpecial?_slot→ă,World→Ć,compareOp→Č,Around→Đ,wpAny_holding→Ė,wpAny_mono→ĝ,wpAny_seqItems→Ğ,wpAny_field→ĭ,codeAny_builtin→ĸ,wpAny_truthy_bool→ĺ,wpAny_standAt→ł,letOwnedTupleGo→Ń,Expr→Ņ,wpAny_tryCatch→Ŋ,plainId_quiet→Ō,wpAny_askSetting→Ő,Builtin→ő,wpAny_rule→Ŕ,rawInt→Ř,binaryOp→ř,eval→ś,wpAny_typeNameOfWhole_keyiter→ş,pyNext→Š,Heap→Ţ,intKind→ţ,FuncData→ť,wpAny_setField→ũ,codeAny→ū,wpAny_of_eq→ŭ,wpAny_updateSeq→ů,sysModules→Ų,assignEach→ų,codeAny_mono→Ÿ,wpAny_setField_rec→Ź,wpAny_letGo→Ż,wpAny_pyIter_list→Ž,wpAny_setState_of→ε,swapsWithSole→θ,swappedStores→ι,mem_of_lookup→μ,wpAny_attempt→ν,wpAny_setEntries_of→ξ,backTo→χ,scanBound→ω,pickOrder→aac,assign→aai,holding→aaj,standAt→aak,sizeLine_eq→aal,NameKind→aau,fits_of_scanBound→aaw,Scope→aaB,cellsFrom→aaD,PyData→aaE,firstArgMember→aaF,IsPair→aaG,wpAny_fieldsOf→aaI,wpAny_isInstance→aaL,wpAny_typeOf→aaS,wpAny_comprehension_free→aaU,wpAny_passesOwn→aaV,behindInMarks→aaW,wpAny_Call_Name_kw→aaX,codeAny_of_tree→aaZ,wpAny_pyIter_rangeiter→aa7,codeAny_compStart_list→aba,sliceBounds→abc,wpAny_storeSet_of→abi,eqIsQuiet_byValue→abk,wpAny_bindName→abn,cLine→abr,builtinLookup_eq_fast→abw,assignInOrder→abF,bindName→abG,compTurn→abH,wpAny_newList→abI,swapsWith→abL,keywordEach→abM,richCompare→abO,seqItems?→abQ,wpAny_specialOf→abT,DictEntry→acd,Keyword→ach,isTrue→aci,pyIter→acj,Fin→acm
open PySem.Heap renaming get?_push_of_some→Á,get?_push_size→Ð,lt_size→Ò,get?_update_other→ā,get?_update_self→Ĉ,size_push→đ,SameBut→Ľ,ExtBut→abf,get?_update_ne→ab2
open List renaming length_map→Ã,getElem?_eq_some_iff→Å,mem_append_right→Æ,getElem?_eq_getElem→Ë,mem_cons_self→Î,mem_cons_of_mem→Ï,replicate→Ñ,mem_cons→Ó,size_toArray→Ô,map_cons→Ö,range→Ø,set_cons_succ→Ù,set_cons_zero→Ú,getElem?_set_ne→Ý,getElem?_map→á,getElem?_append_left→ã,mem_append→ä,mem_singleton→å,getElem?_set_self→ç,length_append→é,mem_range→ñ,mem_map→ó,map_append→õ,length_cons→ù,getElem?_eq_none→ú,mem_filter→ü,getElem?_append_right→þ,pairwise_cons→ą,map_map→ĉ,length_filter_le→Ċ,getElem?_range→č,all_eq_true→Ĕ,cons_append→ĕ,length_nil→Ę,append_assoc→ę,not_mem_nil→Ĝ,zip_cons_cons→ġ,length_set→Ģ,map_nil→Ħ,mem_append_left→ī,length_range→İ,set_append_right→Ĳ,getD_eq_getElem?_getD→ĳ,getElem?_replicate→Ĵ,append_nil→Ķ,nil_append→ķ,filter_cons→Ĺ,length_take→ō,lookup_cons→Ŏ,any_eq_true→ŏ,replicate_succ→ŕ,ext_getElem?→Ŗ,drop_eq_getElem_cons→Ś,mem_of_getElem?→š,getElem_mem→ŵ,flatten_cons→ž,getD→δ,range_succ→ζ,isEmpty_nil→aab,nodup_nil→aae,filter_eq_nil_iff→aag,nodup_cons→aam,length_replicate→aan,getElem?_toArray→aas,nodup_append→aax,pairwise_append→aaA,drop_length→aaM,filterMap_cons→aaO,map_congr_left→aaP,getElem_of_mem→aaQ,length_eq_zero_iff→aa1,pairwise_singleton→aa2,flatMap_eq_nil_iff→aa6,reverse_cons→abe,any_eq_false→abl,take_add_one→abm,length_singleton→abt,toArray→abv,isEmpty_iff→abA,mem_flatMap→abB,take_length→abC,of_mem_zip→abN,map_eq_flatMap→ab3,map_eq_nil_iff→ab4,drop_drop→ab8,drop_zero→ab9
open Bool renaming false_eq_true→Ä,and_eq_true→Ê,false_ne_true→Í,true_and→û,not_true→Ā,not_eq_true'→Ġ,eq_iff_iff→Ĭ,and_self→ĵ,and_true→ο,false_or→ς,not_eq_true→aaa,or_eq_true→aao,false_and→aaC,not_false→aaK
open Nat renaming lt_of_lt_of_le→É,le_trans→Û,ne_of_lt→ë,lt_irrefl→ì,zero_le→ē,lt_succ_of_lt→ĩ,ne_of_gt→Ŝ,le_of_eq→ŝ,le_succ→Ů,le_of_not_lt→ψ,lt_succ_self→aad,lt_of_le_of_lt→aa3,le_max_right→abz,mul_le_mul_right→abD,pow_le_pow_right→abE,add_assoc→abJ
open PySem.Str renaming ofString→ð
open Int renaming toNat_natCast→ò,zero_add→Ū,emod_lt_of_pos→aah,emod_nonneg→aa5
open Array renaming length_toList→ý,getElem?_toList→Ł,getD→abd,toList_push→abh
open PySem.NameKind renaming free→Ą
open PyProof.Rows renaming slot_tuple_getitem→ć,callWith_type1→ŀ,firstMet→Ŧ,step_dedup→ŧ,step_dedup→Ŷ,assignInOrder_cons→ŷ,IntsAre→abb,seqObj→ab5
open PySem.W renaming nsIn→ċ,mg_none_of→ď,Frag→ļ,mg_of→Ũ,keepIn→ź,fnOf→η,cellsFrom_some→aa8,findIn→abo,codeIn→abp,methodObj→acb
open PySem.PassesOwn renaming never→Ď
open PySem.Obj renaming data_mapFields→Ē,mapSeq→į,isFreed_of_fields→Ň,cls_mapFields→aav
open PySem.Builtin.SmallTypes renaming nextOf→ė,ownedTupleIsFree→ņ,ownedTupleHandOut→aaH
open PySem.SetTable renaming below→ğ,grown→abq
open PySem.Heap.SameBut renaming update→ģ
open PySem.Builtin.Range renaming rangeFitsLong→Ĥ,rangeSize→Ť,rangeFields→ab7
open PySem.Around renaming under_plainId→ħ
open PySem.Builtin.Slice renaming slicePlaces→Ī,sliceAdjust→ń,sliceApplied→aay,sliceFields→ab6
open PySem.Builtin.Tuple renaming tupleExact→Į,tupleItemsOf→Œ,tupleIsExact→aaz,tupleHashOf→aaJ
open PySem.PyData renaming eqv→Ļ,depthAll→aar,weightAll→aaN,strOk→abx
open PySem.F renaming plain_min_loop→ľ,slot_dict_keyiterator_next→ň,slot_tuple_iterator_next→ű,isi_meta_tuple→Ŵ,isi_meta_list→ſ,entry_min_loop→aaf,called_set→aap,slot_range_reversed→aaq,args_tuple_add_2→aaR,entry_tuple_add→aaY,slot_tuple_add→aa9,slot_tuple_hash→abj,slot_int_rmul→abP,slot_zip_next→abR
open ForInStep renaming yield→ŋ
open Ne renaming symm→œ
open Function renaming comp_def→ŗ
open Or renaming inl→Ş,inr→ack
open Option renaming map_some→Ŭ
open PySem.Builtin.Builtins renaming bindParams→Ű
open PySem.Value renaming type→ż,ref→υ,int→aca
open False renaming elim→aat
open PySem.Builtin.List renaming listTooLong→aaT,listExtendWith→abS
open PyProof.Rows.F renaming plain_set_update_loop→aa0
open List.cons renaming injEq→aa4
open PySem.SetTable.below renaming go→abg
open List.Pairwise renaming sublist→abu
open PySem.Builtin.Dict_items renaming ownsTuple→abK
open PySem.SetTable.probe renaming go→ace
open PySem.Builtin.Frozenset renaming addrOf→acf
open And renaming intro→acg
def È:=@decide_eq_true_eq
def ß:=@if_pos
def à:=@decide_eq_true
def æ:=@if_neg
def è:=@decide_eq_false
def ê:=@if_false
def ô:=@if_true
def Ě:=@and_self
def ě:=@beq_self_eq_true
def ĥ:=@decide_true
def Ĩ:=@bne_self_eq_false
def ı:=@of_decide_eq_true
def Ŀ:=@congrArg
def aby:=@decide_false
def acr:=@Nat.le_refl
def acs:=@Option.some.inj
abbrev acu:PySem.Str:="_law_day"
abbrev acv:PySem.Str:="_law_mark"
abbrev acw:PySem.Str:="_law_mould"
abbrev acx:PySem.Str:="_law_state_here"
abbrev acy:PySem.Str:="_law_book_here"
abbrev acz:PySem.Str:="_law_one"
abbrev acA:PySem.Str:="_law_script"
abbrev acB:PySem.Str:="_law_found"
abbrev acC:PySem.Str:="_law_some"
abbrev acD:PySem.Str:="_law_rows"
abbrev acE:PySem.Str:="_law_other"
abbrev acF:PySem.Str:="_law_due"
abbrev acG:PySem.Str:="_law_free"
abbrev acH:PySem.Str:="_law_days"
abbrev acI:PySem.Str:="_law_sheets_here"
abbrev acJ:PySem.Str:="_law_often"
abbrev acK:PySem.Str:="_law_place"
abbrev acL:PySem.Str:="_law_sheet_here"
abbrev acM:PySem.Str:="_law_first"
abbrev acN:PySem.Str:="_law_last"
abbrev acO:PySem.Str:="_law_has"
abbrev acP:PySem.Str:="_law_mends"
abbrev acQ:PySem.Str:="_law_ahead"
abbrev acR:PySem.Str:="_law_mended"
noncomputable section
local macro_rules | `(tactic| omega) => `(tactic| lia)
open PySem.W (Frag)
namespace L2
open PySem PySem.Spec PyProof.Rows
noncomputable abbrev Key:=Sum Int Str
def DR:Key->Ì->Bool
 | .inl k,v=>Value.isInt k v
 | .inr x,v=>Value.isStrOf x v
def Ym (w:Ć):Key->Int
 | .inl k=>hashInt k
 | .inr x=>hashStr w x
def mG:∀{k:Key} {v:Ì},DR k v=true->(∃i t,k=Sum.inl i/\v=aca i t)\/(∃x t,k=Sum.inr x/\v=Value.str x t)
 | .inl i,v,h=>by
  obtain⟨t,e⟩:=Value.isInt_shape (k:=i) (v:=v) h;exact .inl ⟨i,t,rfl,e⟩
 | .inr x,v,h=>by
  obtain⟨t,e⟩:=Value.isStrOf_shape (x:=x) (v:=v) h;exact .inr ⟨x,t,rfl,e⟩
def VB (a b:Int):decide ((Sum.inl a:Key)=Sum.inl b)=(a==b):=by
 by_cases e:a=b
 ·subst e;simp
 ·have h:¬ (Sum.inl a:Key)=Sum.inl b:=λq=>e (Sum.inl.inj q)
  rw[è h];exact(beq_eq_false_iff_ne.mpr e).symm
def VD (a b:Str):decide ((Sum.inr a:Key)=Sum.inr b)=decide (a=b):=by
 by_cases e:a=b
 ·subst e;simp
 ·have h:¬ (Sum.inr a:Key)=Sum.inr b:=λq=>e (Sum.inr.inj q)
  rw[è h,è e]
def VE (a:Int) (b:Str):decide ((Sum.inl a:Key)=Sum.inr b)=false:=è (λq=>nomatch q)
def VF (a:Str) (b:Int):decide ((Sum.inr a:Key)=Sum.inl b)=false:=è (λq=>nomatch q)
def yX (prog:ö) (w:Ć):PySem.KeyKind prog w Key where
 is:=DR
 hash:=Ym w
 inj:=λv a b X Y=>by
  rcases mG X with ⟨i,t,rfl,rfl⟩ | ⟨x,t,rfl,rfl⟩
  ·rcases mG Y with ⟨j,u,rfl,e⟩ | ⟨y,u,rfl,e⟩
   ·injection e with e1 _;rw[e1]
   ·exact nomatch e
  ·rcases mG Y with ⟨j,u,rfl,e⟩ | ⟨y,u,rfl,e⟩
   ·exact nomatch e
   ·injection e with e1 _;rw[e1]
 byValue:=λk v h=>by
  rcases mG h with ⟨i,t,rfl,rfl⟩ | ⟨x,t,rfl,rfl⟩<;>rfl
 pyHash:=λZ h=>by
  rcases mG Z with ⟨i,t,rfl,rfl⟩ | ⟨x,t,rfl,rfl⟩
  ·exact wpAny_pyHash_int h
  ·exact wpAny_pyHash_str h
 eqBool:=λW Z h=>by
  rcases mG W with ⟨i,t,rfl,rfl⟩ | ⟨x,t,rfl,rfl⟩
  ·rcases mG Z with ⟨j,u,rfl,rfl⟩ | ⟨y,u,rfl,rfl⟩
   ·rw[VB] at h;exact wpAny_eqBool_int h
   ·rw[VE] at h;exact SeqAt.EqAt.int_str i t y u _ _ _ _ h
  ·rcases mG Z with ⟨j,u,rfl,rfl⟩ | ⟨y,u,rfl,rfl⟩
   ·rw[VF] at h;exact SeqAt.EqAt.str_int x t j u _ _ _ _ h
   ·rw[VD] at h;exact wpAny_eqBool_str h
 «strs»:=λk x t v h=>by
  rcases mG h with ⟨i,u,rfl,e⟩ | ⟨y,u,rfl,e⟩
  ·exact nomatch e
  ·injection e with e1 _
   subst e1
   cases v<;>rfl
set_option genInjectivity true in
inductive V where
 |au|bl (b:Bool)|int (i:Int)|str (x:Str)|jX (b:Array UInt8)|wX (b:UInt64)|ref (a:â)|ty (n:String)
 deriving DecidableEq
def RelV:V->Ì->Prop
 | .au,u=>u=Value.none
 | .bl b,u=>u=Value.bool b
 | .int i,u=>∃t,u=aca i t
 | .str x,u=>∃t,u=Value.str x t
 | .jX b,u=>∃t,u=Value.bytes b t
 | .wX b,u=>∃t,u=Value.float b t
 | .ref a,u=>u=υ a
 | .ty n,u=>u=ż n
abbrev Vals:List V->List Ì->Prop:=Paired RelV
theorem Vals.length (r:Vals xs us):xs.length=us.length:=Paired.length r
theorem Vals.get:∀{xs:List V} {us:List Ì} {i:Nat} {x:V},Vals xs us->xs[i]?=some x->∃u,us[i]?=some u/\RelV x u
 |_,_,_,_,.nil,e=>by simp at e
 |_,_,0,_,.cons r _,e=>by simp at e;subst e;exact⟨_,rfl,r⟩
 |_,_,i+1,x,.cons _ t,e=>by
  obtain⟨u,Z,Y⟩:=Vals.get (i:=i) (x:=x) t (by simpa using e);exact⟨u,by simpa using Z,Y⟩
theorem Vals.set (r:RelV x u):∀{xs:List V} {us:List Ì} (i:Nat),Vals xs us->Vals (xs.set i x) (us.set i u)
 |_,_,_,.nil=>.nil
 |_,_,0,.cons _ t=>.cons r t
 |_,_,i+1,.cons q t=>.cons q (Vals.set r i t)
theorem Vals.append:∀{xs ys:List V} {us ws:List Ì},Vals xs us->Vals ys ws->Vals (xs++ys) (us++ws)
 |_,_,_,_,.nil,s=>s
 |_,_,_,_,.cons r t,s=>.cons r (Vals.append t s)
theorem Vals.take:∀{xs:List V} {us:List Ì} (n:Nat),Vals xs us->Vals (xs.take n) (us.take n)
 |_,_,0,_=>.nil
 |_,_,_ + 1,.nil=>.nil
 |_,_,n+1,.cons r t=>.cons r (Vals.take n t)
theorem Vals.drop:∀{xs:List V} {us:List Ì} (n:Nat),Vals xs us->Vals (xs.drop n) (us.drop n)
 |_,_,0,r=>r
 |_,_,_ + 1,.nil=>.nil
 |_,_,n+1,.cons _ t=>Vals.drop n t
def My:Option V->Option Ì->Prop
 |some v,some u=>RelV v u
 |none,none=>True
 |_,_=>False
def KV {κ:Type}:List (κ×V)->List (κ×Ì)->Prop:=Paired λ(p:κ×V) (q:κ×Ì)=>p.1=q.1/\RelV p.2 q.2
def kV:Key->V
 | .inl i=>.int i
 | .inr x=>.str x
inductive HO where
 |lst (xs:List V)
 |tup (xs:List V)
 |dK (ak:List (Key×V))|dT (ak:List (List Key×V))
 |set (S:Int->Bool) (n:Nat)
 |ins (C dx:â) (fs:List (Str×V))
 |own (x:â)
 |xd (fs:List (Str×V))
 |met (f x:â)
 |bS (lo hi:Int)
 |dw (o:Obj) (u:HO)
 |rH (ps:Array Ì)
 |ext (φ:Ţ->Prop)
noncomputable abbrev Hp:=â->Option HO
def upd (H:Hp) (a:â) (o:HO):Hp:=λb=>if b=a then some o else H b
def eT:upd H a o a=some o:=by unfold upd;rw[ß rfl]
def bK (h:b≠a):upd H a o b=H b:=by unfold upd;rw[æ h]
def fL {H:Hp} {a b:â} {o:HO} (h:H a=some o) (h':H b=none):a≠b:=by
 intro e;subst e;rw[h] at h';cases h'
section
variable (P:ö) (w:Ć)
def dX (H:Hp) (h:Ţ) (a:â):HO->Prop
 | .lst Z=>Z.length<=Õ/\∃(its:List Ì) (n:Nat),Vals Z its/\h.get? a=some { cls:=.type "list",data:=.seq its.toArray n }
 | .tup Z=>Z.length<=Õ/\∃its:List Ì,Vals Z its/\IsTup h a its.toArray
 | .dK X=>X.length<=Õ/\(a==Ų)=false/\∃R,KV X R/\h.DictOf (yX P w) a R
 | .dT X=>X.length<=Õ/\(a==Ų)=false/\∃Z:List (List Key×â×Ì),
   Paired (λ(p:List Key×V) (q:List Key×â×Ì)=>p.1=q.1/\H q.2.1=some (.tup (p.1.map kV))/\RelV p.2 q.2.2) X Z /\
   ∃o Q M,h.get? a=some o/\o.ExactDict/\o.data=.dict Q M/\Q.toList=Z.map (entryOfKey (tupleKind (yX P w)))/\(Z.map (·.1)).Nodup
 | .set S n=>h.SetOf (ţ P w) a S n
 | .ins C U fs=>H U=some (.own a)/\fs.length<=1000/\U≠a/\h.get? a=some (PySem.W.instObj C U) /\
   ∃Y,h.Ns1 U Y/\(∀f,My (fs.lookup f) (Y f))/\PySem.Within Y (fs.map (·.1))
 | .own _=>∃o,h.get? a=some o
 | .xd fs=>∃Y,h.Ns1 a Y/\∀f,My (fs.lookup f) (Y f)
 | .bS lo hi=>∃t u v,h.get? a=some { cls:=.type "range",data:=.fields #[.int lo t,.int hi u,.int 1 v] }
 | .dw o u=>h.get? a=some o/\dX H h a u
 | .rH L=>h.get? a=some { cls:=.none,data:=.fields L }
 | .met f x=>h.get? a=some (acb (.ref f) (.ref x))
 | .ext T=>T h/\(∃o,h.get? a=some o)/\∀O N:Ţ,T O->(∀o,O.get? a=some o->N.get? a=some o)->T N
def cM (H:Hp) (h:Ţ):Prop:=∀a o,H a=some o->dX P w H h a o
end
section
variable {P:ö} {w:Ć} {H H':Hp} {h h':Ţ} {a:â} {o:HO}
theorem dX.lt (x:dX P w H h a o):a<h.objs.size:=by
 cases o with
 |lst Z=>obtain⟨_,_,_,_,e⟩:=x;exact Ò e
 |tup Z=>obtain⟨_,_,_,p⟩:=x;exact p.lt
 |dK Y=>obtain⟨_,_,_,_,o,_,_,e,_⟩:=x;exact Ò e
 |dT Y=>obtain⟨_,_,_,_,o,_,_,e,_⟩:=x;exact Ò e
 |set S n=>obtain⟨o,_,_,_,e,_⟩:=x;exact Ò e
 |ins C X fs=>obtain⟨_,_,_,e,_⟩:=x;exact Ò e
 |own y=>obtain⟨_,e⟩:=x;exact Ò e
 |xd fs=>obtain⟨_,⟨_,_,_,e,_⟩,_⟩:=x;exact Ò e
 |bS lo hi=>obtain⟨_,_,_,e⟩:=x;exact Ò e
 |dw W u=>obtain⟨e,_⟩:=x;exact Ò e
 |rH V=>exact Ò (show h.get? a=some _ from x)
 |met f y=>exact Ò (show h.get? a=some _ from x)
 |ext U=>obtain⟨_,⟨_,e⟩,_⟩:=x;exact Ò e
theorem Paired.Mz {α β:Type} {F G:α->β->Prop}:∀{MA:List α} {MB:List β},Paired F MA MB->(∀a b,F a b->G a b)->Paired G MA MB
 |_,_,.nil,_=>.nil
 |_,_,.cons r t,f=>.cons (f _ _ r) (Paired.Mz t f)
def dX.gb (x:dX P w H h a o) (k:∀b u,(b=a\/H b=some (.own a))->h.get? b=some u->h'.get? b=some u)
  (ho:∀b,H b=some (.own a)->H' b=some (.own a)) (ht:∀b xs,H b=some (.tup xs)->H' b=some (.tup xs)):dX P w H' h' a o:=by
 induction o with
 |lst xs=>obtain⟨z,its,n,r,e⟩:=x;exact⟨z,its,n,r,k _ _ (.inl rfl) e⟩
 |tup xs=>obtain⟨z,its,r,Z,e,c⟩:=x;exact⟨z,its,r,Z,k _ _ (.inl rfl) e,c⟩
 |dK R=>obtain⟨z,y,Q,r,Z,Y,X,e,c⟩:=x;exact⟨z,y,Q,r,Z,Y,X,k _ _ (.inl rfl) e,c⟩
 |dT R =>
  obtain⟨z,y,xs,r,Z,Y,X,e,c⟩:=x;exact⟨z,y,xs,Paired.Mz r λp q z=>⟨z.1,ht _ _ z.2.1,z.2.2⟩,Z,Y,X,k _ _ (.inl rfl) e,c⟩
 |set S n=>obtain⟨Z,Y,X,t,e,c⟩:=x;exact⟨Z,Y,X,t,k _ _ (.inl rfl) e,c⟩
 |ins C O fs =>
  obtain⟨d,z,ne,e,W,⟨V,Y,X,e2,c⟩,r⟩:=x;exact⟨ho _ d,z,ne,k _ _ (.inl rfl) e,W,⟨V,Y,X,k _ _ (.inr d) e2,c⟩,r⟩
 |own y=>obtain⟨Z,e⟩:=x;exact⟨Z,k _ _ (.inl rfl) e⟩
 |xd fs=>obtain⟨W,⟨V,Y,X,e,c⟩,r⟩:=x;exact⟨W,⟨V,Y,X,k _ _ (.inl rfl) e,c⟩,r⟩
 |bS lo hi=>obtain⟨t,u,v,e⟩:=x;exact⟨t,u,v,k _ _ (.inl rfl) e⟩
 |dw Z u ih=>obtain⟨e,q⟩:=x;exact⟨k _ _ (.inl rfl) e,ih q⟩
 |rH U =>
  have e:h.get? a=some { cls:=.none,data:=.fields U }:=x;show h'.get? a=some { cls:=.none,data:=.fields U };exact k a _ (.inl rfl) e
 |met f y =>
  have e:h.get? a=some (acb (.ref f) (.ref y)):=x;show h'.get? a=some (acb (.ref f) (.ref y));exact k a _ (.inl rfl) e
 |ext N=>obtain⟨p,⟨o,e⟩,T⟩:=x;exact⟨T _ _ p λo q=>k _ _ (.inl rfl) q,⟨o,k _ _ (.inl rfl) e⟩,T⟩
theorem cM.lt (x:cM P w H h) (e:H a=some o):a<h.objs.size:=(x a o e).lt
def cM.fresh (x:cM P w H h) (e:h.objs.size<=a):H a=none:=by
 cases q:H a with
 |none=>rfl
 |some u=>exact absurd (É (x.lt q) e) (ì _)
def cM.kept (x:cM P w H h) (k:∀b u,h.get? b=some u->h'.get? b=some u):cM P w H h':=λa o e =>
 (x a o e).gb (λb u _ q=>k b u q) (λ_ q=>q) λ_ _ q=>q
def cM.laid (x:cM P w H h) (k:∀b u,h.get? b=some u->h'.get? b=some u) (hp:h.objs.size<=a) (new:dX P w (upd H a o) h' a o):cM P w (upd H a o) h':=λb u e=>by
 have Z:=x.fresh hp;by_cases Y:b=a
 ·subst Y;rw[eT] at e;cases e;exact new
 ·rw[bK Y] at e
  exact(x b u e).gb (λc v _ q=>k c v q) (λc q=>by rw[bK (fL q Z)];exact q) λc X q=>by rw[bK (fL q Z)];exact q
end
def Rd (H:Hp) (a:â) (u:HO):Prop:=H a=some u\/∃o,H a=some (.dw o u)
def Rd.ok (r:Rd H a u) (x:cM P w H h):dX P w H h a u:=by
 rcases r with r | ⟨o,r⟩
 ·exact x a u r
 ·obtain⟨_,q⟩:=x a _ r
  exact q
def wY:Option HO->Prop
 |some (.lst _)=>True
 |some (.dK _)=>True
 |some (.dT _)=>True
 |some (.set _ _)=>True
 |some (.ins _ _ _)=>True
 |some (.ext _)=>True
 |_=>False
section
variable {P:ö} {w:Ć} {H:Hp} {h h':Ţ} {x e:â} {o':HO}
def cM.write (ok:cM P w H h) (mu:wY (H x)) (he:e=x\/H e=some (.own x)) (k:∀b u,b≠e->h.get? b=some u->h'.get? b=some u) (uB:∃u,h'.get? e=some u)
  (new:dX P w (upd H x o') h' x o'):cM P w (upd H x o') h':=λb u q=>by
 have W:∀c y,H c=some (.own y)->c≠x:=λc y r z=>by subst z;rw[r] at mu;exact mu
 have U:∀c Z,H c=some (.tup Z)->c≠x:=λc Z r z=>by subst z;rw[r] at mu;exact mu
 by_cases Y:b=x
 ·subst Y;rw[eT] at q;cases q;exact new
 ·rw[bK Y] at q
  by_cases X:b=e
  ·have V:H b=some (.own x):=by
    rcases he with z|z
    ·exact absurd (X.trans z) Y
    ·rw[X];exact z
   rw[q] at V;cases V;obtain⟨v,T⟩:=uB;exact⟨v,by rw[X];exact T⟩
  ·refine(ok b u q).gb (λc v hc r=>k c v ?_ r) (λc r=>by rw[bK (W c b r)];exact r) λc Z r=>by rw[bK (U c Z r)];exact r
   rcases hc with rfl|hc
   ·exact X
   ·rintro rfl
    rcases he with z|z
    ·exact W c b hc z
    ·rw[hc] at z;cases z;exact Y rfl
end
structure Un (fs ex:List â) (H H':Hp) (h h':Ţ):Prop where
 keep:∀b o,h.get? b=some o->H b=none->b∉fs->b∉ex->h'.get? b=some o
 slot:∀b o,h.get? b=some o->H b=none->b∈fs->b∉ex->∃sl,h'.get? b=some { o with slots:=sl }
 free:∀b o,h.get? b=some o->H b=none->b∉ex->H' b=none
 there:∀b o,h.get? b=some o->b∉ex->∃o',h'.get? b=some o'
 kF:∀b xs,H b=some (.tup xs)->H' b=some (.tup xs)
 jO:∀b o u,H b=some (.dw o u)->H' b=some (.dw o u)
 lE:∀b ps,H b=some (.rH ps)->∃more,H' b=some (.rH (ps++more))
section
variable {fs Zl ex ex':List â} {H H1 H2:Hp} {h h1 h2 h':Ţ} {a x e:â} {o:HO}
def Un.any (u:Un fs ex H H1 h h1) (q:h.get? b=some ob) (n:H b=none) (hx:b∉ex):∃sl,h1.get? b=some { ob with slots:=sl }:=by
 by_cases Z:b∈fs
 ·exact u.slot b ob q n Z hx
 ·exact⟨ob.slots,u.keep b ob q n Z hx⟩
def Un.kept (k:∀b u,h.get? b=some u->h'.get? b=some u):Un fs ex H H h h' :=
 ⟨λb Z q _ _ _=>k b Z q,λb Z q _ _ _=>⟨Z.slots,k b Z q⟩,λ_ _ _ n _=>n,λb Z q _=>⟨Z,k b Z q⟩,λ_ _ q=>q,λ_ _ _ q=>q,λ_ Y q=>⟨#[],by rw[q];simp⟩⟩
def Un.refl:Un fs ex H H h h:=Un.kept λ_ _ q=>q
def Un.laid (k:∀b u,h.get? b=some u->h'.get? b=some u) (hp:h.objs.size<=a) (hn:H a=none):Un fs ex H (upd H a o) h h' where
 keep:=λb u q _ _ _=>k b u q
 slot:=λb u q _ _ _=>⟨u.slots,k b u q⟩
 free:=λb u q n _=>by rw[bK (ë (É (Ò q) hp))];exact n
 there:=λb u q _=>⟨u,k b u q⟩
 kF:=λb Z q=>by rw[bK (fL q hn)];exact q
 jO:=λb u Z q=>by rw[bK (fL q hn)];exact q
 lE:=λb Y q=>⟨#[],by rw[bK (fL q hn),q];simp⟩
def Un.write (mu:wY (H x)) (he:e=x\/H e=some (.own x)) (k:∀b u,b≠e->h.get? b=some u->h'.get? b=some u) (uB:∃u,h'.get? e=some u):Un fs ex H (upd H x o) h h':=by
 have Y:∀b,H b=none->b≠x:=λb n z=>by subst z;rw[n] at mu;exact mu
 have X:∀b,H b=none->b≠e:=λb n z=>by
  subst z
  rcases he with r|r
  ·exact Y b n r
  ·rw[n] at r;cases r
 have Z:∀b u,H b=some u->¬ wY (some u)->b≠x:=λb u q nm z=>by subst z;rw[q] at mu;exact nm mu
 refine⟨λb u q n _ _=>k b u (X b n) q,λb u q n _ _=>⟨u.slots,k b u (X b n) q⟩,λb u q n _=>by rw[bK (Y b n)];exact n,λb u q _=>?_,
  λb V q=>by rw[bK (Z b _ q λz=>z)];exact q,λb u V q=>by rw[bK (Z b _ q λz=>z)];exact q,λb U q=>⟨#[],by rw[bK (Z b _ q λz=>z),q];simp⟩⟩
 by_cases W:b=e
 ·subst W;exact uB
 ·exact⟨u,k b u W q⟩
end
def AQ (h:Ţ) (H:Hp):List â:=(Ø h.objs.size).filter λa=>(H a).isSome
def n6 (h:Ţ) (H:Hp):Ţ:=PySem.W.hideAll h (AQ h H)
def Qo (h:Ţ) (H:Hp):(n6 h H).objs.size=h.objs.size:=PySem.W.hideAll_size _ _
def RK (e:h.get? b=some o) (n:H b=none):(n6 h H).get? b=some o :=
 PySem.W.hideAll_get _ e λZ=>by
  have q:(H b).isSome=true:=(ü.mp Z).2;rw[n] at q;simp at q
def TU (e:(n6 h H).get? b=some o):h.get? b=some o/\H b=none:=by
 have Z:h.get? b=some o:=PySem.W.of_hideAll (AQ h H) e;refine⟨Z,?_⟩
 cases q:H b with
 |none=>rfl
 |some x =>
  have Y:b∈AQ h H:=ü.mpr ⟨ñ.mpr (Ò Z),by simp[q]⟩;have z:(n6 h H).get? b=none:=PySem.W.hideAll_none (AQ h H) Y;rw[z] at e;cases e
noncomputable def TV (g h:Ţ) (L:â):List (â×Obj):=(Ø h.objs.size).filterMap λa=>if a=L\/(g.get? a).isSome=true then none else (h.get? a).map λo=>(a,o)
def rest (g h:Ţ) (L d:â):List (â×Obj):=(TV g h L).filter λp=>decide (p.1≠d)
structure Mod (K:ļ) (mg:Str->Option Ì) (base:Ţ):Prop where
 wZ:K.In base
 glob:base.Ns ø mg
 blt:∃mb,base.Ns builtinsNs mb/\∀x:Str,x≠"__name__"->mb x=Ă x
 nolimit:base.NoLimit
structure Cx where
 prog:ö
 w:Ć
 K:ļ
 mg:Str->Option Ì
 base:Ţ
 A:Đ
 N:List Str
 eM:Ç
 wA:Hp
 env:Env
 outer:List Env
 stack:List Env
 ex:List â
 fn:Str->Bool
 calm:Bool
 pn:List (â×Obj)
 xe:Ì->Ç->Prop
noncomputable def iJ (l:List Env):List â:=l.filterMap (·.frame)
abbrev Cx.fs (X:Cx):List â:=iJ X.outer
def w6 (sc:aaB) (x:Str):Prop:=sc.names.lookup x=some .local\/sc.names.lookup x=some .cell\/sc.names.lookup x=some .free
def Loc (sc:aaB) (x:Str):Prop:=sc.names.lookup x=some .local\/sc.names.lookup x=some .cell
def Look (env:Env) (h:Ţ) (m:Str->Option Ì) (x:Str) (u:Ì):Prop :=
 (env.kindOf x=some .local/\m x=some u)\/((env.kindOf x=some .cell\/env.kindOf x=some .free)/\∃c,env.cells.lookup x=some c/\h.IsCell c (some u))
structure Cx.Ok (X:Cx):Prop where
 mod:Mod X.K X.mg X.base
 kind:X.env.scope.kind=.function
 glob:X.env.globals=ø
 blt:X.env.builtins=builtinsNs
 above:X.eM.heap.objs.size<=X.env.locals
 inj:∀x y c,X.env.cells.lookup x=some c->X.env.cells.lookup y=some c->x=y
 has:∀x,(X.env.kindOf x=some .cell\/X.env.kindOf x=some .free)->∃c,X.env.cells.lookup x=some c
 rL:∀x c,X.fn x=true->X.env.cells.lookup x=some c->X.eM.heap.objs.size<=c
 hd:X.calm=true->X.A.handled=none
 frames:X.A.frames=some X.stack
 uC:X.stack=X.outer\/(X.stack=X.env::X.outer/\X.env.frame=some X.env.locals)
 AR:∀b∈X.ex,b≠X.env.locals/\∀x c,X.env.cells.lookup x=some c->c≠b
 bs:∀b o,X.base.get? b=some o->X.eM.heap.get? b=some o/\X.wA b=none
 jB:X.base.objs.size<=X.eM.heap.objs.size
 mW:∀b o,X.base.get? b=some o->b∉X.ex
 ua:∀b∈X.ex,b∉X.fs
 jP:X.eM.heap.FunFrames X.base X.outer
 pw:∀b∈X.fs,X.wA b=none
structure Inv (X:Cx) (π:List (â×Obj)) (σ:List (Option V)) (H:Hp) (s:Ç):Prop where
 ok:X.Ok
 os:s.os=X.eM.os
 bare:AllBare s.gens
 base:Un X.fs X.ex X.wA H X.eM.heap s.heap
 loc:∃m,s.heap.Ns X.env.locals m/\∀(i:Nat) (x:Str) (v:V),X.N[i]?=some x->σ[i]?=some (some v)->w6 X.env.scope x->∃u,RelV v u/\Look X.env s.heap m x u
 cell:∀x c,X.env.cells.lookup x=some c->∃v,s.heap.IsCell c v
 free:H X.env.locals=none
 fN:∀x c,X.env.cells.lookup x=some c->H c=none
 pin:∀p∈X.pn++π,s.heap.get? p.1=some p.2/\H p.1=none/\p.1≠X.env.locals/\p.1∉X.fs/\∀v,p.2.data≠.cell v
 aH:cM X.prog X.w H s.heap
 len:σ.length=X.N.length
section
variable {X:Cx} {π:List (â×Obj)} {σ:List (Option V)} {H H':Hp} {s:Ç} {h':Ţ}
def Cx.Ok.Yo (ok:X.Ok) (e:X.base.get? b=some o):b∉X.fs:=λZ=>by
 have:=(ok.jP.mem Z).1;rw[e] at this;cases this
theorem Inv.bs (I:Inv X π σ H s):∀b o,X.base.get? b=some o->s.heap.get? b=some o/\H b=none:=λb o e =>
 ⟨I.base.keep b o (I.ok.bs b o e).1 (I.ok.bs b o e).2 (I.ok.Yo e) (I.ok.mW b o e),I.base.free b o (I.ok.bs b o e).1 (I.ok.bs b o e).2 (I.ok.mW b o e)⟩
def Inv.bk (I:Inv X π σ H s):∀b o,X.base.get? b=some o->s.heap.get? b=some o:=λb o e=>(I.bs b o e).1
theorem Inv.mod (I:Inv X π σ H s):Mod X.K X.mg X.base:=I.ok.mod
def Inv.uD (I:Inv X π σ H s):X.K.In s.heap:=I.ok.mod.wZ.keeps I.bk
theorem Inv.lt (I:Inv X π σ H s):X.env.locals<s.heap.objs.size:=let ⟨_,Z,_⟩:=I.loc;Z.lt
def Inv.sz (I:Inv X π σ H s):X.eM.heap.objs.size<=s.heap.objs.size:=Û I.ok.above (Nat.le_of_lt I.lt)
def Inv.qX (I:Inv X π σ H s) {a:â} (h:s.heap.objs.size<=a):a∉X.fs:=λZ=>by
 obtain⟨_,o,Y,_⟩:=I.ok.jP.mem Z;exact absurd (É (Ò Y) (Û I.sz h)) (ì _)
def Inv.rM (I:Inv X π σ H s):∀x c,X.env.cells.lookup x=some c->c≠X.env.locals:=λx c e z=>by
 obtain⟨v,o,Z,Y⟩:=I.cell x c e;obtain⟨m,⟨U,T,S,W,V,_⟩,_⟩:=I.loc;rw[z,W] at Z;cases Z;rw[V] at Y;cases Y
theorem Inv.jP (I:Inv X π σ H s):s.heap.FunFrames X.base X.outer:=by
 have all:∀(l:List Env),(∀b∈iJ l,b∈X.fs)->X.eM.heap.FunFrames X.base l->s.heap.FunFrames X.base l:=by
  intro l
  induction l with
  |nil=>intro _ _;trivial
  |cons env r ih =>
   intro hs V;obtain⟨U,⟨L,o,Z,T,S,R⟩,Q⟩:=V;have Y:L∈X.fs:=hs L (by unfold iJ;rw[aaO,Z];exact Î);obtain⟨P,e⟩:=I.base.slot L o S (I.ok.pw L Y) Y λz=>I.ok.ua L z Y;exact⟨U,⟨L,_,Z,T,e,R⟩,ih (λb W=>hs b (by unfold iJ;rw[aaO,Z];exact Ï _ W)) Q⟩
 exact all X.outer (λ_ W=>W) I.ok.jP
theorem Inv.stack (I:Inv X π σ H s):s.heap.FunFrames X.base X.stack:=by
 rcases I.ok.uC with e | ⟨e,Z⟩
 ·rw[e];exact I.jP
 ·rw[e]
  obtain⟨m,Y,_⟩:=I.loc;refine .cons (by rw[I.ok.kind];decide) Z Y ?_ I.jP;exact Heap.get?_none_of_le (Û I.ok.jB I.ok.above)
def Inv.lh (I:Inv X π σ H s):∀b∈iJ X.stack,b∈X.env.locals::X.fs:=λb Z=>by
 rcases I.ok.uC with e | ⟨e,Y⟩
 ·rw[e] at Z;exact Ï _ Z
 ·rw[e] at Z
  unfold iJ at Z;rw[aaO,Y] at Z;exact Z
def Inv.Cw (I:Inv X π σ H s):∀b∈iJ X.stack,H b=none:=λb hb=>by
 rcases Ó.mp (I.lh b hb) with e|hb
 ·rw[e];exact I.free
 ·obtain⟨_,o,Z,_⟩:=I.ok.jP.mem hb
  exact I.base.free b o Z (I.ok.pw b hb) λz=>I.ok.ua b z hb
def Inv.step {g':Array GenState} {t':Nat} {d':Drawn} {ch:List â} (I:Inv X π σ H s)
  (m8:∀b∈ch,(b∈X.ex\/X.eM.heap.objs.size<=b)/\b≠X.env.locals/\(∀x c,X.env.cells.lookup x=some c->c≠b)/\∀p∈X.pn++π,p.1≠b)
  (keep:∀b o,b≠X.env.locals->b∉X.fs->b∉ch->s.heap.get? b=some o->H b=none->h'.get? b=some o)
  (slot:∀b o,b≠X.env.locals->b∈X.fs->b∉ch->s.heap.get? b=some o->H b=none->∃sl,h'.get? b=some { o with slots:=sl }) (free:∀b o,b∉ch->s.heap.get? b=some o->H b=none->H' b=none)
  (there:∀b o,b∉ch->s.heap.get? b=some o->∃o',h'.get? b=some o')
  (kF:∀b xs,H b=some (.tup xs)->H' b=some (.tup xs)) (jO:∀b o u,H b=some (.dw o u)->H' b=some (.dw o u)) (lE:∀b ps,H b=some (.rH ps)->∃more,H' b=some (.rH (ps++more)))
  (ns:∀m,s.heap.Ns X.env.locals m->h'.Ns X.env.locals m) (aH:cM X.prog X.w H' h') (hg:AllBare g') :
  Inv X π σ H' { s with heap:=h',gens:=g',drawn:=d',toks:=t' }:=by
 have S:∀b o,X.eM.heap.get? b=some o->b≠X.env.locals:=λb o e=>ë (É (Ò e) I.ok.above);have U:∀b o,X.eM.heap.get? b=some o->b∉X.ex->b∉ch:=λb o e Z Y=>by
  rcases(m8 b Y).1 with z|z
  ·exact Z z
  ·exact absurd (É (Ò e) z) (ì _)
 have cellK:∀x c,X.env.cells.lookup x=some c->∀v,s.heap.IsCell c v->h'.IsCell c v:=λx c e v ⟨o,W,T⟩=>by
  have V:c∉ch:=λz=>(m8 c z).2.2.1 x c e rfl;by_cases R:c∈X.fs
  ·obtain⟨sl,q⟩:=slot c o (I.rM x c e) R V W (I.fN x c e)
   exact⟨_,q,T⟩
  ·exact⟨o,keep c o (I.rM x c e) R V W (I.fN x c e),T⟩
 refine⟨I.ok,I.os,hg,⟨λb o e n Y Z=>?_,λb o e n Y Z=>?_,λb o e n Z=>?_,λb o e Z=>?_,λb xs e=>kF b xs (I.base.kF b xs e),λb o xs e=>jO b o xs (I.base.jO b o xs e),λb ps e=>?_⟩,?_,λx c e=>?_,?_,λx c e=>?_,λp Q=>?_,aH,I.len⟩
 ·exact keep b o (S b o e) Y (U b o e Z) (I.base.keep b o e n Y Z) (I.base.free b o e n Z)
 ·obtain⟨sl,e1⟩:=I.base.slot b o e n Y Z
  obtain⟨O,e2⟩:=slot b _ (S b o e) Y (U b o e Z) e1 (I.base.free b o e n Z);exact⟨O,e2⟩
 ·obtain⟨o',e1⟩:=I.base.there b o e Z
  exact free b o' (U b o e Z) e1 (I.base.free b o e n Z)
 ·obtain⟨o',e1⟩:=I.base.there b o e Z
  exact there b o' (U b o e Z) e1
 ·obtain⟨N,e1⟩:=I.base.lE b ps e
  obtain⟨M,e2⟩:=lE b _ e1;exact⟨N++M,by rw[e2,Array.append_assoc]⟩
 ·obtain⟨m,L,K⟩:=I.loc
  refine⟨m,ns m L,λi x v e1 e2 J=>?_⟩;obtain⟨u,r,l⟩:=K i x v e1 e2 J;refine⟨u,r,?_⟩
  rcases l with l | ⟨k,c,e,z⟩
  ·exact .inl l
  ·exact .inr ⟨k,c,e,cellK x c e _ z⟩
 ·obtain⟨v,z⟩:=I.cell x c e
  exact⟨v,cellK x c e v z⟩
 ·obtain⟨m,⟨o,_,_,W,_⟩,_⟩:=I.loc
  exact free _ o (λz=>(m8 _ z).2.1 rfl) W I.free
 ·obtain⟨v,o,W,T⟩:=I.cell x c e
  exact free c o (λz=>(m8 c z).2.2.1 x c e rfl) W (I.fN x c e)
 ·obtain⟨e,n,ne,P,d⟩:=I.pin p Q
  have V:p.1∉ch:=λz=>(m8 p.1 z).2.2.2 p Q rfl;exact⟨keep p.1 p.2 ne P V e n,free p.1 p.2 V e n,ne,P,d⟩
def Inv.un {t':Nat} (I:Inv X π σ H s) (u:Un X.fs [] H H' s.heap h') (aH:cM X.prog X.w H' h'):Inv X π σ H' { s with heap:=h',toks:=t' }:=by
 obtain⟨m,⟨o,Q,P,Y,r⟩,_⟩:=id I.loc;obtain⟨O,V⟩:=u.any Y I.free (by simp)
 exact I.step (g':=s.gens) (d':=s.drawn) (ch:=[]) (λ_ z=>nomatch z) (λb o _ Z _ e n=>u.keep b o e n Z (by simp)) (λb o _ Z _ e n=>u.slot b o e n Z (by simp)) (λb o _ e n=>u.free b o e n (by simp)) (λb o _ e=>u.there b o e (by simp)) u.kF u.jO u.lE (λN U=>by
  obtain⟨M,T,S,W,R⟩:=U;rw[Y] at W;cases W;exact⟨_,T,S,V,R⟩) aH I.bare
def Inv.call {g':Array GenState} {t':Nat} {d':Drawn} {ch:List â} (I:Inv X π σ H s) (u:Un (iJ X.stack) ch H H' s.heap h') (aH:cM X.prog X.w H' h') (hg:AllBare g')
  (m8:∀b∈ch,(b∈X.ex\/X.eM.heap.objs.size<=b)/\b≠X.env.locals/\(∀x c,X.env.cells.lookup x=some c->c≠b)/\∀p∈X.pn++π,p.1≠b) :
  Inv X π σ H' { s with heap:=h',gens:=g',drawn:=d',toks:=t' }:=by
 obtain⟨m,⟨o,P,O,W,r⟩,_⟩:=id I.loc;obtain⟨N,Y⟩:=u.any W I.free λz=>(m8 _ z).2.1 rfl;exact I.step (ch:=ch) m8 (λb o Y U Z e n=>u.keep b o e n (λz=>(Ó.mp (I.lh b z)).elim Y U) Z) (λb o _ _ Z e n=>u.any e n Z) (λb o Z e n=>u.free b o e n Z) (λb o Z e=>u.there b o e Z) u.kF u.jO u.lE (λM T=>by
  obtain⟨L,S,R,V,Q⟩:=T;rw[W] at V;cases V;exact⟨_,S,R,Y,Q⟩) aH hg
def Inv.turned {t':Nat} {it:â} (I:Inv X π σ H s) (k:∀b o,b≠it->s.heap.get? b=some o->h'.get? b=some o) (hn:H it=none) (hL:it≠X.env.locals)
  (h1:it∈X.ex\/X.eM.heap.objs.size<=it) (h2:∀x c,X.env.cells.lookup x=some c->c≠it) (h3:∀p∈X.pn++π,p.1≠it):Inv X π σ H { s with heap:=h',toks:=t' }:=by
 have Y:∀b u,H b=some u->b≠it:=λb u e z=>by rw[z,hn] at e;cases e
 refine I.step (g':=s.gens) (d':=s.drawn) (ch:=[it]) (λb W=>?_) (λb o _ _ Z e _=>k b o (λz=>Z (by simp[z])) e) (λb o _ _ Z e _=>⟨o.slots,k b o (λz=>Z (by simp[z])) e⟩) (λ_ _ _ _ n=>n)
  (λb o Z e=>⟨o,k b o (λz=>Z (by simp[z])) e⟩) (λ_ _ e=>e) (λ_ _ _ e=>e) (λb R e=>⟨#[],by rw[e];simp⟩) (λm V=>?_) (λb u e=>?_) I.bare
 ·have e:b=it:=by simpa using W
  subst e;exact⟨h1,hL,h2,h3⟩
 ·obtain⟨o,U,T,S,r⟩:=V
  exact⟨o,U,T,k _ o (œ hL) S,r⟩
 ·refine(I.aH b u e).gb (λc v Z q=>k c v ?_ q) (λ_ q=>q) λ_ _ q=>q
  rcases Z with z|z
  ·rw[z];exact Y b u e
  ·exact Y c _ z
def Inv.tok (I:Inv X π σ H s) (t:Nat):Inv X π σ H { s with toks:=t }:=I.un (h':=s.heap) (t':=t) Un.refl I.aH
theorem Inv.kept (I:Inv X π σ H s) (k:∀b u,s.heap.get? b=some u->h'.get? b=some u):Inv X π σ H { s with heap:=h',toks:=t' }:=I.un (Un.kept k) (I.aH.kept k)
theorem Inv.laid {a:â} {o:HO} {t':Nat} (I:Inv X π σ H s) (k:∀b u,s.heap.get? b=some u->h'.get? b=some u) (hp:s.heap.objs.size<=a) (new:dX X.prog X.w (upd H a o) h' a o) :
  Inv X π σ (upd H a o) { s with heap:=h',toks:=t' }:=I.un (Un.laid k hp (I.aH.fresh hp)) (I.aH.laid k hp new)
theorem Inv.write (I:Inv X π σ H s) (mu:wY (H x)) (he:e=x\/H e=some (.own x)) (k:∀b u,b≠e->s.heap.get? b=some u->h'.get? b=some u) (uB:∃u,h'.get? e=some u)
 (new:dX X.prog X.w (upd H x o) h' x o):Inv X π σ (upd H x o) { s with heap:=h',toks:=t' }:=I.un (Un.write mu he k uB) (I.aH.write mu he k uB new)
def Inv.i7 (I:Inv X π σ H s) (h:∀p∈pins',s.heap.get? p.1=some p.2/\H p.1=none/\p.1≠X.env.locals/\p.1∉X.fs/\∀v,p.2.data≠.cell v):Inv X pins' σ H s :=
 ⟨I.ok,I.os,I.bare,I.base,I.loc,I.cell,I.free,I.fN,λp Z=>(ä.mp Z).elim (λz=>I.pin p (ī _ z)) (h p),I.aH,I.len⟩
def IM {N:List Str} (hN:N.Nodup) {i j:Nat} {x:Str} (a:N[i]?=some x) (b:N[j]?=some x):i=j:=by
 obtain⟨Z,e1⟩:=Å.mp a;obtain⟨Y,e2⟩:=Å.mp b;exact(List.getElem_inj hN).mp (e1.trans e2.symm)
def Qp {M:Model} {A:Đ} {E:Ì->Ç->Prop} {i:Nat} {x:Str} {v:V} {u:Ì} {Q:Unit->Ç->Prop} (I:Inv X π σ H s) (hN:X.N.Nodup) (hi:X.N[i]?=some x) (hx:Loc X.env.scope x) (r:RelV v u)
  (h:∀s',Inv X π (σ.set i (some v)) H s'->(∃a,Ľ a s.heap s'.heap/\(a=X.env.locals\/X.env.cells.lookup x=some a))->Q () s') (hf:X.fn x=true\/X.env.scope.names.lookup x=some .local:=by first|exact .inl rfl|exact .inr rfl|assumption):Ü M A (storeName X.env x u) Q E s:=by
 obtain⟨m,T,D⟩:=id I.loc;have Yp:(X.env.scope.kind==.class||(X.env.scope.kind==.module&&X.env.locals != X.env.globals))=false:=by rw[I.ok.kind];rfl
 have C:i < σ.length:=by rw[I.len];exact(Å.mp hi).1
 have rM:=I.rM;have tracked:∀{a:â} {h':Ţ},(∃o,s.heap.get? a=some o/\H a=none)->Ľ a s.heap h'->cM X.prog X.w H h':=λ{a h'} ha hs b ob e=>by
  obtain⟨_,_,B⟩:=ha;refine(I.aH b ob e).gb (λc W hc q=>(hs.2 c ?_).trans q) (λ_ q=>q) λ_ _ q=>q;rintro rfl
  rcases hc with rfl|hc
  ·rw[B] at e;cases e
  ·rw[B] at hc;cases hc
 rcases hx with hk|hk
 ·refine wpAny_storeName_local hk T (λh' Na hs=>?_) Yp
  obtain⟨oL,_,_,xb,_⟩:=id T;refine h _ ⟨I.ok,I.os,I.bare,⟨λb o e n Z hx=>?_,λb o e n Z hx=>?_,I.base.free,λb o e hx=>?_,I.base.kF,I.base.jO,I.base.lE⟩,⟨_,Na,λj y S e1 e2 R=>?_⟩,λy c e=>?_,I.free,I.fN,λp P=>?_,tracked ⟨oL,xb,I.free⟩ hs,by simpa using I.len⟩ ⟨_,hs,.inl rfl⟩
  ·exact(hs.2 b (ë (É (Ò e) I.ok.above))).trans (I.base.keep b o e n Z hx)
  ·obtain⟨O,e1⟩:=I.base.slot b o e n Z hx
   exact⟨O,(hs.2 b (ë (É (Ò e) I.ok.above))).trans e1⟩
  ·obtain⟨L,e1⟩:=I.base.there b o e hx
   exact⟨L,(hs.2 b (ë (É (Ò e) I.ok.above))).trans e1⟩
  ·by_cases Y:j=i
   ·subst Y
    rw[hi] at e1;cases e1;rw[ç C] at e2;cases e2;exact⟨u,r,.inl ⟨hk,by simp⟩⟩
   ·rw[Ý (œ Y)] at e2
    obtain⟨K,J,q⟩:=D j y S e1 e2 R;refine⟨K,J,?_⟩
    rcases q with ⟨k,e⟩ | ⟨k,c,e,z⟩
    ·refine .inl ⟨k,?_⟩
     have:y≠x:=λe=>Y (IM hN e1 (e ▸ hi));simp[this,e]
    ·exact .inr ⟨k,c,e,z.sameBut hs (rM y c e)⟩
  ·obtain⟨W,z⟩:=I.cell y c e
   exact⟨W,z.sameBut hs (rM y c e)⟩
  ·obtain⟨e,n,ne,G,d⟩:=I.pin p P
   exact⟨(hs.2 p.1 ne).trans e,n,ne,G,d⟩
 ·have F:X.fn x=true:=by
   rcases hf with z|z
   ·exact z
   ·rw[z] at hk;cases hk
  obtain⟨c,hc⟩:=I.ok.has x (.inl hk);obtain⟨W,z⟩:=I.cell x c hc;refine wpAny_storeName_cell I.ok.kind hk hc z (λh' t hs=>?_);obtain⟨l,g,Yq⟩:=id z
  refine h { s with heap:=h' } ⟨I.ok,I.os,I.bare,⟨λb o e n Z hx=>?_,λb o e n Z hx=>?_,I.base.free,λb o e hx=>?_,I.base.kF,I.base.jO,I.base.lE⟩,⟨m,T.sameBut hs (œ (rM x c hc)),λj y S e1 e2 R=>?_⟩,λy U e=>?_,I.free,I.fN,λp P=>?_,tracked ⟨l,g,I.fN x c hc⟩ hs,by simpa using I.len⟩ ⟨c,hs,.inr hc⟩
  ·exact(hs.2 b (ë (É (Ò e) (I.ok.rL x c F hc)))).trans (I.base.keep b o e n Z hx)
  ·obtain⟨O,e1⟩:=I.base.slot b o e n Z hx
   exact⟨O,(hs.2 b (ë (É (Ò e) (I.ok.rL x c F hc)))).trans e1⟩
  ·obtain⟨L,e1⟩:=I.base.there b o e hx
   exact⟨L,(hs.2 b (ë (É (Ò e) (I.ok.rL x c F hc)))).trans e1⟩
  ·by_cases Y:j=i
   ·subst Y
    rw[hi] at e1;cases e1;rw[ç C] at e2;cases e2;exact⟨u,r,.inr ⟨.inl hk,c,hc,t⟩⟩
   ·rw[Ý (œ Y)] at e2
    obtain⟨K,J,q⟩:=D j y S e1 e2 R;refine⟨K,J,?_⟩
    rcases q with q | ⟨k,U,e,z'⟩
    ·exact .inl q
    ·refine .inr ⟨k,U,e,z'.sameBut hs ?_⟩
     rintro rfl;exact Y (IM hN e1 (I.ok.inj _ _ _ e hc ▸ hi))
  ·by_cases f:U=c
   ·subst f;exact⟨_,t⟩
   ·obtain⟨w2,z2⟩:=I.cell y U e
    exact⟨w2,z2.sameBut hs f⟩
  ·obtain⟨e,n,ne,G,d⟩:=I.pin p P
   refine⟨(hs.2 p.1 ?_).trans e,n,ne,G,d⟩;intro q;rw[q,g] at e;have q':l=p.2:=acs e;exact d W (by rw[<- q'];exact Yq)
def nD (I:Inv X π σ H s) (hN:X.N.Nodup) (hi:X.N[i]?=some x) (hx:Loc X.env.scope x) (r:RelV v u)
 (h:∀s',Inv X π (σ.set i (some v)) H s'->Q () s') (hf:X.fn x=true\/X.env.scope.names.lookup x=some .local:=by first|exact .inl rfl|exact .inr rfl|assumption):Ü M A (storeName X.env x u) Q E s :=
 Qp I hN hi hx r (λs' Z _=>h s' Z) hf
def Inv.zU (I:Inv X π σ H s) (ho:s'.os=s.os) (u:Un (iJ X.stack) ch H H' s.heap s'.heap) (aH:cM X.prog X.w H' s'.heap) (hg:AllBare s'.gens)
 (m8:∀b∈ch,(b∈X.ex\/X.eM.heap.objs.size<=b)/\b≠X.env.locals/\(∀x c,X.env.cells.lookup x=some c->c≠b)/\∀p∈X.pn++π,p.1≠b):Inv X π σ H' s':=by
 obtain⟨h',g',d',t',Z⟩:=s';have e:Z=s.os:=ho;subst e;exact I.call (g':=g') (t':=t') (d':=d') u aH hg m8
end
abbrev XK:=Ì->Option â->Hp->Prop
noncomputable abbrev St:=List (Option V)
abbrev VK:=V->Hp->Prop
abbrev TE:=St->Hp->VK->Prop
abbrev TT:=St->Hp->(Bool->Hp->Prop)->Prop
abbrev TA:=St->Hp->(List V->Hp->Prop)->Prop
structure Ends where
 nx:St->Hp->Prop
 rt:VK
 bk:St->Hp->Prop:=λ_ _=>False
 ct:St->Hp->Prop:=λ_ _=>False
abbrev TS:=Ends->St->Hp->Prop
def EP (X:Cx) (π:List (â×Obj)) (σ:St) (Q:VK) (u:Ì) (s':Ç):Prop:=∃v Z,Inv X π σ Z s'/\RelV v u/\Q v Z
def TP (X:Cx) (π:List (â×Obj)) (σ:St) (Q:Bool->Hp->Prop) (b:Bool) (s':Ç):Prop:=∃Z,Inv X π σ Z s'/\Q b Z
def AP (X:Cx) (π:List (â×Obj)) (σ:St) (Q:List V->Hp->Prop) (us:List Ì) (s':Ç):Prop:=∃Z Y,Inv X π σ Y s'/\Vals Z us/\Q Z Y
def SP (X:Cx) (π:List (â×Obj)) (D:Ends) (f:Flow) (s':Ç):Prop :=
 match f with
 | .next=>∃ Y Z,Inv X π Y Z s'/\D.nx Y Z
 | .brk=>∃ Y Z,Inv X π Y Z s'/\D.bk Y Z
 | .cont=>∃ Y Z,Inv X π Y Z s'/\D.ct Y Z
 | .ret u=>∃v Y Z,Inv X π Y Z s'/\RelV v u/\D.rt v Z
def PE (X:Cx) (e:Ņ) (t:TE):Prop :=
 ∀(Z:List (â×Obj)) (s:Ç) (σ:St) (H:Hp) (Q:VK),Inv X Z σ H s->t σ H Q->Ü (í X.prog X.w) X.A (ś e X.env) (EP X Z σ Q) X.xe s
def PT (X:Cx) (e:Ņ) (t:TT):Prop :=
 ∀(Z:List (â×Obj)) (s:Ç) (σ:St) (H:Hp) (Q:Bool->Hp->Prop),Inv X Z σ H s->t σ H Q->Ü (í X.prog X.w) X.A (aci e X.env (ś e X.env)) (TP X Z σ Q) X.xe s
def PW (X:Cx) (e:Ņ) (t:TT):Prop :=
 ∀(whole:Sem Ì) (Z:List (â×Obj)) (s:Ç) (σ:St) (H:Hp) (Q:Bool->Hp->Prop),Inv X Z σ H s->t σ H Q->Ü (í X.prog X.w) X.A (aci e X.env whole) (TP X Z σ Q) X.xe s
def PW.pt (h:PW X e t):PT X e t:=h _
def PA (X:Cx) (es:List Ņ) (t:TA):Prop :=
 ∀(pos:Pos) (Z:List (â×Obj)) (s:Ç) (σ:St) (H:Hp) (Q:List V->Hp->Prop),Inv X Z σ H s->t σ H Q->Ü (í X.prog X.w) X.A (spliced (χ pos (Þ es X.env))) (AP X Z σ Q) X.xe s
def PS (X:Cx) (st:Stmt) (t:TS):Prop :=
 ∀(Z:List (â×Obj)) (s:Ç) (σ:St) (H:Hp) (D:Ends),Inv X Z σ H s->t D σ H->Ü (í X.prog X.w) X.A (exec st X.env) (SP X Z D) X.xe s
def fx (X:Cx) (st:List Stmt) (t:TS):Prop :=
 ∀(Z:List (â×Obj)) (s:Ç) (σ:St) (H:Hp) (D:Ends),Inv X Z σ H s->t D σ H->Ü (í X.prog X.w) X.A (execs st X.env) (SP X Z D) X.xe s
def aG {α:Type} {t:Sem α} {Q Q':α->Ç->Prop} {M:Model} {A:Đ} {E:Ì->Ç->Prop} {s:Ç} (h:Ü M A t Q E s) (hQ:∀a s,Q a s->Q' a s):Ü M A t Q' E s:=ĝ h hQ λ_ _ x=>x
section
variable {X:Cx}
def Yr (i:Nat):TE:=fun σ H Q=>∃v,σ[i]?=some (some v)/\Q v H
def tC (v:V):TE:=λ_ H Q=>Q v H
def VG {i:Nat} {x:Str} {pos:Pos} (hN:X.N[i]?=some x) (hv:w6 X.env.scope x) (hd:(x==("__debug__":Str))=false:=by decide) (lR:(x==("__classdict__":Str))=false:=by decide):PE X (.Name x pos) (Yr i):=by
 intro W s σ H Q I h;obtain⟨v,e,h⟩:=h;obtain⟨m,V,U⟩:=I.loc;obtain⟨u,r,l⟩:=U i x v hN e hv;have fin:EP X W σ Q u s:=⟨v,H,I,r,h⟩
 rcases l with ⟨hk,T⟩ | ⟨hk,c,Z,Y⟩
 ·exact wpAny_Name (wpAny_loadName_local I.ok.kind hk V T fin) hd
 ·rcases hk with hk|hk
  ·exact wpAny_Name (wpAny_loadName_cell I.ok.kind hk Z Y fin) hd
  ·exact wpAny_Name (wpAny_loadName_free I.ok.kind hk Z Y fin lR) hd
def KO {i j pos}:PE X (.Constant (.int i) j pos) (tC (.int i)):=λ_ _ _ H _ I h=>wpAny_Constant_int ⟨.int i,H,I.tok _,⟨_,rfl⟩,h⟩
def Xb {b j pos}:PE X (.Constant (.bool b) j pos) (tC (.bl b)):=λ_ _ _ H _ I h=>Constant_bool ⟨.bl b,H,I,rfl,h⟩
def KP {j pos}:PE X (.Constant .none j pos) (tC .au):=λ_ _ _ H _ I h=>Constant_none ⟨.au,H,I,rfl,h⟩
def VH {x j pos}:PE X (.Constant (.str x) j pos) (tC (.str x)):=λ_ _ _ H _ I h=>Calls.Constant_str ⟨.str x,H,I.tok _,⟨_,rfl⟩,h⟩
def Gl (X:Cx) (x:Str):Prop:=X.env.kindOf x=some .globalImplicit
def JM {E:Ì->Ç->Prop} {π:List (â×Obj)} {s:Ç} {σ:St} {H:Hp} {x:Str} {u:Ì} {pos:Pos} {Q:Ì->Ç->Prop} (I:Inv X π σ H s) (hg:Gl X x) (hm:X.mg x=some u) (h:Q u s)
  (hd:(x==("__debug__":Str))=false:=by decide):Ü (í X.prog X.w) X.A (ś (.Name x pos) X.env) Q E s :=
 Calls.Name_function_global I.ok.kind hg (Calls.loadGlobal_global (by rw[I.ok.glob];exact I.mod.glob.keeps I.bk) hm h) hd
def nL {E:Ì->Ç->Prop} {π:List (â×Obj)} {s:Ç} {σ:St} {H:Hp} {x:Str} {u:Ì} {pos:Pos} {Q:Ì->Ç->Prop} (I:Inv X π σ H s) (hg:Gl X x) (hm:X.mg x=none) (hv:Ă x=some u) (h:Q u s)
  (hn:x≠"__name__":=by decide) (hd:(x==("__debug__":Str))=false:=by decide):Ü (í X.prog X.w) X.A (ś (.Name x pos) X.env) Q E s:=by
 obtain⟨W,Z,Y⟩:=I.mod.blt;exact Calls.Name_function_global I.ok.kind hg (Calls.loadGlobal_builtin (by rw[I.ok.glob];exact I.mod.glob.keeps I.bk) hm (by rw[I.ok.blt];exact Z.keeps I.bk) ((Y x hn).trans hv) h) hd
def JN (hg:Gl X x) (hm:X.mg x=some u) (r:RelV v u) (hd:(x==("__debug__":Str))=false:=by decide):PE X (.Name x pos) (tC v) :=
 λ_ _ _ H _ I h=>JM I hg hm ⟨v,H,I,r,h⟩ hd
def Cy {x:Str} {v:V} {u:Ì} {pos:Pos} (hg:Gl X x) (hm:X.mg x=none) (hv:Ă x=some u) (r:RelV v u) (hn:x≠"__name__":=by decide) (hd:(x==("__debug__":Str))=false:=by decide):PE X (.Name x pos) (tC v) :=
 λ_ _ _ H _ I h=>nL I hg hm hv ⟨v,H,I,r,h⟩ hn hd
variable {a b:Ņ} {ta tb:TE} {pos:Pos}
variable {tA AU:TT} {rest:List Ņ}
def dh (t u:TT):TT:=fun σ H Q=>t σ H λc Z=>if c=true then u σ Z Q else Q false Z
def iW (t u:TT):TT:=fun σ H Q=>t σ H λc Z=>if c=true then Q true Z else u σ Z Q
def ig (t:TT):TT:=fun σ H Q=>t σ H λc Z=>Q (!c) Z
def TX (ha:PT X a tA):PW X (.BoolOp .And [a] pos) tA:=by
 intro Y Z s σ H Q I h;refine isTrue_and (aG (ha Z s σ H Q I h) λc W e=>?_)
 cases c with
 |true=>exact isTrue_and_nil e
 |false=>exact e
def VI (ha:PT X a tA):PW X (.BoolOp .Or [a] pos) tA:=by
 intro Y Z s σ H Q I h;refine isTrue_or (aG (ha Z s σ H Q I h) λc W e=>?_)
 cases c with
 |false=>exact isTrue_or_nil e
 |true=>exact e
def VJ (ha:PT X a tA) (hb:PW X (.BoolOp .And (b::rest) pos) AU):PW X (.BoolOp .And (a::b::rest) pos) (dh tA AU):=by
 intro U Z s σ H Q I h;refine isTrue_and (aG (ha Z s σ H _ I h) λc T ⟨Y,W,V⟩=>?_)
 cases c with
 |true=>exact hb U Z T σ Y Q W V
 |false=>exact⟨Y,W,V⟩
def Xc (ha:PT X a tA) (hb:PW X (.BoolOp .Or (b::rest) pos) AU):PW X (.BoolOp .Or (a::b::rest) pos) (iW tA AU):=by
 intro U Z s σ H Q I h;refine isTrue_or (aG (ha Z s σ H _ I h) λc T ⟨Y,W,V⟩=>?_)
 cases c with
 |true=>exact⟨Y,W,V⟩
 |false=>exact hb U Z T σ Y Q W V
def VL (ha:PT X a tA):PT X (.UnaryOp .Not a pos) (ig tA):=by
 intro Z s σ H Q I h;exact isTrue_not (ha Z s σ H (λc Y=>Q (!c) Y) I h)
def Xd (ta tb:TE):TE:=fun σ H Q=>ta σ H λx Z=>∃c,x=.bl c/\if c=true then tb σ Z Q else Q (.bl false) Z
def Ys (ta tb:TE):TE:=fun σ H Q=>ta σ H λx Z=>∃c,x=.bl c/\if c=true then Q (.bl true) Z else tb σ Z Q
def Xe (ta:TE):TE:=fun σ H Q=>ta σ H λx Z=>∃c,x=.bl c/\Q (.bl (!c)) Z
def VM {op} (h:PE X a t):PE X (.BoolOp op [a] pos) t:=λZ s σ H Q I hw=>BoolOp_one (h Z s σ H Q I hw)
def VN (ha:PE X a ta) (hb:PE X (.BoolOp .And (b::rest) pos) tb):PE X (.BoolOp .And (a::b::rest) pos) (Xd ta tb):=by
 intro Y s σ H Q I h;refine BoolOp_and (aG (ha Y s σ H _ I h) λv U ⟨x,W,V,T,Z⟩=>?_);obtain⟨c,rfl,Z⟩:=Z;cases T;refine ĺ ?_
 cases c with
 |true=>exact hb Y U σ W Q V Z
 |false=>exact⟨.bl false,W,V,rfl,Z⟩
def Xf (ha:PE X a ta) (hb:PE X (.BoolOp .Or (b::rest) pos) tb):PE X (.BoolOp .Or (a::b::rest) pos) (Ys ta tb):=by
 intro Y s σ H Q I h;refine BoolOp_or (aG (ha Y s σ H _ I h) λv U ⟨x,W,V,T,Z⟩=>?_);obtain⟨c,rfl,Z⟩:=Z;cases T;refine ĺ ?_
 cases c with
 |false=>exact hb Y U σ W Q V Z
 |true=>exact⟨.bl true,W,V,rfl,Z⟩
def VO (ha:PE X a ta):PE X (.UnaryOp .Not a pos) (Xe ta):=by
 intro Y s σ H Q I h;refine UnaryOp_ (aG (ha Y s σ H _ I h) λv T ⟨x,W,V,U,Z⟩=>?_);obtain⟨c,rfl,Z⟩:=Z;cases U;exact not_of (ĺ ⟨.bl (!c),W,V,rfl,Z⟩)
def Zn (t:TT) (ta tb:TE):TE:=fun σ H Q=>t σ H λc Z=>if c=true then ta σ Z Q else tb σ Z Q
def RL {c:Ņ} (hc:PT X c tA) (ha:PE X a ta) (hb:PE X b tb):PE X (.IfExp c a b pos) (Zn tA ta tb):=by
 intro Z s σ H Q I h;refine wpAny_IfExp (aG (hc Z s σ H _ I h) λd Y ⟨W,V,U⟩=>?_)
 cases d with
 |true=>exact ha Z Y σ W Q V U
 |false=>exact hb Z Y σ W Q V U
end
def bq (K:ļ) (H:Hp) (a:â) (xs:List V):Prop :=
 Rd H a (.lst xs) \/
  ∃(o:Obj) (its:Array Ì) (n:Nat),K.lookup a=some o/\o.cls=.type "list"/\o.dict=none/\o.data=.seq its n/\its.size<=Õ/\Vals xs its.toList
def bo (K:ļ) (H:Hp) (a:â) (xs:List V):Prop :=
 Rd H a (.tup xs) \/
  ∃(o:Obj) (its:Array Ì) (n:Nat),K.lookup a=some o/\o.cls=.type "tuple"/\o.data=.seq its n/\its.size<=Õ/\Vals xs its.toList
noncomputable def Yt:Ì->Option V
 | .none=>some .au
 | .bool b=>some (.bl b)
 | .int i _=>some (.int i)
 | .str x _=>some (.str x)
 | .bytes b _=>some (.jX b)
 | .float b _=>some (.wX b)
 | .ref a=>some (.ref a)
 | .type n=>some (.ty n)
 |_=>none
def RelV.abs (r:RelV x u):Yt u=some x:=by
 cases x with
 |au=>cases r;rfl
 |bl _=>cases r;rfl
 |int _=>obtain⟨t,rfl⟩:=r;rfl
 |str _=>obtain⟨t,rfl⟩:=r;rfl
 |jX _=>obtain⟨t,rfl⟩:=r;rfl
 |wX _=>obtain⟨t,rfl⟩:=r;rfl
 |ref _=>cases r;rfl
 |ty _=>cases r;rfl
def RelV.inj (r:RelV x u) (q:RelV y u):x=y:=acs (r.abs.symm.trans q.abs)
theorem Vals.inj:∀{xs ys:List V} {us:List Ì},Vals xs us->Vals ys us->xs=ys
 |_,_,_,.nil,.nil=>rfl
 |_,_,_,.cons r t,.cons Z Y=>by rw[r.inj Z,Vals.inj t Y]
section
variable {X:Cx} {π:List (â×Obj)} {σ:St} {H:Hp} {s:Ç} {a:â} {xs ys:List V}
def bq.of {K:ļ} (h:H a=some (.lst xs)):bq K H a xs:=.inl (.inl h)
def bo.of {K:ļ} (h:H a=some (.tup xs)):bo K H a xs:=.inl (.inl h)
def Inv.list (I:Inv X π σ H s) (h:bq X.K H a xs):∃its:List Ì,Vals xs its/\PlainL s.heap a its.toArray/\xs.length<=Õ:=by
 rcases h with h | ⟨o,its,n,Z,Y,W,hs,V,r⟩
 ·obtain⟨z,its,n,r,e⟩:=h.ok I.aH
  exact⟨its,r,⟨_,n,e,rfl,rfl,rfl⟩,z⟩
 ·refine⟨its.toList,r,⟨o,n,I.uD a o Z,Y,W,by simpa using hs⟩,?_⟩
  have e:=r.length;simp only[ý] at e;omega
def Inv.tuple (I:Inv X π σ H s) (h:bo X.K H a xs):∃its:List Ì,Vals xs its/\IsTup s.heap a its.toArray/\xs.length<=Õ:=by
 rcases h with h | ⟨o,its,n,Z,Y,hs,W,r⟩
 ·obtain⟨z,its,r,p⟩:=h.ok I.aH
  exact⟨its,r,p,z⟩
 ·refine⟨its.toList,r,⟨o,I.uD a o Z,Y,n,by simpa using hs⟩,?_⟩
  have e:=r.length;simp only[ý] at e;omega
def Inv.IQ (I:Inv X π σ H s) (h:bq X.K H a xs) (h':bq X.K H a ys):xs=ys:=by
 obtain⟨its,r,⟨o,n,e,_,_,d⟩,_⟩:=I.list h;obtain⟨Z,V,⟨T,S,Y,_,_,W⟩,_⟩:=I.list h';rw[e] at Y;cases Y;rw[d] at W
 injection W with U _
 have:its=Z:=by simpa using Ŀ Array.toList U
 subst this;exact r.inj V
def Inv.H0 (I:Inv X π σ H s) (h:bo X.K H a xs) (h':bo X.K H a ys):xs=ys:=by
 obtain⟨its,r,⟨o,e,_,n,d⟩,_⟩:=I.tuple h;obtain⟨Z,V,⟨T,Y,_,S,W⟩,_⟩:=I.tuple h';rw[e] at Y;cases Y;rw[d] at W
 injection W with U _
 have:its=Z:=by simpa using Ŀ Array.toList U
 subst this;exact r.inj V
end
noncomputable abbrev Cx.mY (X:Cx) (E:Ì->Ç->Prop):Cx:={ X with xe:=E }
noncomputable abbrev Cx.uE (X:Cx):Cx:=X.mY λ_ _=>False
theorem Cx.Ok.mY {X:Cx} (ok:X.Ok) (E:Ì->Ç->Prop):(X.mY E).Ok :=
 ⟨ok.mod,ok.kind,ok.glob,ok.blt,ok.above,ok.inj,ok.has,ok.rL,ok.hd,ok.frames,ok.uC,ok.AR,ok.bs,ok.jB,ok.mW,ok.ua,ok.jP,ok.pw⟩
def Cx.Ok.oH {X:Cx} {E:Ì->Ç->Prop} (ok:(X.mY E).Ok):X.Ok :=
 ⟨ok.mod,ok.kind,ok.glob,ok.blt,ok.above,ok.inj,ok.has,ok.rL,ok.hd,ok.frames,ok.uC,ok.AR,ok.bs,ok.jB,ok.mW,ok.ua,ok.jP,ok.pw⟩
section
variable {X:Cx} {π:List (â×Obj)} {σ:St} {H:Hp} {s:Ç} {E:Ì->Ç->Prop}
theorem Inv.mY (I:Inv X π σ H s) (E:Ì->Ç->Prop):Inv (X.mY E) π σ H s:=⟨I.ok.mY E,I.os,I.bare,I.base,I.loc,I.cell,I.free,I.fN,I.pin,I.aH,I.len⟩
theorem Inv.oH (I:Inv (X.mY E) π σ H s):Inv X π σ H s:=⟨I.ok.oH,I.os,I.bare,I.base,I.loc,I.cell,I.free,I.fN,I.pin,I.aH,I.len⟩
theorem SP.oH (h:SP (X.mY E) π D f s'):SP X π D f s':=by
 cases f with
 |next=>obtain⟨Z,Y,I,q⟩:=h;exact⟨Z,Y,I.oH,q⟩
 |brk=>obtain⟨Z,Y,I,q⟩:=h;exact⟨Z,Y,I.oH,q⟩
 |cont=>obtain⟨Z,Y,I,q⟩:=h;exact⟨Z,Y,I.oH,q⟩
 |ret u=>obtain⟨v,Z,Y,I,r,q⟩:=h;exact⟨v,Z,Y,I.oH,r,q⟩
theorem fx.uE {st:List Stmt} {t:TS} (h:fx X.uE st t):fx X st t:=λπ s σ H D I hw =>
 ĝ (h π s σ H D (I.mY _) hw) (λ_ _ q=>q.oH) λ_ _ z=>aat z
end
section
variable {X:Cx} {st:Stmt} {rest:List Stmt} {t u:TS} {e:Ņ} {te:TE} {pos:Pos}
def Xg:TS:=λD σ H=>D.nx σ H
def Yu (t u:TS):TS:=λD σ H=>t { D with nx:=u D } σ H
def TY:fx X [] Xg:=λ_ _ σ H _ I h=>wpAny_execs_nil ⟨σ,H,I,h⟩
def RM (h1:PS X st t) (h2:fx X rest u):fx X (st::rest) (Yu t u):=by
 intro Z s σ H D I h
 refine wpAny_execs_cons (aG (h1 Z s σ H { D with nx:=u D } I h) λf Y q=>?_)
 cases f with
 |next =>
  obtain⟨W,V,U,q⟩:=q;exact h2 Z Y W V D U q
 |ret v=>exact q
 |brk=>exact q
 |cont=>exact q
def TZ (h1:PS X st t):fx X [st] t:=by
 intro Z s σ H D I h;refine wpAny_execs_cons (aG (h1 Z s σ H D I h) λf Y q=>?_)
 cases f with
 |next=>exact wpAny_execs_nil q
 |ret v=>exact q
 |brk=>exact q
 |cont=>exact q
def Inv.quiet {π:List (â×Obj)} {σ:St} {H:Hp} {s:Ç} (I:Inv X π σ H s):interactive X.env=false:=by simp[interactive,I.ok.kind]
def Xh (te:TE):TS:=λD σ H=>te σ H λ_ Z=>D.nx σ Z
def T4 (he:PE X e te) (hs:abL e none pos.line X.env=pure false:=by rfl):PS X (.Expr e pos) (Xh te):=by
 intro Z s σ H D I h;exact wpAny_Expr_any (aG (he Z s σ H _ I h) λv U ⟨x,Y,W,T,V⟩=>⟨σ,Y,W,V⟩) I.quiet hs
def Yv (te:TE):TS:=λD σ H=>te σ H D.rt
def VP (he:PE X e te):PS X (.Return (some e) pos) (Yv te):=by
 intro Z s σ H D I h;exact wpAny_Return_some (aG (he Z s σ H _ I h) λv T ⟨x,Y,W,V,U⟩=>⟨x,σ,Y,W,V,U⟩)
def Yw (c:TT) (t u:TS):TS:=λD σ H=>c σ H λb Z=>if b=true then t D σ Z else u D σ Z
def Xi {c:Ņ} {a b:List Stmt} {tc:TT} (hc:PT X c tc) (ha:fx X a t) (hb:fx X b u):PS X (.If c a b pos) (Yw tc t u):=by
 intro Z s σ H D I h;refine wpAny_If (aG (hc Z s σ H _ I h) λd Y ⟨W,V,U⟩=>?_)
 cases d with
 |true=>exact ha Z Y σ W D V U
 |false=>exact hb Z Y σ W D V U
end
abbrev TG:=V->St->Hp->(St->Hp->Prop)->Prop
abbrev lS:=List V->St->Hp->(St->Hp->Prop)->Prop
def PG (X:Cx) (target:Ņ) (t:TG):Prop :=
 ∀(Z:List (â×Obj)) (s:Ç) (σ:St) (H:Hp) (v:V) (u:Ì) (Q:St->Hp->Prop),Inv X Z σ H s->RelV v u->t v σ H Q ->
  Ü (í X.prog X.w) X.A (aai target X.env u) (λ_ U=>∃ Y W,Inv X Z Y W U/\Q Y W) X.xe s
def ng (X:Cx) (ts:List Ņ) (t:lS):Prop :=
 ∀(Z:List (â×Obj)) (s:Ç) (σ:St) (H:Hp) (Y:List V) (W:List Ì) (Q:St->Hp->Prop),Inv X Z σ H s->Vals Y W->t Y σ H Q ->
  Ü (í X.prog X.w) X.A (abF ((ų ts X.env).map (·.2)) W) (λ_ S=>∃ U T,Inv X Z U T S/\Q U T) X.xe s
abbrev Ao:=V->V->V->Hp->(Hp->Prop)->Prop
def EE (X:Cx) (t:Ao):Prop :=
 ∀(Z:List (â×Obj)) (s:Ç) (σ:St) (H:Hp) (o i v:V) (Y W u:Ì) (Q:Hp->Prop),Inv X Z σ H s->RelV o Y->RelV i W->RelV v u->t o i v H Q ->
  Ü (í X.prog X.w) X.A (setItem Y W u) (λ_ T=>∃U,Inv X Z σ U T/\Q U) X.xe s
section
variable {X:Cx} {pos:Pos}
def lp (i:Nat):TG:=λv σ H Q=>Q (σ.set i (some v)) H
def cm (hN:X.N.Nodup) (hi:X.N[i]?=some x) (hx:Loc X.env.scope x) (hf:X.fn x=true\/X.env.scope.names.lookup x=some .local:=by first|exact .inl rfl|exact .inr rfl|assumption):PG X (.Name x pos) (lp i):=by
 intro Y s σ H v u Q I r h;exact wpAny_assign_Name (nD I hN hi hx r (λW Z=>⟨_,H,Z,h⟩) hf)
def EF:lS:=λZ σ H Q=>Z=[]/\Q σ H
def DT (t:TG) (u:lS):lS:=λZ σ H Q=>∃v r,Z=v::r/\t v σ H fun Y X=>u r Y X Q
def oE:ng X [] EF:=by
 intro Z s σ H Y W Q I r h;obtain⟨e,h⟩:=h;subst e;cases r;exact assignInOrder_nil ⟨σ,H,I,h⟩
def i6 {e:Ņ} {es:List Ņ} {t:TG} {u:lS} (h1:PG X e t) (h2:ng X es u)
  (hs:(ų (e::es) X.env).map (·.2)=aai e X.env::(ų es X.env).map (·.2):=by rfl):ng X (e::es) (DT t u):=by
 intro Z s σ H R P Q I r h;obtain⟨v,O,e1,h⟩:=h;subst e1
 cases r with
 |cons r Y =>
  rw[hs];refine ŷ (aG (h1 Z s σ H _ _ _ I r h) λ_ W ⟨V,U,T,S⟩=>?_);exact h2 Z W V U _ _ Q T Y S
def EG (K:ļ) (n:Nat) (t:lS):TG:=λv σ H Q=>∃a Z,v=.ref a/\bo K H a Z/\Z.length=n/\t Z σ H Q
def ke {k:Nat} {n:Nat} (hc:X.calm=true) (h:ng X es t)
 (hn:(ų es X.env).length=n:=by rfl) (rN:(ų es X.env).findIdx? (·.1)=none:=by rfl):PG X (.Tuple es k pos) (EG X.K n t):=by
 intro Z s σ H v u Q I r hw;obtain⟨a,W,e1,V,U,hw⟩:=hw;subst e1;cases r;obtain⟨its,Y,T,O⟩:=I.tuple V;refine assign_Tuple_tuple (I.ok.hd hc) T (by simp[hn,<- U,Y.length]) rN λS R=>?_
 have P:Inv X Z σ H { s with heap:=S }:=I.kept (t':=s.toks) λb o e=>R b o (ë (Ò e)) e
 exact h Z _ σ H W _ Q P (by simpa using Y) hw
def Yx (to ti:TE) (t:Ao):TG:=λv σ H Q=>to σ H λo Z=>ti σ Z λi Y=>t o i v Y λX=>Q σ X
def KQ {o i:Ņ} {to ti:TE} {t:Ao} (ho:PE X o to) (hi:PE X i ti) (hs:EE X t)
  (ha:∀v,aai (.Subscript o i pos) X.env v=(do
   let ov <- aaj [v] (ś o X.env)
   let iv <- aaj [v,ov] (ś i X.env)
   aak pos
   aaj [v,ov,iv] (setItem ov iv v)
   release [v,ov,iv] []):=by intro _;rfl):PG X (.Subscript o i pos) (Yx to ti t):=by
 intro Z s σ H v u Q I r h;rw[ha];refine À (Ė (aG (ho Z s σ H _ I h) λov Y ⟨x,W,V,U,T⟩=>?_));refine À (Ė (aG (hi Z Y σ W _ V T) λiv S ⟨y,R,P,O,N⟩=>?_));refine À (ł (À (Ė (aG (hs Z S σ R x y v ov iv u _ P U O r N) λ_ J ⟨M,L,K⟩=>?_))));exact wpAny_release ⟨σ,M,L,K⟩
def qY (te:TE) (g:TG):TS:=λD σ H=>te σ H λx Z=>g x σ Z D.nx
def Dd {tg e:Ņ} {te:TE} {g:TG} (he:PE X e te) (hg:PG X tg g) (hs:θ [tg] e pos.line X.env=pure false:=by rfl) (hw:ι [tg] e X.env=pure none:=by rfl)
  (h1:(ų [tg] X.env).map (·.2)=[aai tg X.env]:=by rfl):PS X (.Assign [tg] e pos) (qY te g):=by
 intro Z s σ H D I h;refine wpAny_Assign_stores (aG (he Z s σ H _ I h) λv Y ⟨x,W,V,U,T⟩=>?_) hs hw;rw[h1];exact aG (hg Z Y σ W x v _ V U T) λ_ S q=>q
def VQ {i:Nat} {x:Str} {e:Ņ} {te:TE} {pos':Pos} (hN:X.N.Nodup) (hi:X.N[i]?=some x) (hx:Loc X.env.scope x) (he:PE X e te) (hs:abL e (some (.Name x pos')) pos.line X.env=pure false:=by rfl) (hf:X.fn x=true\/X.env.scope.names.lookup x=some .local:=by first|exact .inl rfl|exact .inr rfl|assumption) :
  PS X (.Assign [.Name x pos'] e pos) (qY te (lp i)):=by
 intro Z s σ H D I h;refine wpAny_Assign_Name (aG (he Z s σ H _ I h) λv S ⟨y,Y,W,V,U⟩=>?_) hs;exact nD W hN hi hx V (λR T=>⟨_,Y,T,U⟩) hf
def Yy (i j:Nat) (ta:TA):TS:=λD σ H=>ta σ H λZ Y=>∃v w,Z=[v,w]/\D.nx ((σ.set i (some v)).set j (some w)) Y
def VR {i j:Nat} {x y:Str} {a b:Ņ} {ta:TA} {px py pt:Pos} {kt k2 jg} (hc:X.calm=true) (hN:X.N.Nodup) (hi:X.N[i]?=some x) (hj:X.N[j]?=some y) (fU:i≠j)
  (hx:X.env.scope.names.lookup x=some .local) (hy:X.env.scope.names.lookup y=some .local) (ha:PA X [a,b] ta)
  (hw:ι [.Tuple [.Name x px,.Name y py] kt pt] (.Tuple [a,b] k2 jg) X.env=pure (some [x,y]))
  (hs:θ [.Tuple [.Name x px,.Name y py] kt pt] (.Tuple [a,b] k2 jg) pos.line X.env=pure false:=by rfl) :
  PS X (.Assign [.Tuple [.Name x px,.Name y py] kt pt] (.Tuple [a,b] k2 jg) pos) (Yy i j ta):=by
 intro U s σ H D I h;rw[exec_Assign_arm];refine À (ł ?_);rw[hs];refine À (Â ?_);rw[æ (by decide)];refine À (Tuple_ (aG (ha _ U s σ H _ I h) λR Z ⟨C,T,Q,P,V⟩=>?_));obtain⟨v,w,e1,V⟩:=V;subst e1;obtain⟨Y,W,rfl,O,M⟩:∃Y W,R=[Y,W]/\RelV v Y/\RelV w W:=by
  cases P with
  |cons p q =>
   cases q with
   |cons L K =>
    cases K;exact⟨_,_,rfl,p,L⟩
 refine î ?_ (by show 2<=Õ;decide)
 have J:Inv X U σ T { Z with heap:=Z.heap.push { cls:=.type "tuple",data:=.seq [Y,W].toArray } }:=Q.kept (t':=Z.toks) λb o e=>Á _ e
 rw[hw];refine À (Â ?_)
 show Ü (í X.prog X.w) X.A (do rule "assign.swapped-stores";let items <- unpackItems (.ref Z.heap.objs.size) 2 none;abF [λv=>abG X.env y v,λv=>abG X.env x v] items.reverse;pure Flow.next) _ _ _
 refine À (Ŕ (À (unpackItems_tuple (items:=#[Y,W]) (I.ok.hd hc) (IsTup.new Z.heap _) λh' G=>?_)));have F:=J.kept (h':=h') (t':=Z.toks) λb o e=>G b o (ë (Ò e)) e
 show Ü _ _ (abF [λv=>abG X.env y v,λv=>abG X.env x v] [W,Y] >>= λ_=>pure Flow.next) _ _ _
 refine À (ŷ (abn (nD F hN hj (.inl hy) M (λB E=>?_) (.inr hy))));refine ŷ (abn (nD E hN hi (.inl hx) O (λz S=>assignInOrder_nil (Â ?_)) (.inr hx)));rw[List.set_comm _ _ (œ fU)] at S;exact⟨_,T,S,V⟩
end
section
variable {X:Cx} {pos:Pos}
end
structure It where
 go:Nat->Hp->Prop
 uF:Nat->Hp->V->Hp->Prop
 stop:Nat->Hp->Prop
def cu (X:Cx) (π:List (â×Obj)) (H:Hp) (b:â):Prop :=
 H b=none/\b≠X.env.locals/\b∉X.fs/\(b∈X.ex\/X.eM.heap.objs.size<=b)/\(∀x c,X.env.cells.lookup x=some c->c≠b)/\∀p∈X.pn++π,p.1≠b
def Inv.mZ {X:Cx} {π:List (â×Obj)} {σ:St} {H H':Hp} {s:Ç} {b:â} (I:Inv X π σ H s) (hb:s.heap.objs.size<=b) (hn:H' b=none):cu X π H' b:=by
 refine⟨hn,Ŝ (É I.lt hb),I.qX hb,.inr (Û I.sz hb),λx c e z=>?_,λp Z z=>?_⟩
 ·obtain⟨v,q⟩:=I.cell x c e
  exact absurd (É q.lt (by rw[z];exact hb)) (ì _)
 ·exact absurd (É (Ò (I.pin p Z).1) (by rw[z];exact hb)) (ì _)
structure Turn (P:ö) (w:Ć) (K:ļ) (tg:Ņ) (J:It) (fp:List â) (it:â) (tn:Nat->Ţ->Prop):Prop where
 mem:it∈fp
 obj:∀i h,tn i h->∀b∈fp,∃o,h.get? b=some o/\∀v,o.data≠.cell v
 keep:∀i h h',tn i h->(∀b∈fp,∀o,h.get? b=some o->h'.get? b=some o)->tn i h'
 item:∀(X:Cx),X.prog=P->X.w=w->X.K=K->X.calm=true->∀(i:Nat) (π:List (â×Obj)) (s:Ç) (σ:St) (H:Hp) (E:Ì->Ç->Prop),Inv X π σ H s->(∀b∈fp,cu X π H b)->tn i s.heap->J.go i H ->
  Ü (í P w) X.A (Š (.ref it)) (λr s1=>∃u,r=some u /\
   Ü (í P w) X.A (Ń tg (.ref it) u) (λ_ s2=>∃x H',Inv X π σ H' s2/\RelV x u/\J.uF i H x H'/\tn (i+1) s2.heap/\∀b∈fp,H' b=none) E s1) E s
 done:∀(X:Cx),X.prog=P->X.w=w->X.K=K->X.calm=true->∀(i:Nat) (π:List (â×Obj)) (s:Ç) (σ:St) (H:Hp) (E:Ì->Ç->Prop),Inv X π σ H s->(∀b∈fp,cu X π H b)->tn i s.heap->J.stop i H ->
  Ü (í P w) X.A (Š (.ref it)) (λr s1=>r=none/\Inv X π σ H s1) E s
 self:∀(A:Đ) (i:Nat) (s:Ç) (Q:Ì->Ç->Prop) (E:Ì->Ç->Prop),tn i s.heap->Q (.ref it) s->Ü (í P w) A (acj (.ref it)) Q E s
abbrev TI:=St->Hp->(It->Hp->Prop)->Prop
def Nd (X:Cx) (π:List (â×Obj)) (σ:St) (tg:Ņ) (R:It->Hp->Prop) (fV:Ì) (s2:Ç):Prop :=
 ∃(it:â) (Y:List â) (W:Nat->Ţ->Prop) (J:It) (Z:Hp),fV=.ref it/\Inv X π σ Z s2/\Turn X.prog X.w X.K tg J Y it W/\W 0 s2.heap/\(∀b∈Y,cu X π Z b)/\R J Z
def PI (X:Cx) (tg iter:Ņ) (wi:TI):Prop :=
 ∀(Z:List (â×Obj)) (s:Ç) (σ:St) (H:Hp) (R:It->Hp->Prop),Inv X Z σ H s->wi σ H R ->
  Ü (í X.prog X.w) X.A (ś iter X.env) (λv Y=>Ü (í X.prog X.w) X.A (acj v) (Nd X Z σ tg R) X.xe Y) X.xe s
def zV (ho:s.heap.get? it=some o) (hc:o.cls=.type n) (hd:o.data=.fields vs)
 (hn:["enumerate","zip","dict_itemiterator","dict_reverseitemiterator","odict_iterator","itertools.zip_longest","itertools.pairwise"].contains n=false) (hQ:Q () s):Ü M A (Ń tg (.ref it) u) Q E s:=by
 unfold Ń
 cases tg<;>first
  |exact Â hQ
  |(cases u<;>first
    |exact Â hQ
    |(refine À (wpAny_load ho ?_)
      rw[hc,hd]
      show Ü M A (if (["enumerate","zip","dict_itemiterator","dict_reverseitemiterator","odict_iterator","itertools.zip_longest","itertools.pairwise"].contains n&&vs[0]?==some (Ř _))=true then _ else _) Q E s
      rw[æ (by intro h;rw[hn,aaC] at h;cases h)];exact Â hQ))
noncomputable def Fm (K:ļ) (a:â):It :=
 ⟨λi H=>∃Z x,bq K H a Z/\Z[i]?=some x,λi H x Y=>Y=H/\∀Z,bq K H a Z->Z[i]?=some x,λi H=>∃Z,bq K H a Z/\Z.length<=i⟩
noncomputable def Fn (K:ļ) (a:â):It :=
 ⟨λi H=>∃Z x,bo K H a Z/\Z[i]?=some x,λi H x Y=>Y=H/\∀Z,bo K H a Z->Z[i]?=some x,λi H=>∃Z,bo K H a Z/\Z.length<=i⟩
noncomputable def xc (lo:Int) (n:Nat):It:=⟨λi _=>i<n,λi H x Z=>Z=H/\x=.int (lo+i),λi _=>n<=i⟩
def Qq {P:ö} {w:Ć} {K:ļ} {tg:Ņ} (a it:â):Turn P w K tg (Fm K a) [it] it (λi h=>h.IsListIter it a i) where
 mem:=by simp
 obj:=λi h Z b Y=>by
  have e:b=it:=by simpa using Y
  subst e;obtain⟨o,e,c,d⟩:=Z;exact⟨o,e,λv z=>by rw[d] at z;cases z⟩
 keep:=λi h W Z k=>Z.at λo e=>k it (by simp) o e
 item:=by
  intro X T hw S L i J s σ H E I V Z R;subst T hw S;obtain⟨F,x,U,Q⟩:=R;obtain⟨its,O,p,D⟩:=I.list U;obtain⟨u,C,B⟩:=O.get Q;obtain⟨f0,f1,f2,N,f4,M⟩:=V it (by simp);refine wpAny_pyNext_list_item Z p.isList (x:=u) (by simpa using C) λW G A=>?_
  have y:Inv X J σ H { s with heap:=W }:=I.turned (t':=s.toks) (λb o Y e=>(A.2 b Y).trans e) f0 f1 N f4 M
  obtain⟨o,e,c,d⟩:=id G
  exact⟨u,rfl,zV (s:={ s with heap:=W }) e c d (by decide) ⟨x,H,y,B,⟨rfl,λq t=>by rw[I.IQ t U];exact Q⟩,G,λb Y=>(V b Y).1⟩⟩
 done:=by
  intro X T hw S L i J s σ H E I V Z R;subst T hw S;obtain⟨F,U,Q⟩:=R;obtain⟨its,O,p,D⟩:=I.list U;obtain⟨f0,f1,f2,N,f4,M⟩:=V it (by simp);have n:=O.length;exact wpAny_pyNext_list_end (I.ok.hd L) Z p.isList (by simp;omega) λW r=>⟨rfl,I.turned (t':=s.toks) (λb o Y e=>r b o Y e) f0 f1 N f4 M⟩
 self:=λ_ _ _ _ _ Z h=>wpAny_pyIter_listiter Z h
def Pp {P:ö} {w:Ć} {K:ļ} {tg:Ņ} (a it:â):Turn P w K tg (Fn K a) [it] it (λi h=>h.IsTupleIter it a i) where
 mem:=by simp
 obj:=λi h Z b Y=>by
  have e:b=it:=by simpa using Y
  subst e;obtain⟨o,e,c,d⟩:=Z;exact⟨o,e,λv z=>by rw[d] at z;cases z⟩
 keep:=λi h W Z k=>Z.at λo e=>k it (by simp) o e
 item:=by
  intro X T hw S L i J s σ H E I V Z R;subst T hw S;obtain⟨F,x,U,Q⟩:=R;obtain⟨its,O,p,D⟩:=I.tuple U;obtain⟨u,C,B⟩:=O.get Q;obtain⟨f0,f1,f2,N,f4,M⟩:=V it (by simp);refine wpAny_pyNext_tuple_item Z (show s.heap.IsTuple a its.toArray from p) (x:=u) (by simpa using C) λW G A=>?_
  have y:Inv X J σ H { s with heap:=W }:=I.turned (t':=s.toks) (λb o Y e=>(A.2 b Y).trans e) f0 f1 N f4 M
  obtain⟨o,e,c,d⟩:=id G
  exact⟨u,rfl,zV (s:={ s with heap:=W }) e c d (by decide) ⟨x,H,y,B,⟨rfl,λq t=>by rw[I.H0 t U];exact Q⟩,G,λb Y=>(V b Y).1⟩⟩
 done:=by
  intro X T hw S L i J s σ H E I V Z R;subst T hw S;obtain⟨F,U,Q⟩:=R;obtain⟨its,O,p,D⟩:=I.tuple U;obtain⟨f0,f1,f2,N,f4,M⟩:=V it (by simp);have n:=O.length;exact wpAny_pyNext_tuple_end (I.ok.hd L) Z (show s.heap.IsTuple a its.toArray from p) (by simp;omega) λW r=>⟨rfl,I.turned (t':=s.toks) (λb o Y e=>r b o Y e) f0 f1 N f4 M⟩
 self:=λ_ _ _ _ _ Z h=>wpAny_pyIter_tupleiter Z h
def Pq {P:ö} {w:Ć} {K:ļ} {tg:Ņ} (it:â) (lo:Int) (n:Nat):Turn P w K tg (xc lo n) [it] it (λi h=>IsRangeIter h it (lo+(i:Nat)*1) ((n:Int)-(i:Nat)) 1) where
 mem:=by simp
 obj:=λi h Z b Y=>by
  have e:b=it:=by simpa using Y
  subst e;exact⟨_,Z,λv z=>by
   have G:Data.fields _=Data.cell v:=z;cases G⟩
 keep:=λi h V Z k=>k it (by simp) _ Z
 item:=by
  intro X T hw S R i M s σ H E I U Z Q;subst T hw S;obtain⟨f0,f1,f2,O,f4,N⟩:=U it (by simp);have W:=Walks.range (prog:=X.prog) (w:=X.w) (I.ok.hd R) it lo 1 n;refine W.item i s _ _ Q Z λv V L F J D=>?_;obtain⟨t,rfl⟩:=F
  have C:Inv X M σ H { s with heap:=V,toks:=L }:=I.turned (λb o Y e=>D b o (by simpa using Y) e) f0 f1 O f4 N
  refine⟨_,rfl,zV (s:={ s with heap:=V,toks:=L }) (n:="range_iterator") J rfl rfl (by decide) ⟨.int (lo+i),H,C,⟨t,?_⟩,⟨rfl,rfl⟩,J,λb Y=>(U b Y).1⟩⟩
  rw[Int.mul_one]
 done:=by
  intro X T hw S R i M s σ H E I U Z Q;subst T hw S;obtain⟨f0,f1,f2,O,f4,N⟩:=U it (by simp);exact wpAny_pyNext_range_end (I.ok.hd R) Z (by have:n<=i:=Q;omega) λV B=>⟨rfl,I.turned (t':=s.toks) (λb o Y e=>B b o Y e) f0 f1 O f4 N⟩
 self:=λ_ _ _ _ _ Z h=>aa7 Z h
section
variable {X:Cx} {tg:Ņ}
def LM (K:ļ) (tl:TE):TI:=fun σ H R=>tl σ H λx Z=>∃a,x=.ref a/\(∃Y,bq K Z a Y)/\R (Fm K a) Z
def ME (K:ļ) (tl:TE):TI:=fun σ H R=>tl σ H λx Z=>∃a,x=.ref a/\(∃Y,bo K Z a Y)/\R (Fn K a) Z
def T5 {l:Ņ} {tl:TE} (hl:PE X l tl):PI X tg l (LM X.K tl):=by
 intro W s σ H R I h;refine aG (hl W s σ H _ I h) λv Z ⟨x,V,Y,U,T⟩=>?_;obtain⟨a,e,⟨P,S⟩,q⟩:=T;subst e;cases U;obtain⟨its,O,p,N⟩:=Y.list S;refine Ž p.isList ?_;refine⟨Z.heap.objs.size,[Z.heap.objs.size],_,_,V,rfl,Y.kept (t':=Z.toks) λb o e=>Á _ e,Qq a _,⟨_,Ð _ rfl,rfl,rfl⟩,λb Q=>?_,q⟩;have e:b=Z.heap.objs.size:=by simpa using Q
 subst e;exact Y.mZ (acr _) (Y.aH.fresh (acr _))
def VS {l:Ņ} {tl:TE} (hl:PE X l tl):PI X tg l (ME X.K tl):=by
 intro W s σ H R I h;refine aG (hl W s σ H _ I h) λv Z ⟨x,V,Y,U,T⟩=>?_;obtain⟨a,e,⟨P,S⟩,q⟩:=T;subst e;cases U;obtain⟨its,O,p,N⟩:=Y.tuple S;refine wpAny_pyIter_tuple (show Z.heap.IsTuple a its.toArray from p) ?_;refine⟨Z.heap.objs.size,[Z.heap.objs.size],_,_,V,rfl,Y.kept (t':=Z.toks) λb o e=>Á _ e,Pp a _,⟨_,Ð _ rfl,rfl,rfl⟩,λb Q=>?_,q⟩;have e:b=Z.heap.objs.size:=by simpa using Q
 subst e;exact Y.mZ (acr _) (Y.aH.fresh (acr _))
def IS {π:List (â×Obj)} {σ:St} {H:Hp} {s:Ç} {R:It->Hp->Prop} {E:Ì->Ç->Prop} {lo hi:Int} {t u v:Tok} {tk:Nat} (I:Inv X π σ H s) (h1:-(2 ^ 62)<=lo) (h2:lo<2 ^ 62) (h3:-(2 ^ 62)<=hi) (h4:hi<2 ^ 62)
  (q:R (xc lo (hi-lo).toNat) H):Ü (í X.prog X.w) X.A (acj (.ref s.heap.objs.size)) (Nd X π σ tg R) E { s with heap:=s.heap.push { cls:=.type "range",data:=.fields #[.int lo t,.int hi u,.int 1 v] },toks:=tk }:=by
 refine wpAny_pyIter_range (IsRange.new ..) (small_one h1 h2 h3 h4) ?_
 have Z:Inv X π σ H { s with heap:=s.heap.push { cls:=.type "range",data:=.fields #[.int lo t,.int hi u,.int 1 v] },toks:=tk }:=I.kept λb o e=>Á _ e
 refine⟨(s.heap.push { cls:=.type "range",data:=.fields #[.int lo t,.int hi u,.int 1 v] }).objs.size,[(s.heap.push { cls:=.type "range",data:=.fields #[.int lo t,.int hi u,.int 1 v] }).objs.size],_,_,H,rfl,
  Z.kept (t':=tk) λb o e=>Á _ e,Pq _ lo (hi-lo).toNat,?_,λb Y=>?_,q⟩
 ·have e1:lo+((0:Nat):Int)*1=lo:=by simp
  have e2:(((hi-lo).toNat:Nat):Int)-((0:Nat):Int)=Ť lo hi 1:=by rw[rangeSize_one];split<;>omega
  show IsRangeIter _ _ (lo+((0:Nat):Int)*1) ((((hi-lo).toNat:Nat):Int)-((0:Nat):Int)) 1;rw[e1,e2];exact Ð _ rfl
 ·have e:b=(s.heap.push { cls:=.type "range",data:=.fields #[.int lo t,.int hi u,.int 1 v] }).objs.size:=by simpa using Y
  subst e;exact Z.mZ (acr _) (Z.aH.fresh (acr _))
def Xj (ta:TA):TI:=fun σ H R=>ta σ H λZ Y=>∃j:Int,Z=[.int j]/\-(2 ^ 62)<=j/\j<2 ^ 62/\R (xc 0 j.toNat) Y
def Xk (ta:TA):TI:=fun σ H R=>ta σ H λZ Y=>∃i j:Int,Z=[.int i,.int j]/\(-(2 ^ 62)<=i/\i<2 ^ 62/\-(2 ^ 62)<=j/\j<2 ^ 62)/\R (xc i (j-i).toNat) Y
def Qr {a:Ņ} {ta:TA} {p pos:Pos} (hg:Gl X "range") (hm:X.mg "range"=none) (ha:PA X [a] ta) (hs:Þ [a] X.env=[(false,ś a X.env)]:=by rfl):PI X tg (.Call (.Name "range" p) [a] [] pos) (Xj ta):=by
 intro Y s σ H R I h;refine Call_ (nL I hg hm boot_range (ŀ (aG (ha pos Y s σ H _ I h) λS Q ⟨P,O,W,V,Z⟩=>?_) hs rfl));obtain⟨j,e,Z,U,q⟩:=Z;subst e
 cases V with
 |cons r T =>
  cases T;obtain⟨t,rfl⟩:=r;exact call_range_1 (IS W (by omega) (by omega) Z U (by simpa using q))
def Qs {a b:Ņ} {ta:TA} {p pos:Pos} (hg:Gl X "range") (hm:X.mg "range"=none) (ha:PA X [a,b] ta) (hs:Þ [a,b] X.env=[(false,ś a X.env),(false,ś b X.env)]:=by rfl) (bU:Þ [b] X.env=[(false,ś b X.env)]:=by rfl) :
  PI X tg (.Call (.Name "range" p) [a,b] [] pos) (Xk ta):=by
 intro W s σ H R I h;refine Call_ (nL I hg hm boot_range (ŀ (aG (ha pos W s σ H _ I h) λO N ⟨M,L,V,U,Z⟩=>?_) (by rw[hs,bU]) (by rw[bU];rfl)));obtain⟨i,j,e,⟨Z,T,S,Q⟩,q⟩:=Z;subst e
 cases U with
 |cons r Y =>
  cases Y with
  |cons P Y =>
   cases Y;obtain⟨t,rfl⟩:=r;obtain⟨K,rfl⟩:=P;exact call_range_2 (IS V Z T S Q q)
def MF (wi:TI) (g:TG) (tb:TS):TS:=λD σ H=>wi σ H λJ V=>∃W:Nat->Nat->St->Hp->Prop,(∃m,W 0 m σ V)/\∀i m σ H,W i m σ H ->
 (J.stop i H/\D.nx σ H)\/(J.go i H/\∃N:St->Hp->Prop,(∀ Y Z,N Y Z->∃X,X < m/\W (i+1) X Y Z)/\∀x Z,J.uF i H x Z->g x σ Z fun U T=>tb { D with nx:=N,ct:=N,bk:=D.nx } U T)
noncomputable def oJ (fp:List â) (h:Ţ):List (â×Obj):=fp.filterMap λb=>(h.get? b).map λo=>(b,o)
def sO (hb:b∈fp) (e:h.get? b=some o):(b,o)∈oJ fp h:=List.mem_filterMap.mpr ⟨b,hb,by rw[e];rfl⟩
def H9 (hp:p∈oJ fp h):p.1∈fp/\h.get? p.1=some p.2:=by
 obtain⟨b,Z,e⟩:=List.mem_filterMap.mp hp
 cases q:h.get? b with
 |none=>rw[q] at e;cases e
 |some o =>
  rw[q] at e;have Y:(b,o)=p:=acs e;subst Y;exact⟨Z,q⟩
def Inv.pinned {π:List (â×Obj)} {σ:St} {H:Hp} {s:Ç} {fp:List â} (I:Inv X π σ H s) (hf:∀b∈fp,cu X π H b) (ho:∀b∈fp,∃o,s.heap.get? b=some o/\∀v,o.data≠.cell v):Inv X (π++oJ fp s.heap) σ H s :=
 I.i7 λp W=>(ä.mp W).elim (λz=>I.pin p (Æ _ z)) λz=>by
  obtain⟨Z,e⟩:=H9 z;obtain⟨f0,f1,f2,_⟩:=hf p.1 Z;obtain⟨o,Y,d⟩:=ho p.1 Z;rw[e] at Y;cases Y;exact⟨e,f0,f1,f2,d⟩
def Inv.jH {π pl:List (â×Obj)} {σ:St} {H:Hp} {s:Ç} (I:Inv X (π++pl) σ H s):Inv X π σ H s:=I.i7 λp Z=>I.pin p (Æ _ (ī _ Z))
def VT {iter:Ņ} {body:List Stmt} {wi:TI} {g:TG} {tb:TS} {pos:Pos} (hp:PassesOwn (í X.prog X.w) X.A X.env X.xe) (hc:X.calm=true) (hi:PI X tg iter wi) (hg:PG X tg g) (hb:fx X body tb)
  (hs:∀x,ï iter X.env x=pure x:=by intro _;rfl):PS X (.For tg iter body [] pos) (MF wi g tb):=by
 intro R s σ H D I h;refine wpAny_For (aG (hi R s σ H _ I h) λv s1 p=>aG p λfV s2 l=>?_) hs;obtain⟨it,Q,E,J,k,e,j,T,c,f2,W,⟨m0,a⟩,turn⟩:=l;subst e;have stat:∀{U:Hp},(∀b∈Q,U b=none)->∀b∈Q,cu X R U b:=λhn b hb=>⟨hn b hb,(f2 b hb).2⟩;refine codeAny_forLoop_any (λn C=>∃i P U,Inv X R P U C/\E i C.heap/\(∀b∈Q,U b=none)/\W i n P U) ?_ m0 ⟨0,σ,k,j,c,λb hb=>(f2 b hb).1,a⟩;rintro n B ⟨i,O,L,z,y,t,w3⟩
 rcases turn i n O L w3 with ⟨stop,qn⟩ | ⟨go,N,hN,step⟩
 ·refine aaV hp (aG (T.done X rfl rfl rfl hc i R B O L X.xe z (stat t) y stop) λr s4 ⟨K,I4⟩=>?_)
  subst K;exact wpAny_execs_nil ⟨O,L,I4,qn⟩
 ·refine aaV hp (aG (T.item X rfl rfl rfl hc i R B O L X.xe z (stat t) y go) λr s4 ⟨u,K,h4⟩=>?_)
  subst K;refine aaV hp (aG h4 λ_ s5 ⟨x,q,I5,r5,y5,G,xf⟩=>?_);have xg:=I5.pinned (stat xf) (T.obj _ _ G);refine aaV hp (aG (hg _ s5 O q x u _ xg r5 (step x q y5)) λ_ s6 ⟨Zo,H6,I6,q6⟩=>?_);refine aaV hp (aG (hb _ s6 Zo H6 _ I6 q6) λf F S=>?_);have again:∀{Z:St} {Y:Hp},Inv X (R++oJ Q s5.heap) Z Y F->N Z Y->∃m,m<n/\∃i P U,Inv X R P U F/\E i F.heap/\(∀b∈Q,U b=none)/\W i m P U:=λ{Z Y} V M=>by
   obtain⟨m',hm,w7⟩:=hN Z Y M;refine⟨m',hm,i+1,Z,Y,V.jH,T.keep _ _ _ G λb hb o e=>(V.pin (b,o) (Æ _ (Æ _ (sO hb e)))).1,λb hb=>?_,w7⟩;obtain⟨o,e,d⟩:=T.obj _ _ G b hb;exact(V.pin (b,o) (Æ _ (Æ _ (sO hb e)))).2.1
  cases f with
  |next=>obtain⟨Z,Y,V,M⟩:=S;exact again V M
  |cont=>obtain⟨Z,Y,V,M⟩:=S;exact again V M
  |brk=>obtain⟨Z,Y,V,S⟩:=S;exact⟨Z,Y,V.jH,S⟩
  |ret v=>obtain⟨x7,Z,Y,V,r7,S⟩:=S;exact⟨x7,Z,Y,V.jH,r7,S⟩
end
abbrev R2:=V->V->Hp->VK->Prop
def aZ (X:Cx) (f:Ì->Ì->Sem Ì) (r:R2):Prop :=
 ∀(Z:List (â×Obj)) (s:Ç) (σ:St) (H:Hp) (x y:V) (v u:Ì) (Q:VK),Inv X Z σ H s->RelV x v->RelV y u->r x y H Q ->
  Ü (í X.prog X.w) X.A (f v u) (EP X Z σ Q) X.xe s
def xh (X:Cx) (f:Ì->Sem Ì) (r:V->Hp->VK->Prop):Prop :=
 ∀(Z:List (â×Obj)) (s:Ç) (σ:St) (H:Hp) (x:V) (v:Ì) (Q:VK),Inv X Z σ H s->RelV x v->r x H Q ->
  Ü (í X.prog X.w) X.A (f v) (EP X Z σ Q) X.xe s
def cB (X:Cx) (f:Ì) (r:List V->Hp->VK->Prop):Prop :=
 ∀(Z:List (â×Obj)) (s:Ç) (σ:St) (H:Hp) (Y:List V) (W:List Ì) (Q:VK),Inv X Z σ H s->Vals Y W->r Y H Q ->
  Ü (í X.prog X.w) X.A (call f W) (EP X Z σ Q) X.xe s
def Yz (X:Cx) (r:V->Hp->(Bool->Hp->Prop)->Prop):Prop :=
 ∀(Z:List (â×Obj)) (s:Ç) (σ:St) (H:Hp) (x:V) (v:Ì) (Q:Bool->Hp->Prop),Inv X Z σ H s->RelV x v->r x H Q ->
  Ü (í X.prog X.w) X.A (truthy v) (TP X Z σ Q) X.xe s
def xi (r:R2) (ta tb:TE):TE:=fun σ H Q=>ta σ H λx Z=>tb σ Z λy Y=>r x y Y Q
def Nf (r:V->Hp->VK->Prop) (ta:TE):TE:=fun σ H Q=>ta σ H λx Z=>r x Z Q
def rI (C:Int->Int->Prop) (g:Int->Int->V):R2:=λx y H Q=>∃i j,x=.int i/\y=.int j/\C i j/\Q (g i j) H
def pC (g:Int->Int->V):R2:=λx y H Q=>∃i j,x=.int i/\y=.int j/\Q (g i j) H
def rU (g:Int->V):V->Hp->VK->Prop:=λx H Q=>∃i,x=.int i/\Q (g i) H
section
variable {X:Cx} {a b c:Ņ} {ta tb tc:TE} {pos:Pos}
def EH (ha:PE X a ta) (hb:PE X b tb) {π:List (â×Obj)} {s:Ç} {σ:St} {H:Hp} {R:V->V->Hp->Prop} (I:Inv X π σ H s)
  (h:ta σ H λx H1=>tb σ H1 λy H2=>R x y H2) {Q:Ì->Ç->Prop} {f:Ì->Ì->Sem Ì}
  (hf:∀v u s2 x y H2,Inv X π σ H2 s2->RelV x v->RelV y u->R x y H2->Ü (í X.prog X.w) X.A (f v u) Q X.xe s2) :
  Ü (í X.prog X.w) X.A (ś a X.env) (λv bN=>Ü (í X.prog X.w) X.A (ś b X.env) (λu Ap=>Ü (í X.prog X.w) X.A (f v u) Q X.xe Ap) X.xe bN) X.xe s:=by
 refine aG (ha π s σ H _ I h) λv Z ⟨x,H1,Y,W,U⟩=>?_;refine aG (hb π Z σ H1 _ Y U) λu s2 ⟨y,H2,T,S,P⟩=>?_;exact hf v u s2 x y H2 T W S P
def Xl (ho:aZ X (ř op) r) (ha:PE X a ta) (hb:PE X b tb):PE X (.BinOp a op b pos) (xi r ta tb):=by
 intro Z s σ H Q I h;exact wpAny_BinOp (EH ha hb I h λv u Y x y W V U T q=>ho Z Y σ W x y v u Q V U T q)
def LN {op:UnaryOp} {r:V->Hp->VK->Prop} (ho:xh X (unaryOp op) r) (ha:PE X a ta):PE X (.UnaryOp op a pos) (Nf r ta):=by
 intro Z s σ H Q I h;exact UnaryOp_ (aG (ha Z s σ H _ I h) λv Y ⟨x,W,U,T,S⟩=>ho Z Y σ W x v Q U T S)
def AV {C:Int->Int->Prop} {g:Int->Int->Int}
 (rule:∀(i j:Int) (t u:Tok) (s:Ç) (Q:Ì->Ç->Prop) (E:Ì->Ç->Prop),C i j->Q (.int (g i j) s.toks) { s with toks:=s.toks+1 }->Ü (í X.prog X.w) X.A (f (.int i t) (.int j u)) Q E s) :
  aZ X f (rI C λi j=>.int (g i j)):=by
 intro U s σ H x y v u Q I Z Y h;obtain⟨i,j,rfl,rfl,W,q⟩:=h;obtain⟨t,rfl⟩:=Z;obtain⟨V,rfl⟩:=Y;exact rule i j t V s _ _ W ⟨.int (g i j),H,I.tok _,⟨_,rfl⟩,q⟩
def MG {g:Int->Int->Int}
 (rule:∀(i j:Int) (t u:Tok) (s:Ç) (Q:Ì->Ç->Prop) (E:Ì->Ç->Prop),Q (.int (g i j) s.toks) { s with toks:=s.toks+1 }->Ü (í X.prog X.w) X.A (f (.int i t) (.int j u)) Q E s) :
  aZ X f (pC λi j=>.int (g i j)):=by
 intro V s σ H x y v u Q I Z Y h;obtain⟨i,j,rfl,rfl,q⟩:=h;obtain⟨t,rfl⟩:=Z;obtain⟨W,rfl⟩:=Y;exact rule i j t W s _ _ ⟨.int (g i j),H,I.tok _,⟨_,rfl⟩,q⟩
def Aq {g:Int->Int->Bool}
 (rule:∀(i j:Int) (t u:Tok) (s:Ç) (Q:Ì->Ç->Prop) (E:Ì->Ç->Prop),Q (.bool (g i j)) s->Ü (í X.prog X.w) X.A (f (.int i t) (.int j u)) Q E s) :
  aZ X f (pC λi j=>.bl (g i j)):=by
 intro V s σ H x y v u Q I Z Y h;obtain⟨i,j,rfl,rfl,q⟩:=h;obtain⟨t,rfl⟩:=Z;obtain⟨W,rfl⟩:=Y;exact rule i j t W s _ _ ⟨.bl (g i j),H,I,rfl,q⟩
def YA (i j:Int):Prop:=0<j/\j<1073741824
def YB (i j:Int):Prop:=0<=j/\j<=1000000/\i.natAbs<2 ^ 64
def Ar (i j:Int):Prop:=(-(2 ^ 64)<i/\i<2 ^ 64)\/(-(2 ^ 64)<j/\j<2 ^ 64)
def Ar.ok (h:Ar i j):IntMulOk i j:=by
 rcases h with ⟨Z,Y⟩ | ⟨Z,Y⟩
 ·exact .of_left (intBits_le_64 Z Y)
 ·exact .of_right (intBits_le_64 Z Y)
def VU:aZ X (ř .Add) (pC λi j=>.int (i+j)):=MG λ_ _ _ _ _ _ _ q=>add_int q
def VV:aZ X (ř .Sub) (pC λi j=>.int (i-j)):=MG λ_ _ _ _ _ _ _ q=>sub_int q
def VW:aZ X (ř .Mult) (rI Ar λi j=>.int (i*j)):=AV λ_ _ _ _ _ _ _ Z q=>mul_int q Z.ok
def T6:aZ X (ř .FloorDiv) (rI YA λi j=>.int (i / j)):=AV λi j _ _ _ _ _ Z q=>by
 have Y:(0:Int)<j:=Z.1;have W:j<1073741824:=Z.2;exact floordiv_int (by omega) (by rw[Int.fdiv_eq_ediv_of_nonneg i (by omega)];exact q) (.inl (PyProof.noPylong_small (by omega)))
def VX:aZ X (ř .Mod) (rI (λ_ j=>0<j) λi j=>.int (i % j)):=AV λi j _ _ _ _ _ Z q=>by
 have Y:(0:Int)<j:=Z;exact mod_int' (by omega) (by rw[Int.fmod_eq_emod_of_nonneg i (by omega)];exact q)
def VY:aZ X (ř .Pow) (rI YB λi j=>.int (i ^ j.toNat)):=AV λ_ _ _ _ _ _ _ Z q=>pow_int_small Z.1 Z.2.1 Z.2.2 q
def Zp {g:Int->Int}
 (rule:∀(i:Int) (t:Tok) (s:Ç) (Q:Ì->Ç->Prop) (E:Ì->Ç->Prop),Q (.int (g i) s.toks) { s with toks:=s.toks+1 }->Ü (í X.prog X.w) X.A (f (.int i t)) Q E s) :
  xh X f (rU λi=>.int (g i)):=by
 intro Y s σ H x v Q I Z h;obtain⟨i,rfl,q⟩:=h;obtain⟨t,rfl⟩:=Z;exact rule i t s _ _ ⟨.int (g i),H,I.tok _,⟨_,rfl⟩,q⟩
def KR:xh X (unaryOp .USub) (rU λi=>.int (-i)):=Zp λ_ _ _ _ _ q=>neg_int q
end
noncomputable def EI:V->V->Bool
 | .au,.au=>true | .au,.int _=>true | .int _,.au=>true | .au,.bl _=>true | .bl _,.au=>true | .au,.str _=>true | .str _,.au=>true
 | .int _,.int _=>true | .bl _,.bl _=>true | .str _,.str _=>true | .jX _,.jX _=>true
 | .int _,.str _=>true | .str _,.int _=>true | .bl _,.str _=>true | .str _,.bl _=>true
 |_,_=>false
def Zq:R2:=λx y H Q=>EI x y=true/\Q (.bl (decide (x=y))) H
def Zr:R2:=λx y H Q=>EI x y=true/\Q (.bl (!decide (x=y))) H
def JO:decide (V.int i=V.int j)=(i==j):=by
 rw[Ĭ];simp
def KS:decide (V.bl i=V.bl j)=(i==j):=by
 rw[Ĭ];simp
def Cz:decide (V.str i=V.str j)=(i==j):=by
 rw[Ĭ];simp
def JP:decide (V.jX i=V.jX j)=(i.toList==j.toList):=by
 rw[Ĭ];cases i;cases j;simp
section
variable {X:Cx} {a b c:Ņ} {ta tb tc:TE} {pos:Pos}
def cW {π:List (â×Obj)} {σ:St} {H:Hp} {s:Ç} {Q:VK} {k k':Bool} (I:Inv X π σ H s) (q:Q (.bl k) H) (e:k=k'):EP X π σ Q (.bool k') s:=by
 subst e;exact⟨.bl k,H,I,rfl,q⟩
def Xm:aZ X (Č .Eq) Zq:=by
 intro U s σ H x y v u Q I V Z h;obtain⟨hs,q⟩:=h
 cases x with
 |au =>
  cases V
  cases y with
  |au=>cases Z;exact PySem.EqNone.eq_none_none (cW I q (by simp))
  |bl j=>cases Z;exact PySem.EqNone.eq_none_bool (cW I q (by simp))
  |int j=>obtain⟨Y,rfl⟩:=Z;exact PySem.EqNone.eq_none_int (cW I q (by simp))
  |str j=>obtain⟨Y,rfl⟩:=Z;exact PySem.EqNone.eq_none_str (cW I q (by simp))
  |_=>exact absurd (show false=true from hs) Í
 |bl i =>
  cases V
  cases y with
  |au=>cases Z;exact PySem.EqNone.eq_bool_none (cW I q (by simp))
  |bl j=>cases Z;exact eq_bool (cW I q KS)
  |str j=>obtain⟨Y,rfl⟩:=Z;exact PySem.EqMixed.eq_bool_str (cW I q (by simp))
  |_=>exact absurd (show false=true from hs) Í
 |int i =>
  obtain⟨t,rfl⟩:=V
  cases y with
  |au=>cases Z;exact PySem.EqNone.eq_int_none (cW I q (by simp))
  |int j=>obtain⟨Y,rfl⟩:=Z;exact eq_int (cW I q JO)
  |str j=>obtain⟨Y,rfl⟩:=Z;exact PySem.EqMixed.eq_int_str (cW I q (by simp))
  |_=>exact absurd (show false=true from hs) Í
 |str i =>
  obtain⟨t,rfl⟩:=V
  cases y with
  |au=>cases Z;exact PySem.EqNone.eq_str_none (cW I q (by simp))
  |bl j=>cases Z;exact PySem.EqMixed.eq_str_bool (cW I q (by simp))
  |int j=>obtain⟨Y,rfl⟩:=Z;exact PySem.EqMixed.eq_str_int (cW I q (by simp))
  |str j=>obtain⟨Y,rfl⟩:=Z;exact eq_str (cW I q Cz)
  |_=>exact absurd (show false=true from hs) Í
 |jX i =>
  obtain⟨t,rfl⟩:=V
  cases y with
  |jX j=>obtain⟨Y,rfl⟩:=Z;exact PySem.W.eq_bytes (cW I q JP)
  |_=>exact absurd (show false=true from hs) Í
 |_=>cases y<;>exact absurd (show false=true from hs) Í
def Xn:aZ X (Č .NotEq) Zr:=by
 intro U s σ H x y v u Q I V Z h;obtain⟨hs,q⟩:=h
 cases x with
 |au =>
  cases V
  cases y with
  |au=>cases Z;exact PySem.EqNone.ne_none_none (cW I q (by simp))
  |bl j=>cases Z;exact PySem.EqNone.ne_none_bool (cW I q (by simp))
  |int j=>obtain⟨Y,rfl⟩:=Z;exact PySem.EqNone.ne_none_int (cW I q (by simp))
  |str j=>obtain⟨Y,rfl⟩:=Z;exact PySem.EqNone.ne_none_str (cW I q (by simp))
  |_=>exact absurd (show false=true from hs) Í
 |bl i =>
  cases V
  cases y with
  |au=>cases Z;exact PySem.EqNone.ne_bool_none (cW I q (by simp))
  |bl j=>cases Z;exact ne_bool (cW I q (Ŀ not KS))
  |str j=>obtain⟨Y,rfl⟩:=Z;exact PySem.EqMixed.ne_bool_str (cW I q (by simp))
  |_=>exact absurd (show false=true from hs) Í
 |int i =>
  obtain⟨t,rfl⟩:=V
  cases y with
  |au=>cases Z;exact PySem.EqNone.ne_int_none (cW I q (by simp))
  |int j=>obtain⟨Y,rfl⟩:=Z;exact ne_int (cW I q (Ŀ not JO))
  |str j=>obtain⟨Y,rfl⟩:=Z;exact PySem.EqMixed.ne_int_str (cW I q (by simp))
  |_=>exact absurd (show false=true from hs) Í
 |str i =>
  obtain⟨t,rfl⟩:=V
  cases y with
  |au=>cases Z;exact PySem.EqNone.ne_str_none (cW I q (by simp))
  |bl j=>cases Z;exact PySem.EqMixed.ne_str_bool (cW I q (by simp))
  |int j=>obtain⟨Y,rfl⟩:=Z;exact PySem.EqMixed.ne_str_int (cW I q (by simp))
  |str j=>obtain⟨Y,rfl⟩:=Z;exact ne_str (cW I q (Ŀ not Cz))
  |_=>exact absurd (show false=true from hs) Í
 |jX i =>
  obtain⟨t,rfl⟩:=V
  cases y with
  |jX j=>obtain⟨Y,rfl⟩:=Z;exact PySem.W.ne_bytes (cW I q (Ŀ not JP))
  |_=>exact absurd (show false=true from hs) Í
 |_=>cases y<;>exact absurd (show false=true from hs) Í
def Xo:aZ X (Č .Lt) (pC λi j=>.bl (decide (i<j))):=Aq λ_ _ _ _ _ _ _ q=>lt_int q
def Xp:aZ X (Č .LtE) (pC λi j=>.bl (decide (i<=j))):=Aq λ_ _ _ _ _ _ _ q=>le_int q
def Xq:aZ X (Č .Gt) (pC λi j=>.bl (decide (j<i))):=Aq λ_ _ _ _ _ _ _ q=>gt_int q
def Xr:aZ X (Č .GtE) (pC λi j=>.bl (decide (j<=i))):=Aq λ_ _ _ _ _ _ _ q=>ge_int q
def VZ:aZ X (Č .Is) (λx y H Q=>y=.au/\Q (.bl (decide (x=.au))) H):=by
 intro W s σ H x y v u Q I Z Y h;obtain⟨rfl,q⟩:=h;cases Y;refine is_none_gen (cW I q ?_)
 cases x<;>first
  |(cases Z;rfl)
  |(obtain⟨t,rfl⟩:=Z;rfl)
def bI (b:Ņ) (h:op≠.In:=by decide) (h2:op≠.NotIn:=by decide):aaW op b=false:=by
 have e1:(op==CmpOp.In)=false:=by cases op<;>first|rfl|exact absurd rfl h
 have e2:(op==CmpOp.NotIn)=false:=by cases op<;>first|rfl|exact absurd rfl h2
 cases b<;>simp[aaW,e1,e2]
def T7 (ho:aZ X (Č op) r) (ha:PE X a ta) (hb:PE X b tb) (hm:aaW op b=false):PE X (.Compare a [op] [b] pos) (xi r ta tb):=by
 intro Z s σ H Q I h;exact wpAny_Compare1 (EH ha hb I h λv u Y x y W V U T q=>ho Z Y σ W x y v u Q V U T q) hm
def vV (t:TE):TT:=fun σ H Q=>t σ H λx Z=>∃k,x=.bl k/\Q k Z
def T8 {op:CmpOp} {r:R2} (ho:aZ X (Č op) r) (ha:PE X a ta) (hb:PE X b tb) (hm:aaW op b=false):PT X (.Compare a [op] [b] pos) (vV (xi r ta tb)):=by
 intro Z s σ H Q I h;refine wpAny_isTrue_Compare1 (aG (ha Z s σ H _ I h) λv Y ⟨x,W,V,U,T⟩=>aG (hb Z Y σ W _ V T) λu S ⟨y,R,P,O,N⟩ =>
  aG (ho Z S σ R x y v u _ P U O N) λc G ⟨z,M,L,K,k,e,J⟩=>?_) hm
 subst e;cases K;exact ĺ ⟨M,L,J⟩
def De (r r':R2) (ta tb tc:TE):TE:=fun σ H Q=>ta σ H λx Y=>tb σ Y λy X=>r x y X λz Z=>∃k,z=.bl k /\
 (if k=true then tc σ Z λW V=>r' y W V Q else Q (.bl false) Z)
def RN {op jZ:CmpOp} {r r':R2} (ho:aZ X (Č op) r) (eQ:aZ X (Č jZ) r') (ha:PE X a ta) (hb:PE X b tb) (hc:PE X c tc)
  (hm:lastMarks [op,jZ] [b,c]=false:=by with_unfolding_all rfl):PE X (.Compare a [op,jZ] [b,c] pos) (De r r' ta tb tc):=by
 intro Z s σ H Q I h;refine Compare_chain (aG (ha Z s σ H _ I h) λv T ⟨x,S,R,P,O⟩=>chain_link (aG (hb Z T σ S _ R O) λu N ⟨y,M,L,Y,K⟩ =>
  aG (ho Z N σ M x y v u _ L P Y K) λd J ⟨z,W,V,G,k,e,U⟩=>?_)) hm
 subst e;cases G;refine ĺ ?_
 cases k with
 |false=>exact ite_ff ⟨.bl false,W,V,rfl,U⟩
 |true=>exact ite_tt (chain_last (aG (hc Z J σ W _ V U) λF E ⟨D,C,B,A,w⟩=>eQ Z E σ C y D u F Q B Y A w))
def RO {op jZ:CmpOp} {r r':R2} (ho:aZ X (Č op) r) (eQ:aZ X (Č jZ) r') (ha:PE X a ta) (hb:PE X b tb) (hc:PE X c tc)
  (hm:lastMarks [op,jZ] [b,c]=false:=by with_unfolding_all rfl):PT X (.Compare a [op,jZ] [b,c] pos) (vV (De r r' ta tb tc)):=by
 intro Z s σ H Q I h;refine isTrue_chain (aG (ha Z s σ H _ I h) λv T ⟨x,S,R,P,O⟩=>test_link (aG (hb Z T σ S _ R O) λu N ⟨y,M,L,Y,K⟩ =>
  aG (ho Z N σ M x y v u _ L P Y K) λd J ⟨z,W,V,G,k,e,U⟩=>?_)) hm
 subst e;cases G;refine ĺ ?_
 cases k with
 |false =>
  obtain⟨l,F,E⟩:=U;cases F;exact ite_ff ⟨W,V,E⟩
 |true =>
  refine ite_tt (test_last (aG (hc Z J σ W _ V U) λD C ⟨B,A,w,t,q⟩=>aG (eQ Z C σ A y B u D _ w Y t q) λj s5 ⟨i,p,o,n,g,e2,m⟩=>?_));subst e2;cases n;exact ĺ ⟨p,o,m⟩
def qZ (K:ļ) (x:V) (H:Hp) (k:Bool):Prop :=
 match x with
 | .au=>k=false
 | .bl b=>k=b
 | .int i=>k=(i != 0)
 | .str y=>y.length<=Õ/\k=((y.length:Int) != 0)
 | .jX y=>y.size<=Õ/\k=((y.size:Int) != 0)
 | .ref p=>(∃Z,bq K H p Z/\k=!Z.isEmpty)\/(∃Z,bo K H p Z/\k=!Z.isEmpty)\/∃Y,H p=some (.dK Y)/\k=!Y.isEmpty
 |_=>False
def Pr {κ:Type} {ak:List (κ×V)} {vs:List (κ×Ì)} (r:KV ak vs):(!vs.isEmpty)=!ak.isEmpty:=by
 cases r<;>rfl
def HG (r:Vals xs its):(!its.toArray.isEmpty)=!xs.isEmpty:=by
 cases r<;>simp
def qo:(Õ:Nat)<2 ^ 63:=by rw[aal];decide
def KU:Yz X (λx H Q=>∃k,qZ X.K x H k/\Q k H):=by
 intro J s σ H x v Q I U h;obtain⟨k,e,q⟩:=h;have G:=qo;have hs:Õ=16777216:=aal
 cases x with
 |au =>
  cases U;have Z:k=false:=e;subst Z;exact truthy_none ⟨H,I,q⟩
 |bl b =>
  cases U;have Z:k=b:=e;subst Z;exact ĺ ⟨H,I,q⟩
 |int i =>
  obtain⟨t,rfl⟩:=U;have Z:k=(i != 0):=e;subst Z;exact PySem.P.truthy_int ⟨H,I,q⟩
 |str y =>
  obtain⟨t,rfl⟩:=U;obtain⟨M,Z⟩:y.length<=Õ/\k=((y.length:Int) != 0):=e;subst Z;exact PySem.P.truthy_str (by omega) ⟨H,I.tok _,q⟩
 |jX y =>
  obtain⟨t,rfl⟩:=U;obtain⟨M,Z⟩:y.size<=Õ/\k=((y.size:Int) != 0):=e;subst Z;exact PySem.W.truthy_bytes (by omega) ⟨H,I.tok _,q⟩
 |ref p =>
  cases U;have Z:(∃V,bq X.K H p V/\k=!V.isEmpty)\/(∃V,bo X.K H p V/\k=!V.isEmpty)\/∃T,H p=some (.dK T)/\k=!T.isEmpty:=e
  rcases Z with ⟨V,S,Z⟩ | ⟨V,S,Z⟩ | ⟨T,S,Z⟩
  ·subst Z
   obtain⟨its,r,O,N⟩:=I.list S;have Y:=r.length;exact wpAny_truthy_list O.isList (by simp only[Ô];omega) ⟨H,I.tok _,by rw[HG r];exact q⟩
  ·subst Z
   obtain⟨its,r,O,N⟩:=I.tuple S;have Y:=r.length;exact truthy_tuple O (by simp only[Ô];omega) ⟨H,I.tok _,by rw[HG r];exact q⟩
  ·subst Z
   obtain⟨N,L,R,r,m⟩:T.length<=Õ/\(p==Ų)=false/\∃R,KV T R/\s.heap.DictOf (yX X.prog X.w) p R:=I.aH p _ S;have Y:T.length=R.length:=Paired.length r;exact wpAny_truthy_dict L m (by omega) ⟨H,I.tok _,by rw[Pr r];exact q⟩
 |_=>exact(show False from e).elim
def RP (ha:PE X a ta) (he:∀whole,aci a X.env whole=(do let v <- whole;aak a.pos;aaj [v] (truthy v))) :
  PT X a (fun σ H Q=>ta σ H λx H'=>∃k,qZ X.K x H' k/\Q k H'):=by
 intro Z s σ H Q I h;exact isTrue_plain (aG (ha Z s σ H _ I h) λv Y ⟨x,W,V,U,T⟩=>KU Z Y σ W x v Q V U T) (he _)
def Pt:aZ X (ř .Add) (λx y H Q=>∃i j,x=.str i/\y=.str j/\i.length+j.length<=Õ/\Q (.str (i++j)) H):=by
 intro U s σ H x y v u Q I Z Y h;obtain⟨i,j,rfl,rfl,W,q⟩:=h;obtain⟨t,rfl⟩:=Z;obtain⟨V,rfl⟩:=Y;exact add_str (λV T=>⟨.str (i++j),H,I.tok _,⟨_,rfl⟩,q⟩) W
def vals1 (r:Vals [x] us):∃u,us=[u]/\RelV x u:=by
 cases r with
 |cons Z Y=>cases Y;exact⟨_,rfl,Z⟩
def vals2 (r:Vals [x,y] us):∃u w',us=[u,w']/\RelV x u/\RelV y w':=by
 cases r with
 |cons Z Y =>
  cases Y with
  |cons X W=>cases W;exact⟨_,_,rfl,Z,X⟩
def Qt (hc:X.calm=true):cB X (.builtin "max") (λxs H Q=>∃i j,xs=[.int i,.int j]/\Q (.int (if j > i then j else i)) H):=by
 intro Y s σ H xs W Q I r h;obtain⟨i,j,rfl,q⟩:=h;obtain⟨u,V,rfl,⟨t,rfl⟩,⟨U,rfl⟩⟩:=vals2 r;refine max_two_ints (I.ok.hd hc) λT S k=>⟨_,H,I.kept k,?_,q⟩;by_cases Z:j > i
 ·rw[ß Z,ß Z];exact⟨_,rfl⟩
 ·rw[æ Z,æ Z];exact⟨_,rfl⟩
def Qu (hc:X.calm=true):cB X (.builtin "min") (λxs H Q=>∃i j,xs=[.int i,.int j]/\Q (.int (if j<i then j else i)) H):=by
 intro Y s σ H xs W Q I r h;obtain⟨i,j,rfl,q⟩:=h;obtain⟨u,V,rfl,⟨t,rfl⟩,⟨U,rfl⟩⟩:=vals2 r;refine min_two_ints (I.ok.hd hc) λT S k=>⟨_,H,I.kept k,?_,q⟩;by_cases Z:j<i
 ·rw[ß Z,ß Z];exact⟨_,rfl⟩
 ·rw[æ Z,æ Z];exact⟨_,rfl⟩
end
structure abW (h:Ţ) (x dx C:â) (mA:Str->Option Ì):Prop where
 obj:h.get? x=some (PySem.W.instObj C dx)
 ns:h.Ns1 dx mA
 ne:dx≠x
section
variable {prog:ö} {w:Ć} {A:Đ} {E:Ì->Ç->Prop} {s:Ç} {K:ļ} {x dx C f:â} {mA:Str->Option Ì} {name:Str} {v:Ì}
end
section
variable {P:ö} {w:Ć} {H H':Hp} {h h':Ţ} {a C dx:â} {fs Zl:List (Str×V)}
end
structure Zs (K:ļ) (C:â):Prop where
 pg:PySem.W.plainGet K C Str.empty=true
 hd:PySem.W.hasDictIn K C=true
 po:PySem.W.plainOver K C=true
 sa:abo K (.ref C) "__setattr__"=some (some (.builtin "object.__setattr__"))
structure Con (K:ļ) (C:â) (f:Str) (v:V) (u:Ì):Prop where
 at_:abo K (.ref C) f=some (some u)
 rel:RelV v u
 get:PySem.W.specialIn K u "__get__"=some none
 cp:PySem.W.copiedNames.contains f=false
structure Meth (K:ļ) (C:â) (m:Str) (f:â):Prop where
 at_:abo K (.ref C) m=some (some (.ref f))
 fn:PySem.W.isFn K (.ref f)=true
 kp:ź K (.ref f)=true
section
variable {X:Cx} {π:List (â×Obj)} {σ:St} {H:Hp} {s:Ç} {a C dx:â} {fs:List (Str×V)} {f:Str} {v:V} {A:Đ} {E:Ì->Ç->Prop}
end
section
variable {X:Cx} {o e value:Ņ} {f:Str} {pos pos' ra:Pos} {ta tv:TE}
end
section
variable {X:Cx} {π:List (â×Obj)} {σ:St} {H:Hp} {s:Ç} {A:Đ} {E:Ì->Ç->Prop} {Q:Ì->Ç->Prop} {c:Ì} {b:Bool}
inductive lF (K:ļ) (H:Hp):V->Ì->Prop where
 |au:lF K H .au (.type "NoneType")
 |bl (x:Bool):lF K H (.bl x) (.type "bool")
 |int (i:Int):lF K H (.int i) (.type "int")
 |str (x:Str):lF K H (.str x) (.type "str")
 |wX (x:UInt64):lF K H (.wX x) (.type "float")
 |lst {a:â} {xs:List V} (e:H a=some (.lst xs)):lF K H (.ref a) (.type "list")
 |dw {a:â} {o:Obj} {xs:List V} (e:H a=some (.dw o (.lst xs))):lF K H (.ref a) (.type "list")
 |tup {a:â} {xs:List V} (e:H a=some (.tup xs)):lF K H (.ref a) (.type "tuple")
 |dK {a:â} {ak:List (Key×V)} (e:H a=some (.dK ak)):lF K H (.ref a) (.type "dict")
 |dT {a:â} {ak:List (List Key×V)} (e:H a=some (.dT ak)):lF K H (.ref a) (.type "dict")
 |ins {a C dx:â} {fs:List (Str×V)} (e:H a=some (.ins C dx fs)) (cl:Zs K C) (ha:abo K (.ref C) "__class__"=some (some (.builtin "object.__class__")))
   (hn:PySem.W.specialIn K (.builtin "object.__class__") "__get__"=some (some (.builtin "getset_descriptor.__get__"))) (Ng:PySem.W.takesIn K (.builtin "object.__class__")=some true)
   (hm:PySem.W.mroIn K C (.type "object")=some true):lF K H (.ref a) (.ref C)
end
structure bZ (k:Nat) (A:Đ):Prop where
 hd:A.handled=none
 dp:A.depth+3*k+5<recursionLimit
 un:A.units+16*k+200<abr
 gd:A.guards=some []
def bZ.mono (r:bZ k A) (h:j<=k):bZ j A:=⟨r.hd,by have:=r.dp;omega,by have:=r.un;omega,r.gd⟩
theorem bZ.deeper (r:bZ (k+1) A) (env:Env):bZ k (A.deeper env) :=
 ⟨r.hd,by have:=r.dp;show A.depth+1+3*k+5 < _;omega,by have:=r.un;show A.units+3+16*k+200 < _;omega,r.gd⟩
theorem bZ.in1 (r:bZ (k+1) A):bZ k A.in1 :=
 ⟨r.hd,by have:=r.dp;show A.depth+3*k+5 < _;omega,by have:=r.un;show A.units+1+16*k+200 < _;omega,r.gd⟩
theorem bZ.depth (r:bZ k A):A.depth<recursionLimit:=by have:=r.dp;omega
def EJ:TA:=λ_ H Q=>Q [] H
def zW (ta:TE) (tr:TA):TA:=fun σ H Q=>ta σ H λx Z=>tr σ Z λY X=>Q (x::Y) X
section
variable {X:Cx} {e:Ņ} {es:List Ņ} {te:TE} {t:TA} {pos:Pos}
def nM:PA X [] EJ:=λ_ _ _ _ H Q I h=>Calls.spliced_nil ⟨[],H,I,.nil,h⟩
def kY (ha:PE X e te) (hr:PA X es t) (hs:Þ (e::es) X.env=(false,ś e X.env)::Þ es X.env:=by rfl):PA X (e::es) (zW te t):=by
 intro pos Z s σ H Q I h;rw[hs];show Ü _ _ (spliced ((false,ś e X.env)::χ pos (Þ es X.env))) _ _ s;refine Calls.spliced_cons (aG (ha Z s σ H _ I h) λu Y ⟨x,W,V,U,T⟩=>?_);exact aG (hr pos Z Y σ W _ V T) λM L ⟨S,R,P,O,N⟩=>⟨x::S,R,P,.cons U O,N⟩
def YC (t:TA):TE:=fun σ H Q=>t σ H λZ Y=>Z.length<=Õ/\∀p,Y p=none->Q (.ref p) (upd Y p (.tup Z))
def YD (t:TA):TE:=fun σ H Q=>t σ H λZ Y=>Z.length<=Õ/\∀p,Y p=none->Q (.ref p) (upd Y p (.lst Z))
def V0 {x1} (h:PA X es t):PE X (.Tuple es x1 pos) (YC t):=by
 intro V s σ H Q I U;refine wpAny_Tuple_spliced (aG (h pos V s σ H _ I U) λT Z ⟨S,Y,W,r,z,q⟩=>⟨by rw[<- r.length];exact z,?_⟩);have R:Y Z.heap.objs.size=none:=W.aH.fresh (acr _);refine⟨.ref Z.heap.objs.size,upd Y Z.heap.objs.size (.tup S),W.laid (t':=Z.toks) (λb u e=>Á _ e) (acr _) ?_,rfl,q _ R⟩;exact⟨z,T,r,⟨_,Ð _ rfl,rfl,_,rfl⟩⟩
def KW (h:PA X es t):PE X (.List es pos) (YD t):=by
 intro V s σ H Q I U;refine wpAny_List_spliced (aG (h pos V s σ H _ I U) λT Z ⟨S,Y,W,r,z,q⟩=>⟨by rw[<- r.length];exact z,?_⟩);have R:Y Z.heap.objs.size=none:=W.aH.fresh (acr _);refine⟨.ref Z.heap.objs.size,upd Y Z.heap.objs.size (.lst S),W.laid (t':=Z.toks) (λb u e=>Á _ e) (acr _) ?_,rfl,q _ R⟩;exact⟨z,T,0,r,Ð _ rfl⟩
end
abbrev Sp:=List V->Hp->VK->XK->Prop
abbrev kL:=List Env->Hp->Ç->XK->Ì->Ç->Prop
structure As (P:ö) (w:Ć) (K:ļ) (mg:Str->Option Ì) (base:Ţ) (A:Đ) (outer:List Env) (s:Ç) (H:Hp):Prop where
 frames:A.frames=some outer
 mod:Mod K mg base
 bs:∀b o,base.get? b=some o->s.heap.get? b=some o/\H b=none
 jB:base.objs.size<=s.heap.objs.size
 jP:s.heap.FunFrames base outer
 pw:∀b∈iJ outer,H b=none
 aH:cM P w H s.heap
 bare:AllBare s.gens
def CE (outer:List Env) (P:ö) (w:Ć) (H:Hp) (s:Ç) (Q:VK) (u:Ì) (s':Ç):Prop :=
 ∃v Z,s'.os=s.os/\AllBare s'.gens/\Un (iJ outer) [] H Z s.heap s'.heap/\cM P w Z s'.heap/\RelV v u/\Q v Z
def CR (CX:kL) (outer:List Env) (P:ö) (w:Ć) (H:Hp) (s:Ç) (Q:VK) (E:XK) (r:Result) (s':Ç):Prop :=
 match r with
 | .ok (.ret u)=>CE outer P w H s Q u s'
 | .ok _=>False
 | .error e=>CX outer H s E e s'
structure gf (P:ö) (w:Ć) (K:ļ) (mg:Str->Option Ì) (base:Ţ) (CX:kL) (k:Nat) (f:â) (fd:ť) (ps:List Str) (sp:Sp):Prop where
 len:∀vs H Q E,sp vs H Q E->vs.length=ps.length
 run:∀(A:Đ) (outer:List Env) (s:Ç) (H:Hp) (args:Args) (us:List Ì) (vs:List V) (Q:VK) (E:XK),bZ k A->As P w K mg base A outer s H->BindsTo s fd args (ps.zip us)->Vals vs us->sp vs H Q E ->
  ū (í P w) A (.call (.ref f) args) (CR CX outer P w H s Q E) s
def gf.imp {P:ö} {w:Ć} {K:ļ} {mg:Str->Option Ì} {base:Ţ} {CX:kL} {k:Nat} {f:â} {fd:ť} {ps:List Str} {sp Nh:Sp} (F:gf P w K mg base CX k f fd ps sp)
  (h:∀vs H Q E,Nh vs H Q E->sp vs H Q E):gf P w K mg base CX k f fd ps Nh :=
 ⟨λvs H Q E q=>F.len vs H Q E (h _ _ _ _ q),λA outer s H args Z vs Q E Y X W V hs=>F.run A outer s H args Z vs Q E Y X W V (h _ _ _ _ hs)⟩
section
variable {X:Cx} {π:List (â×Obj)} {σ:St} {H:Hp} {s s':Ç}
def Inv.rf (I:Inv X π σ H s):As X.prog X.w X.K X.mg X.base X.A X.stack s H :=
 ⟨I.ok.frames,I.ok.mod,I.bs,Û I.ok.jB I.sz,I.stack,I.Cw,I.aH,I.bare⟩
def Inv.after (I:Inv X π σ H s) (h:CE X.stack X.prog X.w H s Q u s'):EP X π σ Q u s':=by
 obtain⟨v,Z,os,bare,un,Y,r,q⟩:=h;obtain⟨W,g,d,t,V⟩:=s';obtain rfl:V=s.os:=os;exact⟨v,Z,I.call (h':=W) (g':=g) (d':=d) (t':=t) (ch:=[]) un Y bare (λb z=>absurd z (by simp)),r,q⟩
end
def Xs (sp:Sp) (aq:List V) (E:XK) (t:TA):TE:=fun σ H Q=>t σ H λZ Y=>sp (Z++aq) Y Q E
def Binds (K:ļ) (fd:ť) (ps:List Str) (ds:List Ì):Prop :=
 ∀(s:Ç) (Z:List Ì),K.In s.heap->(Z++ds).length=ps.length->BindsTo s fd ⟨Z,[]⟩ (ps.zip (Z++ds))
def Binds.all {K:ļ} {fd:ť} {ps:List Str} (h:∀us:List Ì,us.length=ps.length->bindArgs fd ⟨us,[]⟩=pure (ps.zip us)):Binds K fd ps []:=λs us _ Z=>by
 rw[Ķ] at Z |-;exact .of_eq (h us Z)
def Passes (CX:kL) (X:Cx) (E:XK):Prop:=∀(Y:List (â×Obj)) (σ:St) (H:Hp) (s:Ç) (e:Ì) (Z:Ç),Inv X Y σ H s->CX X.stack H s E e Z->X.xe e Z
section
variable {X:Cx} {CX:kL} {k:Nat} {f C:â} {fd:ť} {ps:List Str} {sp:Sp} {aq:List V} {ds:List Ì} {E:XK} {x m:Str} {p pos apos:Pos} {e o:Ņ} {es:List Ņ} {ta:TE} {t:TA}
def KY {π:List (â×Obj)} {σ:St} {H:Hp} {s:Ç} {Q:VK} {us:List Ì} {vs:List V} (F:gf X.prog X.w X.K X.mg X.base CX k f fd ps sp) (hr:bZ k X.A) (hb:Binds X.K fd ps ds) (hd:Vals aq ds) (hx:Passes CX X E)
  (I:Inv X π σ H s) (r:Vals vs us) (h:sp (vs++aq) H Q E):Ü (í X.prog X.w) X.A (call (.ref f) us) (EP X π σ Q) X.xe s:=by
 have Y:Vals (vs++aq) (us++ds):=r.append hd;have W:(us++ds).length=ps.length:=by rw[<- Y.length];exact F.len _ _ _ _ h
 refine wpAny_call (Ÿ (F.run X.A X.stack s H ⟨us,[]⟩ (us++ds) (vs++aq) Q E hr I.rf (hb s us I.uD W) Y h) λr U Z=>?_)
 cases r with
 |error e=>exact hx π σ H s e U I Z
 |ok T =>
  cases T with
  |ret u=>exact I.after Z
  |next=>exact aat Z
  |brk=>exact aat Z
  |cont=>exact aat Z
def Ua (F:gf X.prog X.w X.K X.mg X.base CX k f fd ps sp) (hr:bZ k X.A) (hg:Gl X x) (hm:X.mg x=some (.ref f)) (hk:ź X.K (.ref f)=true) (hb:Binds X.K fd ps ds) (hd:Vals aq ds) (hx:Passes CX X E)
  (ha:PA X (e::es) t) (j3:(x==("__debug__":Str))=false:=by decide) (he:Þ (e::es) X.env=(false,ś e X.env)::Þ es X.env:=by rfl) (dA:(χ pos (Þ es X.env)).any (·.1)=false:=by rfl) :
  PE X (.Call (.Name x p) (e::es) [] pos) (Xs sp aq E t):=by
 intro Y s σ H Q I h;refine aaX (JM I hg hm ?_ j3);refine PySem.W.callWith_K (h₀:=X.base) I.ok.mod.wZ hk (aG (ha pos Y s σ H _ I h) λV U ⟨T,S,Z,r,q⟩=>⟨Z.uD,?_⟩) he dA;exact KY F hr hb hd hx Z r q
structure Mk (K:ļ) (C f:â):Prop where
 makes:PySem.W.makesIn K C=true
 init:abo K (.ref C) "__init__"=some (some (.ref f))
 fn:PySem.W.isFn K (.ref f)=true
 kp:ź K (.ref C)=true
end
def PK (X:Cx) (xj:List ach) (t:TA):Prop :=
 ∀(pos:Pos) (Z:List (â×Obj)) (s:Ç) (σ:St) (H:Hp) (Q:List V->Hp->Prop),Inv X Z σ H s->t σ H Q->Ü (í X.prog X.w) X.A (evalAll ((backToKw pos (abM xj X.env)).map (·.2))) (AP X Z σ Q) X.xe s
section
variable {X:Cx} {CX:kL} {k:Nat} {f C:â} {fd:ť} {ps ks:List Str} {sp:Sp} {E:XK} {x m:Str} {p pos apos Au:Pos} {e o:Ņ} {es:List Ņ} {xj:List ach} {te ta:TE} {t tk:TA} {nm:Option Str}
def V1:PK X [] EJ:=λ_ _ _ _ H Q I h=>wpAny_evalAll_nil ⟨[],H,I,.nil,h⟩
def JQ (ha:PE X e te) (hr:PK X xj t):PK X (⟨nm,e,Au⟩::xj) (zW te t):=by
 intro pos Z s σ H Q I h
 show Ü _ _ (evalAll ((do let v <- ś e X.env;aak pos;pure v)::(backToKw pos (abM xj X.env)).map (·.2))) _ _ s
 refine wpAny_evalAll_cons (À (aG (ha Z s σ H _ I h) λu Y ⟨x,W,V,U,T⟩=>À (ł (Â ?_))));exact aG (hr pos Z Y σ W _ V T) λM L ⟨S,R,P,O,N⟩=>⟨x::S,R,P,.cons U O,N⟩
structure abV (K:ļ) (fd:ť) (ps ks:List Str) (g:List Ì->List Ì->List Ì) (gV:List V->List V->List V):Prop where
 to:∀(s:Ç) (us ws:List Ì),K.In s.heap->(g us ws).length=ps.length->BindsTo s fd ⟨us,ks.zip ws⟩ (ps.zip (g us ws))
 rel:∀{vs:List V} {us:List Ì} {zs:List V} {ws:List Ì},Vals vs us->Vals zs ws->Vals (gV vs zs) (g us ws)
variable {g:List Ì->List Ì->List Ì} {gV:List V->List V->List V}
end
structure sV (N P:List Str) (sc:aaB):Prop where
 kind:sc.kind=.function
 co:sc.isCoroutine=false
 gen:sc.isGenerator=false
 nd:N.Nodup
 pre:N.take P.length=P
 par:∀x∈P,sc.names.lookup x=some .local\/sc.names.lookup x=some .cell
 V2:∀y∈sc.names,y.2≠.free
theorem Ia {kindOf:Str->Option aau} {x:Str}:∀{binds:List (Str×Ì)} {m:Str->Option Ì},(∀v,(x,v)∉binds)->bindL kindOf binds m x=m x
 | [],_,_=>rfl
 |(n,v)::r,m,h=>by
  unfold bindL;rw[Ia λw hw=>h w (Ï _ hw)];split
  ·have:x≠n:=by rintro rfl;exact h v Î
   simp[this]
  ·rfl
theorem Ib {kindOf:Str->Option aau} {x:Str}:∀{binds:List (Str×Ì)} {m:Str->Option Ì},(∀v,(x,v)∉binds)->bindC kindOf binds m x=m x
 | [],_,_=>rfl
 |(n,v)::r,m,h=>by
  unfold bindC;rw[Ib λw hw=>h w (Ï _ hw)];split
  ·rfl
  ·have:x≠n:=by rintro rfl;exact h v Î
   simp[this]
theorem Ic {kindOf:Str->Option aau} {x:Str} {v:Ì}:∀{P:List Str} {vs:List Ì} {i:Nat} {m:Str->Option Ì},P.Nodup->P[i]?=some x->vs[i]?=some v->kindOf x=some .local ->
  bindL kindOf (P.zip vs) m x=some v
 | [],_,_,_,_,h,_,_=>by simp at h
 |_::_,[],_,_,_,_,h,_=>by simp at h
 |p::P,w::vs,0,m,X,Z,Y,W=>by
  simp at Z Y;subst Z;subst Y;show bindL kindOf ((p,w)::P.zip vs) m p=_;unfold bindL;rw[Ia λv V=>(aam.mp X).1 (abN V).1,ß W];simp
 |p::P,w::vs,i+1,m,X,Z,Y,W=>by
  show bindL kindOf ((p,w)::P.zip vs) m x=_;unfold bindL;exact Ic (i:=i) (aam.mp X).2 (by simpa using Z) (by simpa using Y) W
theorem Ie {kindOf:Str->Option aau} {x:Str} {v:Ì}:∀{P:List Str} {vs:List Ì} {i:Nat} {m:Str->Option Ì},P.Nodup->P[i]?=some x->vs[i]?=some v->kindOf x≠some .local ->
  bindC kindOf (P.zip vs) m x=some v
 | [],_,_,_,_,h,_,_=>by simp at h
 |_::_,[],_,_,_,_,h,_=>by simp at h
 |p::P,w::vs,0,m,X,Z,Y,W=>by
  simp at Z Y;subst Z;subst Y;show bindC kindOf ((p,w)::P.zip vs) m p=_;unfold bindC;rw[Ib λv V=>(aam.mp X).1 (abN V).1,æ W];simp
 |p::P,w::vs,i+1,m,X,Z,Y,W=>by
  show bindC kindOf ((p,w)::P.zip vs) m x=_;unfold bindC;exact Ie (i:=i) (aam.mp X).2 (by simpa using Z) (by simpa using Y) W
def start (N:List Str) (vs:List V):St:=vs.map some++Ñ (N.length-vs.length) none
def oY (CX:kL) (P:ö) (w:Ć) (K:ļ) (mg:Str->Option Ì) (base:Ţ) (N:List Str) (qual:Str) (scope:aaB) (f:â) (cd:Ì) (A:Đ) (outer:List Env) (s:Ç) (H:Hp) (E:XK):Cx where
 prog:=P
 w:=w
 K:=K
 mg:=mg
 base:=base
 A:=A.deeper (envOfC qual scope s.heap.objs.size f cd)
 N:=N
 eM:=s
 wA:=H
 env:=envOfC qual scope s.heap.objs.size f cd
 outer:=outer
 stack:=envOfC qual scope s.heap.objs.size f cd::outer
 ex:=[]
 calm:=true
 fn:=λ_=>true
 pn:=[]
 xe:=λe Y=>Ü (í P w) (A.deeper (envOfC qual scope s.heap.objs.size f cd)) (leaving (envOfC qual scope s.heap.objs.size f cd) e) (λ_ Z=>CX outer H s E e Z) (λX Z=>CX outer H s E X Z) Y
def IT {sc:aaB} {n:Nat} {x:Str} (h:sc.names.lookup x=some .cell):∃c,(aaD n sc.names []).lookup x=some c:=by
 have q:=aa8 sc.names n [] (.inl h);exact Option.isSome_iff_exists.mp q
def Qv {CX:kL} {P:ö} {w:Ć} {K:ļ} {mg:Str->Option Ì} {base:Ţ} {N ps:List Str} {qual:Str} {scope:aaB} {f:â} {cd:Ì} {A:Đ} {outer:List Env} {s s1:Ç} {H:Hp} {E:XK} {us:List Ì} {vs:List V}
  (S:sV N ps scope) (hd:A.handled=none) (e0:As P w K mg base A outer s H) (hl:vs.length=ps.length) (r:Vals vs us)
  (x:InCallC s s.heap.objs.size (bindL (envOfC qual scope s.heap.objs.size f cd).kindOf (ps.zip us) λ_=>none) (aaD (s.heap.objs.size+1) scope.names []) (bindC (envOfC qual scope s.heap.objs.size f cd).kindOf (ps.zip us) λ_=>none) s1) :
  Inv (oY CX P w K mg base N qual scope f cd A outer s H E) [] (start N vs) H s1:=by
 have M:ps.length<=N.length:=by have:=Ŀ List.length S.pre;rw[ō] at this;omega
 obtain⟨X,L,rfl,U⟩:=x.done;have W:∀b:â,b∉(oY CX P w K mg base N qual scope f cd A outer s H E).ex:=λb z=>absurd (show b∈([]:List â) from z) (by simp);refine⟨⟨e0.mod,S.kind,rfl,rfl,acr _,λy z c X Z=>?_,λy hy=>?_,λy c _ h=>?_,λ_=>hd,Around.frames_deeper e0.frames,.inr ⟨rfl,rfl⟩,λb z=>absurd z (W b),e0.bs,e0.jB,λb _ _=>W b,λb z=>absurd z (W b),e0.jP,e0.pw⟩,
  rfl,e0.bare,Un.kept U,⟨_,x.toInCall.ns,λi y v X Z J=>?_⟩,λy c h=>⟨_,x.cell y c h⟩,e0.aH.fresh (acr _),λy c h=>?_,λp Y=>absurd (show p∈([]:List (â×Obj)) from Y) (by simp),e0.aH.kept U,?_⟩
 ·exact name_of_addr x.apart (μ X) (μ Z)
 ·have hy:scope.names.lookup y=some .cell\/scope.names.lookup y=some .free:=hy
  rcases hy with hy|hy
  ·exact IT hy
  ·exact absurd rfl (S.V2 _ (μ hy))
 ·exact Nat.le_of_lt (x.above y c (μ h))
 ·have hi:i<vs.length:=by
   unfold start at Z;by_cases hi:i<vs.length
   ·exact hi
   ·rw[þ (by simpa using hi)] at Z
    rw[Ĵ] at Z
    split at Z<;>cases Z
  have Q:vs[i]?=some v:=by
   unfold start at Z;rw[ã (by simpa using hi),á] at Z
   cases e:vs[i]? with
   |none=>rw[e] at Z;cases Z
   |some a=>rw[e] at Z;cases Z;rfl
  obtain⟨u,T,O⟩:=r.get Q;have Y:ps[i]?=some y:=by
   rw[<- S.pre,List.getElem?_take_of_lt (by omega)];exact X
  have R:ps.Nodup:=by rw[<- S.pre];exact S.nd.sublist (List.take_sublist _ _)
  refine⟨u,O,?_⟩
  rcases S.par y (š Y) with k|k
  ·exact .inl ⟨k,Ic R Y T k⟩
  ·obtain⟨c,e⟩:=IT (n:=s.heap.objs.size+1) k
   refine .inr ⟨.inl k,c,e,?_⟩;have q:=x.cell y c e;rw[Ie R Y T (by show scope.names.lookup y≠_;rw[k];decide)] at q;exact q
 ·exact e0.aH.fresh (Nat.le_of_lt (x.above y c (μ h)))
 ·unfold start
  show _=N.length;rw[é,Ã,aan];omega
def Xt {CX:kL} {P:ö} {w:Ć} {K:ļ} {mg:Str->Option Ì} {base:Ţ} {k:Nat} {f:â} {name qual:Str} {params:Arguments} {body:List Stmt} {scope:aaB} {dV kV doc pm cF ct oc:Ì} {an od:Option â}
  {pE:Array (Option Ì)} {N ps:List Str} {sp:Sp} (lk:K.lookup f=some ⟨oc,od,.func (η name qual params body scope dV kV doc pm an cF ct),pE⟩) (lR:abp K cF qual=true) (S:sV N ps scope)
  (len:∀vs H Q E,sp vs H Q E->vs.length=ps.length)
  (DU:∀(A:Đ) (outer:List Env) (s:Ç) (H:Hp) (vs:List V) (Q:VK) (E:XK),bZ k (A.deeper (envOfC qual scope s.heap.objs.size f cF))->sp vs H Q E ->
   ∃t,fx (oY CX P w K mg base N qual scope f cF A outer s H E) body t/\t { nx:=λ_ H'=>Q .au H',rt:=Q } (start N vs) H) :
  gf P w K mg base CX (k+1) f (η name qual params body scope dV kV doc pm an cF ct) ps sp:=by
 refine⟨len,λA outer s H args L vs Q E X Z G r R=>?_⟩;have F:=len _ _ _ _ R;have O:K.In s.heap:=Z.mod.wZ.keeps λb o e=>(Z.bs b o e).1;have lim:s.heap.NoLimit:=Z.mod.nolimit.keeps λb o e=>(Z.bs b o e).1;have D:∀y∈ps.zip L,scope.names.lookup y.1=some .local\/(scope.names.lookup y.1=some .cell/\((aaD (s.heap.objs.size+1) scope.names []).lookup y.1).isSome=true):=λ⟨n,v⟩ C=>by
  rcases S.par n (abN C).1 with q|q
  ·exact .inl q
  ·exact .inr ⟨q,aa8 _ _ _ (.inl q)⟩
 refine codeAny_call_function X.depth (O _ _ lk) rfl S.co S.gen rfl (PySem.W.codeRec_of O lR) (G _ _ _ _ ?_);refine wpAny_newFunctionEnv_cells S.kind D λenv B M x=>?_;subst B;refine⟨lim.keeps x.toInCall.keep,codeAny_func ?_⟩;obtain⟨t,z,p⟩:=DU A outer s H vs Q E (X.deeper _) R;have I:Inv (oY CX P w K mg base N qual scope f cF A outer s H E) [] (start N vs) H M:=Qv S X.hd Z F r x;refine ĝ (z [] M (start N vs) H _ I p) (λm U hs=>?_) λe U hs=>hs;have fin:∀{Y:St} {H':Hp} {v:V} {u:Ì},Inv (oY CX P w K mg base N qual scope f cF A outer s H E) [] Y H' U->RelV v u->Q v H'->CE outer P w H s Q u U :=
  λ{Y H' v u} J T q=>⟨v,H',J.os,J.bare,J.base,J.aH,T,q⟩
 cases m with
 |ret u =>
  obtain⟨v,Y,H',J,T,q⟩:=hs;exact fin J T q
 |next =>
  obtain⟨Y,H',J,q⟩:=hs;exact fin (v:=V.au) (u:=Value.none) J rfl q
 |brk =>
  obtain⟨_,_,_,q⟩:=hs;exact aat q
 |cont =>
  obtain⟨_,_,_,q⟩:=hs;exact aat q
section
variable {X:Cx} {x:Str} {p pos:Pos} {e:Ņ} {es:List Ņ} {t:TA} {id T:String} {r:List V->Hp->VK->Prop}
def Fp (r:List V->Hp->VK->Prop) (t:TA):TE:=fun σ H Q=>t σ H λZ Y=>r Z Y Q
def yM (hc:cB X (.builtin id) r) (hg:Gl X x) (hm:X.mg x=none) (hv:Ă x=some (.builtin id)) (ha:PA X (e::es) t) (hn:x≠"__name__":=by decide) (j3:(x==("__debug__":Str))=false:=by decide)
  (he:Þ (e::es) X.env=(false,ś e X.env)::Þ es X.env:=by rfl) (dA:(χ pos (Þ es X.env)).any (·.1)=false:=by rfl):PE X (.Call (.Name x p) (e::es) [] pos) (Fp r t):=by
 intro Z s σ H Q I h;refine aaX (nL I hg hm hv ?_ hn j3);exact PyProof.Rows.callWith_builtin1 (aG (ha pos Z s σ H _ I h) λY W ⟨V,U,T,S,R⟩=>hc Z W σ U V Y Q T S R) he dA
def BM (hc:cB X (.type T) r) (hg:Gl X x) (hm:X.mg x=none) (hv:Ă x=some (.type T)) (ha:PA X (e::es) t) (hn:x≠"__name__":=by decide) (j3:(x==("__debug__":Str))=false:=by decide)
  (he:Þ (e::es) X.env=(false,ś e X.env)::Þ es X.env:=by rfl) (dA:(χ pos (Þ es X.env)).any (·.1)=false:=by rfl):PE X (.Call (.Name x p) (e::es) [] pos) (Fp r t):=by
 intro Z s σ H Q I h;refine aaX (nL I hg hm hv ?_ hn j3);exact ŀ (aG (ha pos Z s σ H _ I h) λY W ⟨V,U,S,R,P⟩=>hc Z W σ U V Y Q S R P) he dA
end
end L2
namespace HT
open PySem PyProof.Rows
noncomputable def lexLt:List Int->List Int->Bool
 | [],[]=>false
 | [],_::_=>true
 |_::_,[]=>false
 |x::Z,y::Y=>if x=y then lexLt Z Y else decide (x<y)
def j9 (x y:Int) (xs ys:List Int):lexLt (x::xs) (y::ys)=if x=y then lexLt xs ys else decide (x<y):=rfl
def IU (A:Đ) (s:Ç) (a:Int) (t:Tok) (c:Int) (u:Tok) (prog:ö) (w:Ć) (E:Ì->Ç->Prop) (Q:Ì->Ç->Prop) (h:Q (.bool (decide (a<c))) s) :
  Ü (í prog w) A (abO .Lt (.int a t) (.int c u)) Q E s :=
 (PyProof.Rows.lt_int h:Ü (í prog w) A (Č .Lt (.int a t) (.int c u)) Q E s)
section
open PySem.SeqAt
open PySem.AutoSeq1 (wpAny_loadPart')
open PySem.MeetsSeq PySem.MeetsSeq2 PySem.MeetsSeq3
end
section
variable {prog:ö} {w:Ć} {A:Đ} {E:Ì->Ç->Prop} {s:Ç}
def Ub (ht:IsTup s.heap t vs.toArray) (hb:IsTup s.heap b ws.toArray) (hv:vs≠[])
 (h1:ws=[]->Q (.ref t) s) (h2:ws≠[]->Q (.ref s.heap.objs.size) { s with heap:=s.heap.push { cls:=.type "tuple",data:=.seq (vs++ws).toArray } })
 (hsz:vs.length+ws.length<=Õ):Ü (í prog w) A (ř .Add (.ref t) (.ref b)) Q E s:=by
 obtain⟨⟨cls,X,data,W⟩,Z,V,n,U⟩:=id ht;obtain⟨⟨O,T,data2,S⟩,Y,R,P,hd2⟩:=id hb;simp only at V U R hd2;subst V U R hd2;have e:vs.toArray++ws.toArray=(vs++ws).toArray:=by simp
 by_cases hw:ws=[]
 ·exact concat_meets ⟨_,Z,rfl⟩ ⟨_,Y,rfl⟩ noFill_tuple_add seq_tuple_add aa9 aaY (aaR _ _)
   (tuple_addW1 t b vs.toArray ws.toArray n P X T W S (by simpa using hv) (by simp[hw])) ⟨Z,Y,h1 hw⟩
 ·refine concat_meets ⟨_,Z,rfl⟩ ⟨_,Y,rfl⟩ noFill_tuple_add seq_tuple_add aa9 aaY (aaR _ _)
   (tuple_addW2 t b vs.toArray ws.toArray n P X T W S (by simpa using hv) (by simpa using hw) (by rw[Ô,Ô];exact hsz)) ⟨Z,Y,?_⟩
  rw[e];exact h2 hw
noncomputable def aV (n d:Nat):Option Int->Nat
 |none=>d
 |some v=>if v<0 then (v+(n:Int)).toNat else min v.toNat n
def JR (n d k:Nat):aV n d (some (k:Int))=min k n:=by
 show (if (k:Int)<0 then ((k:Int)+(n:Int)).toNat else min (k:Int).toNat n)=min k n
 rw[æ (by omega),ò]
def V3 (n d:Nat) (hd:d<=n) (o:Option Int):aV n d o<=n:=by
 cases o with
 |none=>exact hd
 |some v =>
  show (if v<0 then (v+(n:Int)).toNat else min v.toNat n)<=n
  by_cases Z:v<0
  ·rw[ß Z];omega
  ·rw[æ Z];exact Nat.min_le_right _ _
def JS (v:Int) (n d:Nat):(if v<0 then max (v+(n:Int)) 0 else min v (n:Int))=((aV n d (some v):Nat):Int):=by
 show (if v<0 then max (v+(n:Int)) 0 else min v (n:Int))=(((if v<0 then (v+(n:Int)).toNat else min v.toNat n):Nat):Int)
 by_cases Z:v<0
 ·simp only[ß Z];omega
 ·simp only[æ Z];omega
def Pu (lo hi:Option Int) (n:Nat):ń lo hi 1 (n:Int)=(((aV n 0 lo:Nat):Int),((aV n n hi:Nat):Int)):=by
 have Z:¬ ((1:Int)<0):=by omega
 unfold ń;simp only[Z,ê];refine Prod.ext ?_ ?_
 ·cases lo with
  |none=>rfl
  |some v=>exact JS v n 0
 ·cases hi with
  |none=>rfl
  |some v=>exact JS v n n
def Pw (i j:Nat):Ī (i:Int) (j:Int) 1=j-i:=by
 unfold Ī;have Z:(1:Int) > 0:=by omega
 simp only[Z,ô,Int.ediv_one]
 split<;>omega
def HH (p:IsPart v o) (h:Q o s):Ü (í prog w) A (Builtin.Slice.slicePartIndex v) Q E s:=by
 cases p with
 |none=>exact slicePart_none h
 |int i t=>exact slicePart_int h
def Hf {lo hi:Option Int} {n:Nat} {Q:Int×Int×Nat->Ç->Prop} (hs:s.heap.IsSliceOf sl vl vu .none) (pl:IsPart vl lo) (pu:IsPart vu hi)
 (h:Q (((aV n 0 lo:Nat):Int),1,aV n n hi-aV n 0 lo) s):Ü (í prog w) A (aay (.ref sl) (pure (n:Int))) Q E s:=by
 obtain⟨os,Z,X,Y⟩:=id hs;unfold aay ab6;refine À (À (ĭ Z Y (x:=vl) rfl (À (ĭ Z Y (x:=vu) rfl (À (ĭ Z Y (x:=.none) rfl (Â ?_)))))));refine À (slicePart_none ?_)
 show Ü _ _ (if ((1:Int)==0)=true then _ else _) _ _ s
 rw[æ (by decide)];refine À (HH pl (À (HH pu (À (Â ?_)))))
 show Ü _ _ (match ń lo hi 1 (n:Int) with | (lo,hi)=>pure (lo,(1:Int),Ī lo hi 1)) _ _ s
 rw[Pu lo hi n];show Ü _ _ (pure (((aV n 0 lo:Nat):Int),(1:Int),Ī ((aV n 0 lo:Nat):Int) ((aV n n hi:Nat):Int) 1)) _ _ s;rw[Pw];exact Â h
def RQ (xs:Array Ì) (i k:Nat):((Ø k).filterMap λ(m:Nat)=>xs[((i:Int)+(m:Int)*1).toNat]?).toArray=((xs.toList.drop i).take k).toArray:=by
 have e:(λ(m:Nat)=>xs[((i:Int)+(m:Int)*1).toNat]?)=λm=>xs[i+m]?:=by
  funext m;have:((i:Int)+(m:Int)*1).toNat=i+m:=by omega
  rw[this]
 rw[e];have:=pick_run xs i k;rw[List.filterMap_map] at this;have e2:((λx=>xs[x]?) ∘ λx=>i+x)=λm=>xs[i+m]?:=rfl;rw[e2] at this;rw[this]
def NZ {lo hi:Option Int} {Q:Ì->Ç->Prop} (ht:IsTup s.heap t items) (hs:s.heap.IsSliceOf sl vl vu .none) (pl:IsPart vl lo) (pu:IsPart vu hi)
 (hw:¬ (aV items.size 0 lo=0/\aV items.size items.size hi=items.size))
 (h:Q (.ref s.heap.objs.size) { s with heap:=s.heap.push { cls:=.type "tuple",data:=.seq ((items.toList.drop (aV items.size 0 lo)).take (aV items.size items.size hi-aV items.size 0 lo)).toArray } })
 (hsz:items.size<=Õ):Ü (í prog w) A (getItem (.ref t) (.ref sl)) Q E s:=by
 have Z:sizeOk (.seq ((items.toList.drop (aV items.size 0 lo)).take (aV items.size items.size hi-aV items.size 0 lo)).toArray):=by
  show ((items.toList.drop (aV items.size 0 lo)).take (aV items.size items.size hi-aV items.size 0 lo)).toArray.size<=Õ;rw[Ô,ō,List.length_drop,ý];omega
 have U:aV items.size items.size hi<=items.size:=V3 _ _ (acr _) hi;obtain⟨os,Y,X,T⟩:=id hs;have W:s.TypeIs (.ref sl) "slice":=⟨os,Y,X⟩;unfold getItem
 try with_reducible refine Ė ?_
 first|refine À (Â ?_)|skip
 refine À (wpAny_sequenceKey ht.typeIs (by decide) ?_);refine À (ă (name:=ð "__getitem__") ht.typeIs ć
  (ÿ ć ht.typeIs entry_tuple_getitem ?_ (args_tuple_getitem _ _)))
 show Ü _ _ (Œ (.ref t) >>= _) _ _ s;refine À (tupleItemsOf_ ht ?_);refine À (aaS W ?_);rw[ß (by decide)];refine À (Hf hs pl pu ?_);have V:¬ ((((aV items.size 0 lo:Nat):Int)==0&&(1:Int)==1&&(aV items.size items.size hi-aV items.size 0 lo)==items.size)=true):=by
  intro q;rw[Ê,Ê] at q;have S:((aV items.size 0 lo:Nat):Int)=0:=eq_of_beq q.1.1;have R:aV items.size items.size hi-aV items.size 0 lo=items.size:=eq_of_beq q.2;exact hw ⟨by omega,by omega⟩
 show Ü _ _ (if (((aV items.size 0 lo:Nat):Int)==0&&(1:Int)==1&&(aV items.size items.size hi-aV items.size 0 lo)==items.size)=true then _ else _) _ _ s
 rw[æ V,RQ]
 first
  |exact À (m:=Į _) (î (Â ⟨_,rfl,Â h⟩) Z)
  |exact À (m:=Į _) (î (À (Â (Â ⟨_,rfl,Â h⟩))) Z)
  |exact À (À (m:=Į _) (î (Â (Â ⟨_,rfl,Â h⟩)) Z))
  |exact À (À (m:=Į _) (î (Â ⟨_,rfl,Â h⟩) Z))
end
end HT
namespace L2
open PySem PySem.Spec PyProof.Rows
abbrev TO:=St->Hp->(Option Int->Hp->Prop)->Prop
def PO (X:Cx) (e:Option Ņ) (t:TO):Prop :=
 ∀(Z:List (â×Obj)) (s:Ç) (σ:St) (H:Hp) (Q:Option Int->Hp->Prop),Inv X Z σ H s->t σ H Q ->
  Ü (í X.prog X.w) X.A (evalPart e X.env) (λu W=>∃o Y,Inv X Z σ Y W/\IsPart u o/\Q o Y) X.xe s
def Uc:TO:=λ_ H Q=>Q none H
def Xv (t:TE):TO:=fun σ H Q=>t σ H λx Z=>∃i,x=.int i/\Q (some i) Z
def intsAre_of:∀{us:List Ì},Vals (ns.map V.int) us->abb us ns:=by
 induction ns with
 |nil=>intro us r;rw[Ħ] at r;cases r;exact .nil
 |cons n ns ih =>
  intro us r;rw[Ö] at r
  cases r with
  |cons Z Y =>
   obtain⟨t,e⟩:=Z;subst e;exact .cons n t (ih Y)
section
variable {X:Cx} {e:Ņ} {te:TE} {lo hi:Option Ņ} {tl th:TO} {pos p2:Pos}
def Ud:PO X none Uc:=by
 intro Z s σ H Q I h;rw[evalPart_none];exact Â ⟨none,H,I,.none,h⟩
def Ue (h:PE X e te):PO X (some e) (Xv te):=by
 intro Z s σ H Q I hw;rw[evalPart_some];refine aG (h Z s σ H _ I hw) λu T ⟨x,Y,W,V,U⟩=>?_;obtain⟨i,rfl,q⟩:=U;obtain⟨t,rfl⟩:=V;exact⟨some i,Y,W,.int i t,q⟩
def xn (X:Cx) (r:V->Option Int->Option Int->Hp->VK->Prop):Prop :=
 ∀(Z:List (â×Obj)) (s:Ç) (σ:St) (H:Hp) (x:V) (v Y W:Ì) (lo hi:Option Int) (U:â) (Q:VK),Inv X Z σ H s->RelV x v->s.heap.IsSliceOf U Y W .none->IsPart Y lo->IsPart W hi->r x lo hi H Q ->
  ∃T id,typeLookup (.type T) "__getitem__"=pure (some (.builtin id))/\s.TypeIs v T/\Ü (í X.prog X.w) X.A (getItem v (.ref U)) (EP X Z σ Q) X.xe s
def Zt (r:V->Option Int->Option Int->Hp->VK->Prop) (te:TE) (tl th:TO):TE:=fun σ H Q=>te σ H λx Z=>tl σ Z λl Y=>th σ Y λu X=>r x l u X Q
def RR (hr:xn X r) (he:PE X e te) (hl:PO X lo tl) (hu:PO X hi th):PE X (.Subscript e (.Slice lo hi none p2) pos) (Zt r te tl th):=by
 intro Y s σ H Q I h;refine Subscript_ (aG (he Y s σ H _ I h) λv S ⟨x,R,P,O,N⟩=>?_);refine wpAny_Slice (aG (hl Y S σ R _ P N) λW M ⟨l,L,K,J,G⟩=>aG (hu Y M σ L _ K G) λV Z ⟨u,U,F,pu,E⟩=>?_);rw[evalPart_none];refine Â ?_
 have D:Inv X Y σ U { Z with heap:=Z.heap.push { cls:=.type "slice",data:=.fields #[W,V,.none] } }:=F.kept (t':=Z.toks) λb y q=>Á _ q
 obtain⟨T,id,C,B,z⟩:=hr Y { Z with heap:=Z.heap.push { cls:=.type "slice",data:=.fields #[W,V,.none] } } σ U x v W V l u Z.heap.objs.size Q D O (Heap.IsSliceOf.new ..) J pu E
 show Ü (í X.prog X.w) X.A (subscriptTail e (.Slice lo hi none p2) v (.ref Z.heap.objs.size)) (EP X Y σ Q) X.xe { Z with heap:=Z.heap.push { cls:=.type "slice",data:=.fields #[W,V,.none] } }
 exact tail_any (ops:=[.ref Z.heap.objs.size,v]) B C z (by with_unfolding_all rfl)
noncomputable def lG (xs:List V) (lo hi:Option Int):List V:=(xs.drop (HT.aV xs.length 0 lo)).take (HT.aV xs.length xs.length hi-HT.aV xs.length 0 lo)
def Hv (xs:List V) (lo hi:Option Int):(lG xs lo hi).length<=xs.length:=by
 unfold lG;rw[ō,List.length_drop];omega
def YE (K:ļ):V->Option Int->Option Int->Hp->VK->Prop:=λx lo hi H Q=>∃a Z,x=.ref a/\bo K H a Z /\
 ¬ (HT.aV Z.length 0 lo=0/\HT.aV Z.length Z.length hi=Z.length)/\∀p,H p=none->Q (.ref p) (upd H p (.tup (lG Z lo hi)))
def Dg:xn X (YE X.K):=by
 intro R s σ H x v P O lo hi N Q I U hs T pu h;obtain⟨a,Y,rfl,S,hw,q⟩:=h;cases U;obtain⟨its,r,W,V⟩:=I.tuple S;have Z:its.toArray.size=Y.length:=by rw[Ô];exact r.length.symm
 refine⟨"tuple",_,ć.lookup,W.typeIs,?_⟩;refine HT.NZ W hs T pu (by rw[Z];exact hw) ?_ (by rw[Z];exact V);rw[Z];refine⟨.ref s.heap.objs.size,_,I.laid (t':=s.toks) (o:=.tup (lG Y lo hi)) (λb M q=>Á _ q) (acr _) ?_,rfl,q _ (I.aH.fresh (acr _))⟩;exact⟨Û (Hv Y lo hi) V,_,(r.drop (HT.aV Y.length 0 lo)).take (HT.aV Y.length Y.length hi-HT.aV Y.length 0 lo),IsTup.new _ _⟩
def Xw (K:ļ):R2:=λx y H Q=>∃a b Y Z,x=.ref a/\y=.ref b/\bo K H a Y/\bo K H b Z/\Y≠[]/\Y.length+Z.length<=Õ /\
 (Z=[]->Q (.ref a) H)/\(Z≠[]->∀p,H p=none->Q (.ref p) (upd H p (.tup (Y++Z))))
def Vals.CB (r:Vals xs us):us=[]↔xs=[]:=by
 cases r with
 |nil=>simp
 |cons _ _=>simp
def Ug:aZ X (ř .Add) (Xw X.K):=by
 intro J s σ H x y v u Q I V U h;obtain⟨a,b,T,S,rfl,rfl,R,P,O,W,N,M⟩:=h;cases V;cases U;obtain⟨its,Y,L,_⟩:=I.tuple R;obtain⟨G,Z,p2,_⟩:=I.tuple P;refine HT.Ub L p2 (λz=>O (Y.CB.mp z)) (λz=>⟨.ref a,H,I,rfl,N (Z.CB.mp z)⟩) (λz=>?_) (by rw[<- Y.length,<- Z.length];exact W);refine⟨.ref s.heap.objs.size,_,I.laid (t':=s.toks) (o:=.tup (T++S)) (λb F q=>Á _ q) (acr _) ?_,rfl,M (λw=>z (Z.CB.mpr w)) _ (I.aH.fresh (acr _))⟩;exact⟨by rw[é];exact W,_,Y.append Z,IsTup.new _ _⟩
end
noncomputable def iq (n:Nat) (i:Int):Option Nat:=if 0<=i then (if i<n then some i.toNat else none) else if -(n:Int)<=i then some (i+n).toNat else none
def cN {α:Type} (xs:List α) (i:Int):Option α:=(iq xs.length i).bind λj=>xs[j]?
def JT (h:iq n i=some j):seqIndex? i n=some j/\j<n/\-(n:Int)<=i/\i<n:=by
 unfold iq at h;by_cases Y:0<=i
 ·rw[ß Y] at h
  by_cases Z:i<n
  ·rw[ß Z] at h
   have e:i.toNat=j:=acs h;exact⟨by rw[seqIndex_of Y Z,e],by omega,by omega,Z⟩
  ·rw[æ Z] at h;cases h
 ·rw[æ Y] at h
  by_cases Z:-(n:Int)<=i
  ·rw[ß Z] at h
   have e:(i+n).toNat=j:=acs h;exact⟨by rw[seqIndex_neg (by omega) Z,e],by omega,Z,by omega⟩
  ·rw[æ Z] at h;cases h
def CC {α:Type} {xs:List α} {i:Int} {v:α} (h:cN xs i=some v):∃j,seqIndex? i xs.length=some j/\xs[j]?=some v/\j<xs.length/\-(xs.length:Int)<=i/\i<xs.length:=by
 unfold cN at h
 cases e:iq xs.length i with
 |none=>rw[e] at h;cases h
 |some j =>
  rw[e] at h;obtain⟨Z,Y,X,W⟩:=JT e;exact⟨j,Z,h,Y,X,W⟩
def JU (b:Ņ):Prop:=∀o i,subscripted b false o i=operate [o,i] (getItem o i)
def xo (X:Cx) (r:R2):Prop :=
 ∀(value slice:Ņ) (Z:List (â×Obj)) (s:Ç) (σ:St) (H:Hp) (x y:V) (v u:Ì) (Q:VK),Inv X Z σ H s->RelV x v->RelV y u->r x y H Q ->
  subscripted slice false v u=operate [v,u] (getItem v u)->Ü (í X.prog X.w) X.A (subscriptTail value slice v u) (EP X Z σ Q) X.xe s
def Zu (X:Cx) (id:String) (r:V->List V->Hp->VK->Prop):Prop :=
 ∀(Z:List (â×Obj)) (s:Ç) (σ:St) (H:Hp) (x:V) (Y:List V) (v:Ì) (W:List Ì) (Q:VK),Inv X Z σ H s->RelV x v->Vals Y W->r x Y H Q ->
  Ü (í X.prog X.w) X.A (call (.builtin id) (v::W)) (EP X Z σ Q) X.xe s
section
variable {X:Cx} {a b:Ņ} {ta tb:TE} {pos:Pos}
def Xx (hr:xo X r) (ha:PE X a ta) (hb:PE X b tb) (hs:JU b):PE X (.Subscript a b pos) (xi r ta tb):=by
 intro Z s σ H Q I h;exact Subscript_ (EH ha hb I h λv u Y x y W V U T q=>hr a b Z Y σ W x y v u Q V U T q (hs _ _))
def YF (K:ļ):R2:=λx y H Q=>∃p Z i v,x=.ref p/\y=.int i/\bq K H p Z/\cN Z i=some v/\Q v H
def YG (K:ļ):R2:=λx y H Q=>∃p Z i v,x=.ref p/\y=.int i/\bo K H p Z/\cN Z i=some v/\Q v H
def YH:R2:=λx y H Q=>∃z i c,x=.str z/\y=.int i/\z.length<=Õ/\cN z.cps.toList i=some c/\Q (.str ⟨#[c]⟩) H
def yY:xo X (YF X.K):=by
 intro value slice V s σ H x y v u Q I S R h hs;obtain⟨p,E,i,z,rfl,rfl,P,O,q⟩:=h;cases S;obtain⟨t,rfl⟩:=R;obtain⟨its,r,Y,D⟩:=I.list P;obtain⟨j,Z,N,C,M,L⟩:=CC O;obtain⟨w,U,J⟩:=r.get N;have G:=r.length;have B:=qo;have fin:EP X V σ Q w s:=⟨z,H,I,J,q⟩;by_cases T:0<=i
 ·have W:i.toNat=j:=by
   rw[seqIndex_of T L] at Z;exact acs Z
  exact item_listR Y.isList T (by omega) (by rw[W];simpa using U) fin hs
 ·have W:(i+(its.toArray.size:Int)).toNat=j:=by
   rw[seqIndex_neg (by omega) M] at Z;rw[Ô,<- G];exact acs Z
  exact subscriptTail_builtinR (x:=w) Y.isList.typeIs slot_list_getitem.lookup
   (wpAny_getItem_list_neg (Q:=λr F=>r=w/\EP X V σ Q r F) Y.isList (by omega) (by rw[Ô]<;>omega) (by omega) (by rw[W];simpa using U) ⟨rfl,fin⟩) hs
def V4:xo X (YG X.K):=by
 intro value slice Z s σ H x y v u Q I W V h hs;obtain⟨p,L,i,z,rfl,rfl,U,T,q⟩:=h;cases W;obtain⟨t,rfl⟩:=V;obtain⟨its,r,Y,J⟩:=I.tuple U;obtain⟨j,S,R,G,F,E⟩:=CC T;obtain⟨w,P,O⟩:=r.get R;have N:=r.length;have D:=qo;have fin:EP X Z σ Q w s:=⟨z,H,I,O,q⟩;exact subscriptTail_builtinR (x:=w) Y.typeIs slot_tuple_getitem.lookup
  (getItem_tuple (j:=j) (Q:=λr M=>r=w/\EP X Z σ Q r M) Y (by omega) (by omega) (by rw[Ô,<- N];exact S) (by simpa using P) ⟨rfl,fin⟩) hs
def V5:xo X YH:=by
 intro value slice P s σ H x y v u Q I Y W h hs;obtain⟨z,i,c,rfl,rfl,O,V,q⟩:=h;obtain⟨t,rfl⟩:=Y;obtain⟨N,rfl⟩:=W;obtain⟨j,Z,U,M,T,S⟩:=CC V;have R:z.cps.toList.length=z.length:=by simp[Str.length]
 rw[R] at Z T S;have L:=qo;exact tail_any (typeIs_str s z t) slot_str_getitem.lookup (getItem_str (c:=c) (by
  have e1:decide (i < -(2 ^ 63:Int))=false:=è (by omega);have e2:decide (i ≥ 2 ^ 63)=false:=è (by omega);rw[e1,e2,Bool.or_false]) (by rw[Z];simpa using U) ⟨.str ⟨#[c]⟩,H,I.tok _,⟨_,rfl⟩,q⟩) hs
def Px (its:List Ì) (n j:Nat) (u:Ì):į (·.setIfInBounds j u) { cls:=.type "list",data:=.seq its.toArray n }={ cls:=.type "list",data:=.seq (its.set j u).toArray n }:=by
 simp[į]
theorem Inv.lst {π:List (â×Obj)} {σ:St} {H:Hp} {s:Ç} {p:â} {xs:List V} (I:Inv X π σ H s) (h:H p=some (.lst xs)) :
  ∃(its:List Ì) (n:Nat),Vals xs its/\s.heap.get? p=some { cls:=.type "list",data:=.seq its.toArray n }/\xs.length<=Õ:=by
 obtain⟨z,its,n,r,e⟩:=I.aH p _ h;exact⟨its,n,r,e,z⟩
def Inv.V6 {π:List (â×Obj)} {σ:St} {H:Hp} {s:Ç} {p:â} {xs ys:List V} {its its':List Ì} {n n':Nat} {f:Obj->Obj} (I:Inv X π σ H s) (h:H p=some (.lst xs))
  (ho:s.heap.get? p=some { cls:=.type "list",data:=.seq its.toArray n }) (hf:f { cls:=.type "list",data:=.seq its.toArray n }={ cls:=.type "list",data:=.seq its'.toArray n' }) (r:Vals ys its') (hz:ys.length<=Õ) (t:Nat) :
  Inv X π σ (upd H p (.lst ys)) { s with heap:=s.heap.update p f,toks:=t }:=by
 have e:(s.heap.update p f).get? p=some { cls:=.type "list",data:=.seq its'.toArray n' }:=by
  rw[Ĉ f ho (by rw[hf]<;>rfl),hf]
 refine I.write (x:=p) (e:=p) (by rw[h];trivial) (.inl rfl) (λb u Z q=>(ā _ _ (œ Z)).trans q) ⟨_,e⟩ ?_;exact⟨hz,its',n',r,e⟩
def Xy:V->V->V->Hp->(Hp->Prop)->Prop:=λo i v H Q=>∃p Z k j,o=.ref p/\i=.int k/\H p=some (.lst Z)/\iq Z.length k=some j/\Q (upd H p (.lst (Z.set j v)))
def set_list:EE X Xy:=by
 intro N s σ H o i v E D u Q I M L K h;obtain⟨p,J,k,j,rfl,rfl,T,G,q⟩:=h;cases M;obtain⟨t,rfl⟩:=L;obtain⟨its,n,r,Y,F⟩:=I.lst T;obtain⟨Z,C,S,R⟩:=JT G;have V:=r.length;have B:=qo
 have P:Inv X N σ (upd H p (.lst (J.set j v))) { s with heap:=s.heap.update p (į (·.setIfInBounds j u)) } :=
  I.V6 T Y (Px its n j u) (r.set K j) (by rw[Ģ];exact F) s.toks
 by_cases O:0<=k
 ·have U:k.toNat=j:=by
   rw[seqIndex_of O R] at Z;exact acs Z
  exact PySem.W.ki_setAt Y O (by omega) (by rw[Ô,<- V];exact R) (by rw[U];exact⟨_,P,q⟩)
 ·have U:(k+(its.toArray.size:Int)).toNat=j:=by
   rw[seqIndex_neg (by omega) S] at Z;rw[Ô,<- V];exact acs Z
  exact PySem.W.ki_setBack Y (by omega) (by rw[Ô,<- V];exact S) (by omega) (by rw[U];exact⟨_,P,q⟩)
def Oy (lo hi:Option Int) (n:Nat):(abc lo hi none n).1=((HT.aV n 0 lo:Nat):Int)/\(abc lo hi none n).2.1=((HT.aV n n hi:Nat):Int)/\(abc lo hi none n).2.2=1:=by
 refine⟨?_,?_,rfl⟩
 ·cases lo with
  |none=>simp[abc,HT.aV]
  |some i =>
   simp only[abc,HT.aV,Option.getD_none,show (1:Int) > 0 by decide,ô];by_cases h:i<0
   ·simp only[h,ô]<;>omega
   ·simp only[h,ê]<;>omega
 ·cases hi with
  |none=>simp[abc,HT.aV]
  |some i =>
   simp only[abc,HT.aV,Option.getD_none,show (1:Int) > 0 by decide,ô];by_cases h:i<0
   ·simp only[h,ô]<;>omega
   ·simp only[h,ê]<;>omega
def Og (its:List Ì) (lo hi:Option Int):slicePick its.toArray lo hi none=((its.drop (HT.aV its.length 0 lo)).take (HT.aV its.length its.length hi-HT.aV its.length 0 lo)).toArray:=by
 obtain⟨Z,Y,X⟩:=Oy lo hi its.toArray.size;unfold slicePick;rw[Z,Y,X]
 simp only[sliceRange_one,pick_run,Ô]<;>rfl
def YI (K:ļ):V->Option Int->Option Int->Hp->VK->Prop:=λx lo hi H Q=>∃a Z,x=.ref a/\bq K H a Z/\∀p,H p=none->Q (.ref p) (upd H p (.lst (lG Z lo hi)))
def Uh:xn X (YI X.K):=by
 intro R s σ H x v P O lo hi N Q I V hs U pu h;obtain⟨a,Z,rfl,T,q⟩:=h;cases V;obtain⟨its,r,W,S⟩:=I.list T;have Y:=r.length;refine⟨"list",_,slot_list_getitem.lookup,W.isList.typeIs,?_⟩
 refine wpAny_getItem_list_slice W.isList hs U pu .none (by simp) ?_ (by rw[Ô]<;>omega)
 rw[Og,<- Y];refine⟨.ref s.heap.objs.size,_,I.laid (t':=s.toks) (o:=.lst (lG Z lo hi)) (λb M q=>Á _ q) (acr _) ?_,rfl,q _ (I.aH.fresh (acr _))⟩;exact⟨Û (Hv Z lo hi) S,_,0,(r.drop (HT.aV Z.length 0 lo)).take (HT.aV Z.length Z.length hi-HT.aV Z.length 0 lo),Ð _ rfl⟩
def Bu:cB X (.builtin "len") (λxs H Q=>∃p ys,xs=[.ref p]/\(bq X.K H p ys\/bo X.K H p ys)/\Q (.int ys.length) H):=by
 intro T s σ H xs S Q I r h;obtain⟨p,ys,rfl,hq,q⟩:=h;obtain⟨u,rfl,V⟩:=vals1 r;cases V;have R:=qo
 rcases hq with hq|hq
 ·obtain⟨its,Y,W,U⟩:=I.list hq
  have Z:=Y.length
  exact Calls.call_len_list W.isList (by simp only[Ô]<;>omega) ⟨.int ys.length,H,I.tok _,⟨s.toks+1,by rw[Ô,Z]⟩,q⟩
 ·obtain⟨its,Y,W,U⟩:=I.tuple hq
  have Z:=Y.length
  exact len_tuple W (by simp only[Ô]<;>omega) ⟨.int ys.length,H,I.tok _,⟨s.toks+1,by rw[Ô,Z]⟩,q⟩
def Oz:cB X (.builtin "len") (λxs H Q=>∃z,xs=[.str z]/\z.length<=Õ/\Q (.int z.length) H):=by
 intro Z s σ H xs Y Q I r h;obtain⟨z,rfl,W,q⟩:=h;obtain⟨u,rfl,t,rfl⟩:=vals1 r;have V:=qo;exact len_str (by omega) ⟨.int z.length,H,I.tok _,⟨_,rfl⟩,q⟩
def Hi:cB X (.type "tuple") (λxs H Q=>∃p ys,xs=[.ref p]/\((bq X.K H p ys/\∀l,H l=none->Q (.ref l) (upd H l (.tup ys)))\/(bo X.K H p ys/\Q (.ref p) H))):=by
 intro U s σ H xs M Q I r h;obtain⟨p,ys,rfl,h⟩:=h;obtain⟨u,rfl,P⟩:=vals1 r;cases P
 rcases h with ⟨Y,q⟩ | ⟨Y,q⟩
 ·obtain⟨its,W,V,T⟩:=I.list Y
  have S:=W.length
  refine call_tuple_list V.isList (λZ O=>?_) (by simp only[Ô]<;>omega)
  have R:Inv X U σ H { s with heap:=Z }:=I.kept (t':=s.toks) O
  have N:Inv X U σ (upd H Z.objs.size (.tup ys)) { s with heap:=Z.push { cls:=.type "tuple",data:=.seq its.toArray } } :=
   R.laid (t':=s.toks) (λb o e=>Á _ e) (acr _) (show dX X.prog X.w _ _ _ (.tup ys) from ⟨T,its,W,IsTup.new _ _⟩)
  exact⟨.ref Z.objs.size,_,N,rfl,q _ (R.aH.fresh (acr _))⟩
 ·obtain⟨its,W,V,T⟩:=I.tuple Y
  exact call_tuple_same V ⟨.ref p,H,I,rfl,q⟩
def Nj (K:ļ) (T:String) (x:V) (H:Hp):Prop:=match x with
 | .str _=>T="str"
 | .int _=>T="int"
 | .ref p=>(T="list"/\∃Y,bq K H p Y)\/(T="tuple"/\∃o,K.lookup p=some o/\o.cls=.type "tuple"/\o.dict=none) \/
   (T="dict"/\((∃Z,H p=some (.dK Z))\/∃Z,H p=some (.dT Z)))\/(T="set"/\∃S n,H p=some (.set S n))
 |_=>False
def V7 {π:List (â×Obj)} {σ:St} {H:Hp} {s:Ç} {T:String} {x:V} {v:Ì} (I:Inv X π σ H s) (r:RelV x v) (ty:Nj X.K T x H) :
  s.TypeIs v T/\∀a,v=.ref a->∃ob,s.heap.get? a=some ob/\ob.dict=none:=by
 cases x with
 |str z =>
  obtain⟨t,rfl⟩:=r;cases (show T="str" from ty)
  exact⟨typeIs_str s z t,λ_ e=>nomatch e⟩
 |int i =>
  obtain⟨t,rfl⟩:=r;cases (show T="int" from ty)
  exact⟨typeIs_int s i t,λ_ e=>nomatch e⟩
 |ref p =>
  cases r
  rcases ty with ⟨rfl,P,U⟩ | ⟨rfl,o,Z,R,Y⟩ | ⟨rfl,Z⟩ | ⟨rfl,S,n,Z⟩
  ·obtain⟨its,_,W,_⟩:=I.list U
   refine⟨W.isList.typeIs,λa e=>?_⟩;cases e;obtain⟨o,n,e,c,Y,_⟩:=W;exact⟨o,e,Y⟩
  ·refine⟨⟨o,I.uD p o Z,R⟩,λa e=>?_⟩
   cases e;exact⟨o,I.uD _ o Z,Y⟩
  ·have z:∃o,s.heap.get? p=some o/\o.ExactDict:=by
    rcases Z with ⟨Q,Z⟩ | ⟨Q,Z⟩
    ·obtain⟨_,_,_,_,o,_,_,e,ex,_⟩:=I.aH p _ Z
     exact⟨o,e,ex⟩
    ·obtain⟨_,_,_,_,o,_,_,e,ex,_⟩:=I.aH p _ Z
     exact⟨o,e,ex⟩
   obtain⟨o,e,ex⟩:=z;refine⟨⟨o,e,ex.1⟩,λa e2=>?_⟩;cases e2;exact⟨o,e,ex.2.1⟩
  ·obtain⟨o,_,_,_,e,ex,_⟩:=I.aH p _ Z
   refine⟨⟨o,e,ex.1⟩,λa e2=>?_⟩;cases e2;exact⟨o,e,ex.2.1⟩
 |_=>exact aat ty
def Zv (K:ļ) (T:String) (r:V->List V->Hp->VK->Prop) (to:TE) (t:TA):TE:=fun σ H Q=>to σ H λx Z=>Nj K T x Z/\t σ Z λY X=>r x Y X Q
variable {o e:Ņ} {es:List Ņ} {to:TE} {t:TA} {name:Str} {apos fu:Pos} {T id:String} {r:V->List V->Hp->VK->Prop}
def Xz (pa:PlainAttrs T) (slot:Slot T name id) (Zw:typeOf (.builtin id)=pure (.type "method_descriptor")) (hm:Zu X id r) (ho:PE X o to) (ha:PA X (e::es) t)
  (DW:attributeBase o name X.env (ś o X.env)=ś o X.env:=by rfl)
  (EK:((χ fu (Þ (e::es) X.env)).all (λx=>!x.1)&&(backToKw fu (abM [] X.env)).all (λx=>x.1.isSome)
   && decide ((e::es).length+([]:List ach).length+(if ([]:List ach).isEmpty then 0 else 1)<30))=true:=by rfl)
  (DY:(apos.endLine==fu.line)=true:=by rfl) (hs:Þ (e::es) X.env=(false,ś e X.env)::Þ es X.env:=by rfl) (Dh:(χ fu (Þ es X.env)).any (·.1)=false:=by rfl) :
  PE X (.Call (.Attribute o name apos) (e::es) [] fu) (Zv X.K T r to t):=by
 intro Z s σ H Q I h;refine wpAny_Call_method_late DW EK DY rfl (aG (ho Z s σ H _ I h) λv U ⟨x,S,Y,W,ty,R⟩=>?_);obtain⟨P,O⟩:=V7 Y W ty;refine⟨T,id,pa,slot,Zw,P,O,?_⟩;have V:=ha fu Z U σ S _ Y R;rw[hs] at V |-
 refine Calls.callWith_builtin (by show (false||(χ fu (Þ es X.env)).any (·.1))=false;rw[Dh]<;>rfl) (Calls.evalArgs_plain ?_)
 exact aG V λN M ⟨L,J,G,F,E⟩=>hm Z M σ J x L v N Q G W F E
end
def Zx (X:Cx) (id:String) (r:V->List V->Hp->VK->Prop):Prop :=
 ∀(Z:List (â×Obj)) (s:Ç) (σ:St) (H:Hp) (x:V) (Y:List V) (v:Ì) (W:List Ì) (Q:VK),Inv X Z σ H s->RelV x v->Vals Y W->r x Y H Q ->
  Ü (í X.prog X.w) X.A (call (.builtin id) (v::W)) (EP X Z σ Q) X.xe s
def Vals.one:∀{x:V} {us:List Ì},Vals [x] us->∃u,us=[u]/\RelV x u
 |_,_,.cons r .nil=>⟨_,rfl,r⟩
theorem Vals.rep (h:Vals xs us):∀k:Nat,Vals (Ñ k xs).flatten (Ñ k us).flatten
 |0=>.nil
 |k+1=>by
  rw[ŕ,ŕ,ž,ž];exact Vals.append h (Vals.rep h k)
theorem foldl_rep (its:List Ì):∀(k:Nat) (acc:List Ì),
  List.foldl (λx1 x2=>x1++x2) acc.toArray (Ñ k its.toArray)=(acc++(Ñ k its).flatten).toArray
 |0,acc=>by simp
 |k+1,acc=>by
  have e:acc.toArray++its.toArray=(acc++its).toArray:=by simp
  have e2:(acc++its)++(Ñ k its).flatten=acc++(Ñ (k+1) its).flatten:=by
   rw[ŕ,ž,ę]
  rw[<- e2,<- foldl_rep its k (acc++its),<- e,ŕ,List.foldl_cons]
section
variable {X:Cx} {π:List (â×Obj)} {σ:St} {H:Hp} {s:Ç} {l b:â} {xs ys zs:List V}
def Inv.YJ {its its':List Ì} {n:Nat} {f:Array Ì->Array Ì} {t':Nat} (I:Inv X π σ H s) (hH:H l=some (.lst xs))
  (e:s.heap.get? l=some { cls:=.type "list",data:=.seq its.toArray n }) (hf:f its.toArray=its'.toArray) (hv:Vals ys its') (hz:ys.length<=Õ) :
  Inv X π σ (upd H l (.lst ys)) { s with heap:=s.heap.update l (į f),toks:=t' }:=by
 have q:=PySem.IsL.update e f;rw[hf] at q;refine I.write (x:=l) (e:=l) (by rw[hH];exact trivial) (.inl rfl) (λW u Z Y=>(ā s.heap (į f) (œ Z)).trans Y) ⟨_,q⟩ ?_;exact⟨hz,its',_,hv,q⟩
def Inv.MI (I:Inv X π σ H s) (hv:Vals ys its) (hz:ys.length<=Õ) :
  Inv X π σ (upd H s.heap.objs.size (.lst ys)) { s with heap:=s.heap.push { cls:=.type "list",data:=.seq its.toArray },toks:=t' } :=
 I.laid (λ_ _ q=>Á _ q) (acr _) ⟨hz,its,0,hv,Ð _ rfl⟩
theorem Inv.fresh (I:Inv X π σ H s):H s.heap.objs.size=none:=I.aH.fresh (acr _)
def Inv.Av (I:Inv X π σ H s) (hH:H l=some (.lst xs)):xs.length<=Õ/\∃(its:List Ì) (n:Nat),Vals xs its/\xs.length=its.length/\s.heap.get? l=some { cls:=.type "list",data:=.seq its.toArray n }:=by
 obtain⟨z,its,n,r,e⟩:=I.aH l _ hH;exact⟨z,its,n,r,r.length,e⟩
def RS (h:n<=Õ):aaT n=false:=by
 unfold aaT;exact è (by omega)
end
section
variable {X:Cx}
def Ui:V->List V->Hp->VK->Prop:=λx Y H Q=>∃l Z y,x=.ref l/\Y=[y]/\H l=some (.lst Z)/\Z.length<Õ/\Q .au (upd H l (.lst (Z++[y])))
def Qw:Zx X "list.append" Ui:=by
 intro U s σ H x T v S Q I Y W h;obtain⟨l,R,y,rfl,rfl,Z,P,q⟩:=h;cases Y;obtain⟨u,rfl,V⟩:=W.one;obtain⟨z,its,n,r,O,e⟩:=I.Av Z;refine call_meets F.slot_list_append ⟨_,e,rfl⟩ F.entry_list_append (F.args_list_append_2 _ _) (PySem.list_append l its.toArray n u (by rw[Ô];omega)) ⟨e,?_⟩;refine⟨.au,_,I.YJ (its':=its++[u]) Z e (by simp) (r.append (.cons V .nil)) ?_,rfl,q⟩;rw[é,abt];omega
def YK:R2:=λx y H Q=>∃l b Z zs,x=.ref l/\y=.ref b/\H l=some (.lst Z)/\H b=some (.lst zs)/\Z.length+zs.length<=Õ/\∀p,H p=none->Q (.ref p) (upd H p (.lst (Z++zs)))
def V8:aZ X (ř .Add) YK:=by
 intro R s σ H x y v u Q I Y W h;obtain⟨l,b,O,zs,rfl,rfl,V,U,N,q⟩:=h;cases Y;cases W;obtain⟨z,its,n,r,M,e⟩:=I.Av V;obtain⟨L,Z,K,T,J,e2⟩:=I.Av U;refine PySem.P.add_list e e2 ?_ (by rw[Ô,Ô];omega);have S:its.toArray++Z.toArray=(its++Z).toArray:=by simp
 rw[S];exact⟨.ref _,_,I.MI (t':=s.toks) (r.append T) (by rw[é];omega),rfl,q _ I.fresh⟩
def YL:R2:=λx y H Q=>∃l k Z,x=.ref l/\y=.int k/\H l=some (.lst Z)/\-(2 ^ 63)<=k/\k<2 ^ 63/\Z.length*k.toNat<=Õ /\
 ∀p,H p=none->Q (.ref p) (upd H p (.lst (Ñ k.toNat Z).flatten))
def len_rep {α:Type} (xs:List α) (k:Nat):(Ñ k xs).flatten.length=k*xs.length:=by
 induction k with
 |zero=>simp
 |succ k ih=>rw[ŕ,ž,é,ih,Nat.succ_mul,Nat.add_comm]
def V9:aZ X (ř .Mult) YL:=by
 intro D s σ H x y v u Q I S R h;obtain⟨l,k,C,rfl,rfl,P,O,N,V,q⟩:=h;cases S;obtain⟨t,rfl⟩:=R;obtain⟨z,its,n,r,M,e⟩:=I.Av P;have Z:its.toArray.size*k.toNat<=Õ:=by rw[Ô,<- M];exact V
 have L:¬ its.toArray.size*k.toNat > (2 ^ 63-1) / 8:=by
  have:(Õ:Nat)<=(2 ^ 63-1) / 8:=by decide
  omega
 have K:¬ (!Builtin.List.listFitsIndex k)=true:=by
  rw[fitsIndex_both O N];exact Í
 have J:¬ aaT (its.toArray.size*k.toNat)=true:=by
  rw[RS Z];exact Í
 have G:List.foldl (λY W=>Y++W) #[] (Ñ (if its.toArray.isEmpty=true then 0 else k.toNat) its.toArray)=(Ñ k.toNat its).flatten.toArray:=by
  have f0:∀m:Nat,List.foldl (λY W=>Y++W) #[] (Ñ m its.toArray)=(Ñ m its).flatten.toArray:=λm=>by
   have:=foldl_rep its m [];rw[ķ] at this;exact this
  rw[f0]
  cases its with
  |nil=>simp
  |cons a B=>rw[æ (by simp)]
 refine wpAny_binaryOp_repeat_ref (T:="list") (U:="int") (by decide) ⟨_,e,rfl⟩ (λE=>typeIs_int E k t) noFill_list_mul F.fills_int_mul abP repeat_list F.slot_int_index.lookup
  (call_meets abP (typeIs_int s k t) F.entry_int_rmul (F.args_int_rmul_2 _ _) (int___rmul___int_list k t l its.toArray n)
   ⟨e,rfl,⟨_,e,rfl⟩,call_meets F.slot_list_mul ⟨_,e,rfl⟩ F.entry_list_mul (F.args_list_mul_2 _ _) (AutoListH.list___mul___list_int_3 l its.toArray n k t K L J) ⟨e,?_⟩⟩)
 rw[G];exact⟨.ref _,_,I.MI (t':=s.toks) (r.rep k.toNat) (by rw[len_rep,Nat.mul_comm];exact V),rfl,q _ I.fresh⟩
end
section
variable {prog:ö} {w:Ć} {A:Đ} {E:Ì->Ç->Prop} {s:Ç}
set_option maxRecDepth 100000 in
end
section
variable {X:Cx}
end
end L2
namespace Nk
open PySem PySem.W PySem.Calls PyProof.Rows
def N3:∀(ns:List Int) (vs:List Ì),WellAll P h vs (ns.map WData.int)->abb vs ns:=by
 intro ns
 induction ns with
 |nil =>
  intro vs w;rw[Ħ] at w;cases w;exact .nil
 |cons n ns ih =>
  intro vs w;rw[Ö] at w
  cases w with
  |cons a b =>
   cases a;exact .cons _ _ (ih _ b)
def Qx {l:OpenLaw} {n:Nat} (hn:l.most=some n) {P:Params} {h:Ţ} {args:List WData} {vals:List Ì}
  (Aw:l.row.toRowW.claim.pre args=true) (Fq:WellAll P h vals args) :
  ∃a vs ns,vals=[υ a]/\args=[WData.list (ns.map WData.int)]/\h.get? a=some { cls:=.type "list",data:=.seq vs.toArray }/\abb vs ns/\ns.length<=n:=by
 have V:WShape.hasAll [] args [.list .int]=true:=(pre_splitW Aw).1;have W:l.pre.holds [] { args:=args }=true:=(pre_splitW Aw).2;obtain⟨d,r,rfl,U,T⟩:=hasAllW_cons V;obtain rfl:=hasAllW_nil T;obtain⟨L,rfl,S⟩:=hasW_list U;obtain⟨ns,rfl⟩:=items_int S;have Z:ns.length<=n:=by
  unfold OpenLaw.pre at W;have Y:(WTm.not (.lt (.lit (.int (n:Int))) (.len (.arg 0)))).holds [] { args:=[.list (ns.map .int)] }=true:=by
   have Y:=(holds_andW W).1;rw[hn] at Y;exact Y
  have X:=condW_of Y (w_not (w_lt w_lit (w_len_list (w_arg rfl))));rw[Ã] at X;refine ψ λq=>?_;have R:(n:Int)<((ns.length:Nat):Int):=by omega
  first
   |(rw[à R] at X;exact absurd X (by decide))
   |(simp at X;omega)
 cases Fq with
 |cons Q O =>
  cases O
  cases Q with
  |list N M=>exact⟨_,_,ns,rfl,rfl,N,N3 ns _ M,Z⟩
def Qy (l:OpenLaw) (args:List WData):l.row.toRowW.claim.post args (.bool true) args=true :=
 postW_of (r:=l.row.toRowW) (X:=(true==true))
  (show WShape.has [] (.bool true) .bool=true by first|rfl|decide|simp[WShape.has,WShape.arms,WShape.armsAll])
  (show (WTm.eq .res (.lit (.bool true))).value [] { args:=args,res:=some (.bool true),after:=args }=some (.bool (true==true)) from w_eq_bool (w_res rfl) w_lit) rfl
def OT {l:OpenLaw} {n:Nat} {q:ö} {loose:List Str} {XP:(Str->Option Ì)->Ţ->Prop} {YP:Ć->Ţ->Prop} {d:DefRec}
  (hn:l.most=some n) (xp:d.params.defaults=[])
  (call:∀(w:Ć) (eM bN:Ç) (mg mb:Str->Option Ì) (fa:â) (o:Obj) (pm cd doc:Ì) (a:â) (vs:List Ì) (ns:List Int),
   Ground q loose [] XP w eM mg mb bN.heap->YP w bN.heap ->
   bN.heap.get? fa=some o->o.data=.func (docDef d.name d.params d.body d.scope pm cd doc)->bN.heap.CodeRec cd d.name->mg d.name=some (.ref fa) ->
   bN.heap.get? a=some { cls:=.type "list",data:=.seq vs.toArray }->abb vs ns->ns.length<=n->bN.gens=#[] ->
   ū (í l.prog w) callerA (.call (.ref fa) ⟨[.ref a],[]⟩) (λr s'=>r=.ok (.ret (.bool true))/\OldK bN.heap s'.heap/\s'.os=bN.os/\AllBare s'.gens) bN) :
  WalkO q loose XP YP l.row.toRowW d [] (λf vs=>PySem.call f vs):=by
 intro w eM bN mg mb G Y fa o pm cd doc W kV V U T X S R args vals as Q P O N F;obtain rfl:W=.none:=Dflts.none X xp;obtain rfl:kV=.none:=Dflts.noKw X;obtain⟨a,vs,ns,rfl,rfl,M,hints,Z⟩:=Qx hn Q N;refine enter_call (Ÿ (call w eM bN mg mb fa o pm cd doc a vs ns G Y V (fd_plain U) T S M hints Z R) λr s' L=>?_);obtain⟨rfl,K,J,I⟩:=L
 exact⟨.inl ⟨.bool true,.bool true,[],rfl,λ_=>rfl,.bool true,Qy l _,λ_=>⟨List.Pairwise.nil,λ_ H=>(nomatch H)⟩⟩,K,J,I⟩
section
variable {prog:ö} {w:Ć} {A:Đ} {E:Ì->Ç->Prop} {s:Ç} {K:ļ}
noncomputable def ledger (h:Ţ) (L d:â):List (â×Obj):=(Ø h.objs.size).filterMap λa=>if a=L\/a=d then none else (h.get? a).map λo=>(a,o)
end
end Nk
namespace L2
open PySem PySem.Spec PyProof.Rows
theorem Ig:∀{vs:List Ì} {ns:List Int},abb vs ns->Vals (ns.map V.int) vs
 |_,_,.nil=>.nil
 |_,_,.cons n t h=>.cons ⟨t,rfl⟩ (Ig h)
def EM (H:Hp):Prop:=∀b,H b=none\/∃o Z,H b=some (.dw o (.lst Z))
def RT {P:ö} {w:Ć} {K:ļ} {mg mb:Str->Option Ì} {CX:kL} {k:Nat} {fa a:â} {fd:ť} {x:Str} {sp:Sp} {bN:Ç} {vs:List Ì} {ns:List Int}
  (KX:K.In bN.heap) (uH:bN.heap.Ns ø mg) (hb:bN.heap.Ns builtinsNs mb) (Zz:∀x:Str,x≠"__name__"->mb x=Ă x) (YQ:bN.heap.NoLimit) (hg:bN.gens=#[])
  (ha:bN.heap.get? a=some { cls:=.type "list",data:=.seq vs.toArray }) (hi:abb vs ns) (hl:ns.length<=Õ) (hr:bZ k callerA)
  (F:∀base:Ţ,K.In base->base.Ns ø mg->gf P w K mg base CX k fa fd [x] sp) (XB:∀(s:Ç) (u:Ì),BindsTo s fd ⟨[u],[]⟩ [(x,u)])
  (pF:∀H:Hp,EM H->bq K H a (ns.map V.int)->sp [.ref a] H (λv _=>v=.bl true) λ_ _ _=>False)
  (Fs:∀H e s',CX [] H bN (λ_ _ _=>False) e s'->False) :
  ū (í P w) callerA (.call (.ref fa) ⟨[.ref a],[]⟩) (λr s'=>r=.ok (.ret (.bool true))/\OldK bN.heap s'.heap/\s'.os=bN.os/\AllBare s'.gens) bN:=by
 have S:=Ig hi;have L:=hi.length;have core:∀H:Hp,EM H->bq K H a (ns.map V.int)->cM P w H bN.heap->(∀b,H b≠none->b=a)->(H a≠none->K.lookup a=none) ->
   ū (í P w) callerA (.call (.ref fa) ⟨[.ref a],[]⟩) (λr s'=>r=.ok (.ret (.bool true))/\OldK bN.heap s'.heap/\s'.os=bN.os/\AllBare s'.gens) bN:=by
  intro H R J Q O I;have N:∀{b:â} {o:Obj},bN.heap.get? b=some o->H b=none->(n6 bN.heap H).get? b=some o:=λe n=>RK e n;have G:∀{b:â} {o:Obj} {Z:Array acd} {Y:Nat},bN.heap.get? b=some o->o.data=.dict Z Y->H b=none:=λ{b o Z Y} e d=>by
   cases q:H b with
   |none=>rfl
   |some u =>
    have U:b=a:=O b (by rw[q];simp);subst U;rw[ha] at e;cases e;have E:Data.seq vs.toArray _=Data.dict Z Y:=d;cases E
  have W:∀{b:â} {m:Str->Option Ì},bN.heap.Ns b m->(n6 bN.heap H).Ns b m:=λ{b m} ⟨o,Z,Y,e,d,r⟩=>⟨o,Z,Y,N e (G e d),d,r⟩;have M:K.In (n6 bN.heap H):=λb o e=>N (KX b o e) (by
   cases q:H b with
   |none=>rfl
   |some u =>
    have U:b=a:=O b (by rw[q];simp);subst U;rw[I (by rw[q];simp)] at e;cases e)
  have D:Mod K mg (n6 bN.heap H):=⟨M,W uH,⟨mb,W hb,Zz⟩,let ⟨C,B,A⟩:=YQ;⟨C,W B,A⟩⟩
  have y:As P w K mg (n6 bN.heap H) callerA [] bN H:=⟨rfl,D,λb o e=>TU e,ŝ (Qo _ _),trivial,λb hb=>absurd (show b∈([]:List â) from hb) (by simp),Q,.of_eq hg⟩;refine Ÿ ((F _ M (W uH)).run callerA [] bN H ⟨[.ref a],[]⟩ [.ref a] [.ref a] _ _ hr y (XB bN (.ref a)) (.cons rfl .nil) (pF H R J)) λr s' h=>?_
  cases r with
  |error e=>exact(Fs H e s' h).elim
  |ok t =>
   cases t with
   |next=>exact aat h
   |brk=>exact aat h
   |cont=>exact aat h
   |ret u =>
    obtain⟨v,f,os,bare,un,p,l,q⟩:=h;have j:v=.bl true:=q;subst j;obtain rfl:u=Value.bool true:=l;refine⟨rfl,OldK.of_keep λb o e=>?_,os,bare⟩
    cases q:H b with
    |none=>exact un.keep b o e q (by intro z;exact absurd (show b∈([]:List â) from z) (by simp)) (by simp)
    |some u =>
     rcases R b with z | ⟨i,c,z⟩
     ·rw[q] at z;cases z
     ·have g:=un.jO b i _ z
      obtain⟨e1,_⟩:=Q b _ z;obtain⟨e2,_⟩:=p b _ g;rw[e] at e1;cases e1;exact e2
 cases T:K.lookup a with
 |some o =>
  have e:=KX a o T;rw[ha] at e;cases e;refine core (λ_=>none) (λ_=>.inl rfl) (.inr ⟨_,vs.toArray,_,T,rfl,rfl,rfl,by rw[Ô,L];exact hl,by simpa using S⟩) (λb u z=>by have X:(none:Option HO)=some u:=z;cases X) (λb z=>absurd rfl z) λz=>absurd rfl z
 |none =>
  refine core (λb=>if b=a then some (.dw { cls:=.type "list",data:=.seq vs.toArray } (.lst (ns.map V.int))) else none) (λb=>?_) (.inl (.inr ⟨{ cls:=.type "list",data:=.seq vs.toArray },ß rfl⟩)) (λb u z=>?_) (λb z=>?_) λ_=>T
  ·by_cases hb:b=a
   ·exact .inr ⟨_,_,ß hb⟩
   ·exact .inl (æ hb)
  ·by_cases hb:b=a
   ·have X:=(ß hb).symm.trans z
    cases X;subst hb;exact⟨ha,by rw[Ã];exact hl,vs,_,S,ha⟩
   ·have X:=(æ hb).symm.trans z
    cases X
  ·by_cases hb:b=a
   ·exact hb
   ·exact absurd (æ hb) z
noncomputable abbrev KOf {K:ļ} {h:Ţ} (_:K.In h):ļ:=K
def Uj {l:PySem.W.OpenLaw} {n k:Nat} {q:ö} {loose:List Str} {XP:(Str->Option Ì)->Ţ->Prop} {YP:Ć->Ţ->Prop} {d:DefRec} {K:Params->ļ} {CX:Ć->kL} {sp:Ć->Sp} {x:Str}
  (hn:l.most=some n) (ZA:n<=Õ) (xp:d.params.defaults=[]) (hr:bZ k callerA)
  (hY:∀(w:Ć) (h:Ţ),YP w h->(K w.params).In h)
  (F:∀(w:Ć) (mg:Str->Option Ì) (fa:â) (h:Ţ),(K w.params).In h->h.Ns ø mg->mg d.name=some (.ref fa) ->
   ∃fd:ť,(∀(s:Ç) (u:Ì),BindsTo s fd ⟨[u],[]⟩ [(x,u)]) /\
    ∀base:Ţ,(K w.params).In base->base.Ns ø mg->gf l.prog w (K w.params) mg base (CX w) k fa fd [x] (sp w))
  (pF:∀(w:Ć) (H:Hp) (a:â) (ns:List Int),ns.length<=n->EM H->bq (K w.params) H a (ns.map V.int)->sp w [.ref a] H (λv _=>v=.bl true) λ_ _ _=>False)
  (Fs:∀(w:Ć) (H:Hp) (s:Ç) (e:Ì) (s':Ç),CX w [] H s (λ_ _ _=>False) e s'->False) :
  PySem.W.WalkO q loose XP YP l.row.toRowW d [] (λf vs=>PySem.call f vs):=by
 refine Nk.OT hn xp λw L U mg J fa o pm cd doc a vs ns G Y I E D S R hints Z Q=>?_;have X:=hY w _ Y;obtain⟨fd,P,O⟩:=F w mg fa _ X G.T.g S;exact RT X G.T.g G.T.b G.T.builtins G.T.nolimit Q R hints (Û Z ZA) hr O P (λH N M=>pF w H a ns Z N M) λH e s'=>Fs w H U e s'
noncomputable def qh (s:Stmt):Arguments:=match s with
 | .FunctionDef _ a _ _ _ _ _ _ _ _=>a
 |_=>{ posonlyargs:=[],args:=[],vararg:=none,kwonlyargs:=[],kw_defaults:=[],kwarg:=none,defaults:=[] }
noncomputable def mI (s:Stmt):List Stmt:=match s with
 | .FunctionDef _ _ b _ _ _ _ _ _ _=>b
 |_=>[]
noncomputable def iD (s:Stmt):aaB:=match s with
 | .FunctionDef _ _ _ _ _ _ sc _ _ _=>sc
 |_=>{ kind:=.function,names:=[],isGenerator:=false,isCoroutine:=false }
abbrev iu:kL:=λ_ _ _ _ _ _=>False
abbrev E0:XK:=λ_ _ _=>False
def LO:Passes iu X E0:=λ_ _ _ _ _ _ _ h=>h.elim
structure rR (K:ļ) (x qual:Str) (st:Stmt) (f:â) (fd:ť):Prop where
 ex:∃(oc:Ì) (od:Option â) (kV doc pm:Ì) (an:Option â) (cF ct:Ì) (pE:Array (Option Ì)),
  fd=η x qual (qh st) (mI st) (iD st) .none kV doc pm an cF ct/\K.lookup f=some ⟨oc,od,.func fd,pE⟩/\abp K cF qual=true
 kp:ź K (.ref f)=true
section
variable {P:ö} {w:Ć} {K:ļ} {mg:Str->Option Ì} {base:Ţ}
def rR.ok {x qual:Str} {st:Stmt} {f:â} {fd:ť} {N ps:List Str} {k:Nat} {sp:Sp} (F:rR K x qual st f fd) (S:sV N ps (iD st)) (len:∀vs H Q E,sp vs H Q E->vs.length=ps.length)
  (DU:∀(cF:Ì) (A:Đ) (outer:List Env) (s:Ç) (H:Hp) (vs:List V) (Q:VK) (E:XK),bZ k (A.deeper (envOfC qual (iD st) s.heap.objs.size f cF))->sp vs H Q E ->
   ∃t,fx (oY iu P w K mg base N qual (iD st) f cF A outer s H E).uE (mI st) t/\t { nx:=λ_ H'=>Q .au H',rt:=Q } (start N vs) H):gf P w K mg base iu (k+1) f fd ps sp:=by
 obtain⟨W,U,kV,doc,pm,an,cF,T,R,rfl,lk,Z⟩:=F.ex;refine Xt lk Z S len λA outer s H vs Q E Y X=>?_;obtain⟨t,h,q⟩:=DU cF A outer s H vs Q E Y X;exact⟨t,h.uE,q⟩
def rR.binds {x qual:Str} {st:Stmt} {f:â} {fd:ť} {ps:List Str} (F:rR K x qual st f fd)
  (h:∀(kV doc pm:Ì) (an:Option â) (cF ct:Ì) (us:List Ì),us.length=ps.length->bindArgs (η x qual (qh st) (mI st) (iD st) .none kV doc pm an cF ct) ⟨us,[]⟩=pure (ps.zip us)):Binds K fd ps []:=by
 obtain⟨Z,Y,kV,doc,pm,an,cF,ct,X,rfl,lk,W⟩:=F.ex;exact .all (h kV doc pm an cF ct)
def KZ {x qual:Str} {st:Stmt} {f:â} {oc:Ì} {od an:Option â} {pE:Array (Option Ì)} {kV doc pm cF ct:Ì} (l:K.lookup f=some ⟨oc,od,.func (η x qual (qh st) (mI st) (iD st) .none kV doc pm an cF ct),pE⟩)
  (c:abp K cF qual=true) (k:ź K (.ref f)=true):rR K x qual st f (η x qual (qh st) (mI st) (iD st) .none kV doc pm an cF ct):=⟨⟨oc,od,kV,doc,pm,an,cF,ct,pE,rfl,l,c⟩,k⟩
end
section
variable {X:Cx}
end
def lH (H H':Hp):Prop:=∀b o,H b=some o->H' b=some o
def lH.refl (H:Hp):lH H H:=λ_ _ h=>h
theorem Py (J:Nat->Ç->Prop)
 (turn:∀n s,J n s->Ü (í P w) A (Š fV) (λr s1=>match r with
   |none=>R (.ok .next) s1
   |some v=>Ü (í P w) A (Ń tg fV v) (λ_ s2=>Ü (í P w) A (aai tg ce v) (λ_ s3 =>
     Ü (í P w) A (forIn tests true λc r=>if r=true then do let ok <- aci c ce (ś c ce);pure (ŋ ok) else pure (ŋ r)) (λok s4 =>
      if ok=true then Ü (í P w) A (ś el ce) (λy s5=>Ü (í P w) A (call (.builtin "list.append") [av,y]) (λ_ s6=>∃m,m<n/\J m s6) (λ_ _=>False) s5) (λ_ _=>False) s4
      else ∃m,m<n/\J m s4) (λ_ _=>False) s3) (λ_ _=>False) s2) (λ_ _=>False) s1) (λ_ _=>False) s)
 (n:Nat) (h:J n s):ū (í P w) A (.compLoop (.ListComp el [⟨tg,src,tests,0⟩] sc ps) 0 fV av ce) R s:=by
 refine codeAny_loop rfl J (λn s X=>?_) n h
 show Ü _ A ((abH (.ListComp el [⟨tg,src,tests,0⟩] sc ps) 0 fV av ce).onRaise (λx=>do noteFrame x ce;theTreesLotGoes x)) _ _ s
 refine wpAny_noted ?_;rw[compTurn_list];refine À (ł (À (ĝ (turn n s X) (λr s1 Z=>?_) λ_ _ z=>z.elim)))
 cases r with
 |none=>exact Â Z
 |some v =>
  refine À (ĝ Z (λ_ s2 W=>?_) λ_ _ z=>z.elim);refine À (ĝ W (λ_ s3 V=>À (ĝ V (λok s4 Y=>?_) λ_ _ z=>z.elim)) λ_ _ z=>z.elim)
  cases ok with
  |false=>exact Â ⟨rfl,Y⟩
  |true =>
   exact À (À (ĝ Y (λy s5 U=>À (ĝ U (λ_ s6 T=>Â (Â ⟨rfl,T⟩)) λ_ _ z=>z.elim)) λ_ _ z=>z.elim))
theorem BX (env:Env):∀(l:List (Str×aau)) (acc:List (Str×â)),(∀n,(n,Ą)∈l->∃c,env.cells.lookup n=some c) ->
  ∃cl,(forIn l acc (λ(p:Str×aau) (cs:List (Str×â))=>(do
   if (p.2==Ą)=true then do let c <- cellOf env p.1;pure (ŋ ((p.1,c)::cs)) else pure (ŋ cs):Sem (ForInStep (List (Str×â))))))=pure cl /\
   ∀n c,cl.lookup n=some c↔(((n,Ą)∈l/\env.cells.lookup n=some c)\/((n,Ą)∉l/\acc.lookup n=some c))
 | [],acc,_=>⟨acc,rfl,λn c=>by simp⟩
 |(x,k)::r,acc,h=>by
  rw[List.forIn_cons]
  cases Y:(k==Ą) with
  |false =>
   have U:k≠.free:=by intro e;rw[e] at Y;cases Y
   obtain⟨cl,e,q⟩:=BX env r acc λn X=>h n (Ï _ X);refine⟨cl,?_,λn c=>?_⟩
   ·simp only[Ä,ê]
    exact e
   ·rw[q n c]
    have:(n,Ą)∈(x,k)::r↔(n,Ą)∈r:=by
     constructor
     ·intro Z
      rcases Ó.mp Z with z|z
      ·injection z with _ T
       exact absurd T.symm U
      ·exact z
     ·exact Ï _
    rw[this]
  |true =>
   have S:k=.free:=by cases k<;>first|rfl|cases Y
   subst S;obtain⟨R,W⟩:=h x Î;obtain⟨cl,e,q⟩:=BX env r ((x,R)::acc) λn X=>h n (Ï _ X);refine⟨cl,?_,λn c=>?_⟩
   ·simp only[ô,cellOf,W]
    exact e
   ·rw[q n c]
    by_cases V:n=x
    ·subst V
     constructor
     ·rintro (⟨_,z⟩ | ⟨_,z⟩)
      ·exact .inl ⟨Î,z⟩
      ·rw[Ŏ,ě] at z
       exact .inl ⟨Î,W.trans z⟩
     ·rintro (⟨_,z⟩ | ⟨z,_⟩)
      ·by_cases Z:(n,Ą)∈r
       ·exact .inl ⟨Z,z⟩
       ·refine .inr ⟨Z,?_⟩
        rw[Ŏ,ě];exact W.symm.trans z
      ·exact absurd Î z
    ·have:(n,Ą)∈(x,Ą)::r↔(n,Ą)∈r:=by
      constructor
      ·intro Z
       rcases Ó.mp Z with z|z
       ·injection z with Q _
        exact absurd Q V
       ·exact z
      ·exact Ï _
     rw[this,Ŏ,beq_false_of_ne V]
def Di (h:∀n,(n,Ą)∈sc.names->∃c,env.cells.lookup n=some c) :
  ∃cl,closureFor sc env=pure cl/\∀n c,cl.lookup n=some c↔((n,Ą)∈sc.names/\env.cells.lookup n=some c):=by
 obtain⟨cl,e,q⟩:=BX env sc.names [] h;refine⟨cl,?_,λn c=>?_⟩
 ·unfold closureFor
  exact(Ŀ (λz:Sem (List (Str×â))=>z >>= λr=>pure r) e)
 ·rw[q n c]
  simp
theorem IV (f:Str->aau->aau) (x:Str):∀l:List (Str×aau),(l.map λp=>(p.1,f p.1 p.2)).lookup x=(l.lookup x).map (f x)
 | []=>rfl
 |(n,k)::r=>by
  rw[Ö,Ŏ,Ŏ]
  cases h:x==n with
  |true =>
   have e:x=n:=by simpa using h
   subst e;rfl
  |false=>exact IV f x r
def yn (sc:aaB) (env:Env) (x:Str):(relabel sc env).names.lookup x=(sc.names.lookup x).map λk=>if (k==Ą&&env.scope.kind==.function&&env.kindOf x==some .cell)=true then NameKind.cell else k:=by
 rw[<- IV (λx k=>if (k==Ą&&env.scope.kind==.function&&env.kindOf x==some .cell)=true then NameKind.cell else k)]
 show List.lookup x (sc.names.map _)=_;congr 1;apply aaP;rintro ⟨n,k⟩ _;dsimp only
 split<;>rfl
abbrev cw (X:Cx) (N:List Str) (sc:aaB) (cl:List (Str×â)) (C:â) (s:Ç) (H:Hp) (ex:List â) (pn:List (â×Obj)):Cx where
 prog:=X.prog
 w:=X.w
 K:=X.K
 mg:=X.mg
 base:=X.base
 A:=X.A
 N:=N
 eM:=s
 wA:=H
 env:=compEnvC sc cl C X.env
 outer:=X.stack
 stack:=X.stack
 ex:=ex
 fn:=λ_=>false
 calm:=X.calm
 pn:=pn
 xe:=λ_ _=>False
structure qp (X:Cx) (sc:aaB) (N:List Str) (nt:Nat) (cap:List Nat):Prop where
 kind:sc.kind=.function
 Dj:∀x∈sc.names,x.2≠.cell
 names:∀x∈sc.names,x.2=.local->sc.names.lookup x.1=some .local
 frees:∀x∈sc.names,x.2=.free->sc.names.lookup x.1=some .free/\(X.env.scope.names.lookup x.1=some .cell\/X.env.scope.names.lookup x.1=some .free)
 len:N.length=nt+cap.length
 EN:∀(k:Nat) j,cap[k]?=some j->∃x,X.N[j]?=some x/\N[nt+k]?=some x/\(x,Ą)∈sc.names
def mL (nt:Nat) (cap:List Nat) (σ:St):St:=Ñ nt none++cap.map λj=>(σ[j]?).getD none
def PF (X:Cx) (tests:List Ņ) (t:TT):Prop :=
 ∀(Z:List (â×Obj)) (s:Ç) (σ:St) (H:Hp) (Q:Bool->Hp->Prop),Inv X Z σ H s->t σ H Q ->
  Ü (í X.prog X.w) X.A (forIn tests true λc r=>if r=true then do let ok <- aci c X.env (ś c X.env);pure (ŋ ok) else pure (ŋ r)) (TP X Z σ Q) X.xe s
def YT:TT:=λ_ H Q=>Q true H
def Wa:PF X [] YT:=λ_ _ _ H _ I h=>wpAny_tests_nil ⟨H,I,h⟩
def Wb (h:PT X c t):PF X [c] t:=λZ s σ H Q I hw=>wpAny_tests_one (h Z s σ H Q I hw)
def lX (g:TG) (nt:Nat):Prop:=∀(x:V) (o Z:St) (H:Hp) (R:St->Hp->Prop),o.length=nt->g x (o++Z) H R->g x (o++Z) H fun Y W=>(∃X:St,X.length=nt/\Y=X++Z)/\R Y W
def lq (cap:List Nat) (σ:St):St:=cap.map λj=>(σ[j]?).getD none
def Fv (mk:â->List V->HO) (lY:List V->Prop) (J:It) (nt:Nat) (caps:St) (g:TG) (tf:TT) (te:TE) (H:Hp) (Q:VK):Prop:=∃W:Nat->Nat->List V->Hp->Prop,(∃m,W 0 m [] H) /\
 ∀i m Z Y,W i m Z Y->(J.stop i Y/\lY Z/\∀D,Y D=none->Q (.ref D) (upd Y D (mk D Z))) \/
  (J.go i Y/\lY Z/\∃N:List V->Hp->Prop,(∀X U,N X U->∃T,T < m/\W (i+1) T X U) /\
   ∀o x S,o.length=nt->J.uF i Y x S->g x (o++caps) S fun R O=>tf R O λb P=>if b=true then te R P λv M=>N (Z++[v]) M else N Z P)
def CW (J:It) (nt:Nat) (caps:St) (g:TG) (tf:TT) (te:TE) (H:Hp) (Q:VK):Prop:=Fv (λ_ Z=>.lst Z) (λZ=>Z.length<=Õ) J nt caps g tf te H Q
def nU (wi:TI) (nt:Nat) (cap:List Nat) (g:TG) (tf:TT) (te:TE):TE:=fun σ H Q=>wi σ H λJ Z=>CW J nt (lq cap σ) g tf te Z Q
section
variable {fs ex:List â} {H H':Hp} {h h1 h2:Ţ} {P:ö} {w:Ć}
def Un.adopt {D:â} {o:HO} (u:Un fs ex H H' h h1) (hp:h.objs.size<=D) (hn:H' D=none):Un fs ex H (upd H' D o) h h1 where
 keep:=u.keep
 slot:=u.slot
 free:=λb Y q n X=>by rw[bK (ë (É (Ò q) hp))];exact u.free b Y q n X
 there:=u.there
 kF:=λb Z q=>by rw[bK (fL (u.kF b Z q) hn)];exact u.kF b Z q
 jO:=λb Y Z q=>by rw[bK (fL (u.jO b Y Z q) hn)];exact u.jO b Y Z q
 lE:=λb W q=>by
  obtain⟨more,e⟩:=u.lE b W q;exact⟨more,by rw[bK (fL e hn)];exact e⟩
def Un.but {C:â} (u:Un fs ex H H' h h1) (hp:h.objs.size<=C) (sb:Ľ C h1 h2):Un fs ex H H' h h2:=by
 have ne:∀b Z,h.get? b=some Z->b≠C:=λb Z q=>ë (É (Ò q) hp);refine⟨λb Z q n X Y=>(sb.2 b (ne b Z q)).trans (u.keep b Z q n X Y),λb Z q n X Y=>?_,u.free,λb Z q Y=>?_,u.kF,u.jO,u.lE⟩
 ·obtain⟨W,e⟩:=u.slot b Z q n X Y
  exact⟨W,(sb.2 b (ne b Z q)).trans e⟩
 ·obtain⟨V,e⟩:=u.there b Z q Y
  exact⟨V,(sb.2 b (ne b Z q)).trans e⟩
def cM.but (x:cM P w H h1) (hn:H C=none) (sb:Ľ C h1 h2):cM P w H h2:=λa o e =>
 (x a o e).gb (λb u Z q=>(sb.2 b (by
  rintro rfl
  rcases Z with z|z
  ·subst z;rw[hn] at e;cases e
  ·rw[hn] at z;cases z)).trans q) (λ_ q=>q) λ_ _ q=>q
def cM.adopt (x:cM P w H h) (hn:H D=none) (new:dX P w (upd H D o) h D o):cM P w (upd H D o) h:=λb u e=>by
 by_cases Z:b=D
 ·subst Z;rw[eT] at e;cases e;exact new
 ·rw[bK Z] at e
  exact(x b u e).gb (λc v _ q=>q) (λc q=>by rw[bK (fL q hn)];exact q) λc Y q=>by rw[bK (fL q hn)];exact q
end
section
variable {X:Cx} {sc:aaB} {N:List Str} {nt:Nat} {cap:List Nat} {cl:List (Str×â)} {s:Ç} {h1:Ţ} {H:Hp} {σ:St} {π:List (â×Obj)} {fp:List â} {C:â} {t':Nat}
def Inv.block (I:Inv X π σ H s) (S:qp X sc N nt cap) (dE:∀n c,cl.lookup n=some c↔((n,Ą)∈sc.names/\X.env.cells.lookup n=some c)) (hf:∀b∈fp,cu X π H b) (iK:∀b∈fp,b<s.heap.objs.size)
  (hk:∀b o,s.heap.get? b=some o->h1.get? b=some o) (hC:s.heap.objs.size<=C) (uH:∃m,h1.Ns C m):Inv (cw X N sc cl C s H fp (X.pn++π)) [] (mL nt cap σ) H { s with heap:=h1,toks:=t' }:=by
 have Q:∀b∈iJ X.stack,b∈X.env.locals::X.fs:=I.lh;have g:C∉iJ X.stack:=λz=>by
  rcases Ó.mp (I.lh C z) with e|e
  ·exact absurd (É I.lt hC) (by rw[e];exact ì _)
  ·exact I.qX hC e
 have M:∀x,(relabel sc X.env).names.lookup x=some .cell\/(relabel sc X.env).names.lookup x=some .free->(x,Ą)∈sc.names:=λx Z=>by
  rw[yn] at Z
  cases e:sc.names.lookup x with
  |none=>rw[e] at Z;rcases Z with z|z<;>cases z
  |some k =>
   have Y:(x,k)∈sc.names:=by
    obtain⟨f,a,e1,_⟩:=List.lookup_eq_some_iff.mp e;rw[e1];simp
   rw[e] at Z
   cases k with
   |free=>exact Y
   |cell=>exact absurd rfl (S.Dj _ Y)
   |_=>exfalso;revert Z;simp
 have L:∀x,(x,Ą)∈sc.names->∃c,X.env.cells.lookup x=some c:=λx Z=>I.ok.has x (S.frees _ Z rfl).2;have ok:Cx.Ok (cw X N sc cl C s H fp (X.pn++π)):=by
  refine⟨I.ok.mod,?_,I.ok.glob,I.ok.blt,hC,?_,?_,?_,I.ok.hd,I.ok.frames,.inl rfl,?_,I.bs,Û I.ok.jB I.sz,?_,?_,I.stack,I.Cw⟩
  ·exact S.kind
  ·intro x y c Z K
   exact I.ok.inj x y c ((dE x c).mp Z).2 ((dE y c).mp K).2
  ·intro x Z
   have Y:=M x Z;obtain⟨c,e⟩:=L x Y;exact⟨c,(dE x c).mpr ⟨Y,e⟩⟩
  ·intro x c Z
   cases Z
  ·intro b W
   refine⟨ë (É (iK b W) hC),λx c e=>?_⟩;exact(hf b W).2.2.2.2.1 x c ((dE x c).mp e).2
  ·intro b o e W
   rcases(hf b W).2.2.2.1 with z|z
   ·exact I.ok.mW b o e z
   ·exact absurd (É (Ò e) (Û I.ok.jB z)) (ì _)
  ·intro b W z
   rcases Ó.mp (Q b z) with e|e
   ·exact(hf b W).2.1 e
   ·exact(hf b W).2.2.1 e
 obtain⟨m,Y⟩:=uH;obtain⟨mX,ZC,J⟩:=I.loc;refine⟨ok,rfl,I.bare,Un.kept hk,⟨m,Y,λi x v e1 e2 e3=>?_⟩,λx c e=>?_,I.aH.fresh hC,λx c e=>I.fN x c ((dE x c).mp e).2,λp G=>?_,I.aH.kept hk,?_⟩
 ·
  have hi:nt<=i:=by
   apply ψ;intro P;have:(mL nt cap σ)[i]?=some none:=by
    unfold mL;rw[ã (by simpa using P),Ĵ,ß P]
   rw[this] at e2;cases e2
  have V:(cap.map λj=>(σ[j]?).getD none)[i-nt]?=some (some v):=by
   have e:=e2;unfold mL at e;rw[þ (by simpa using hi)] at e;simpa using e
  rw[á] at V
  cases U:cap[i-nt]? with
  |none=>rw[U] at V;cases V
  |some j =>
   rw[U] at V;have ev:(σ[j]?).getD none=some v:=acs V;have F:σ[j]?=some (some v):=by
    cases q:σ[j]? with
    |none=>rw[q] at ev;cases ev
    |some z=>rw[q] at ev;exact Ŀ some ev
   obtain⟨y,f1,f2,O⟩:=S.EN _ _ U;rw[Nat.add_sub_cancel' hi] at f2;have E:y=x:=acs (f2.symm.trans e1);subst E;obtain⟨g1,g2⟩:=S.frees _ O rfl;have D:w6 X.env.scope y:=.inr g2;obtain⟨u,r,l⟩:=J j y v f1 F D;refine⟨u,r,.inr ⟨?_,?_⟩⟩
   ·show (relabel sc X.env).names.lookup y=some .cell\/(relabel sc X.env).names.lookup y=some .free
    rw[yn,g1];simp only[Ŭ];split
    ·exact .inl rfl
    ·exact .inr rfl
   ·rcases l with ⟨k,_⟩ | ⟨_,c,B,A⟩
    ·exfalso
     have w:X.env.scope.names.lookup y=some .local:=k;dsimp only at g2;rw[w] at g2
     rcases g2 with z|z<;>cases z
    ·obtain⟨T,R,hd⟩:=A
     exact⟨c,(dE y c).mpr ⟨O,B⟩,T,hk _ _ R,hd⟩
 ·obtain⟨v,T,R,hd⟩:=I.cell x c ((dE x c).mp e).2
  exact⟨v,T,hk _ _ R,hd⟩
 ·have t:p∈X.pn++π:=by simpa using G
  obtain⟨e,n,ne,h,d⟩:=I.pin p t;refine⟨hk _ _ e,n,ë (É (Ò e) hC),λz=>?_,d⟩
  rcases Ó.mp (Q p.1 z) with q|q
  ·exact ne q
  ·exact h q
 ·unfold mL
  rw[é,aan,Ã];exact S.len.symm
end
section
variable {X:Cx}
end
inductive Kn where
 |au|bl|int|str|tup|lst|bJ
 deriving DecidableEq
def pH (K:ļ) (H:Hp):V->Kn->Prop
 | .au,.au=>True
 | .bl _,.bl=>True
 | .int _,.int=>True
 | .str _,.str=>True
 | .ref a,.tup=>∃Z,bo K H a Z
 | .ref a,.lst=>∃Z,bq K H a Z
 | .ref a,.bJ=>∃Y,H a=some (.dK Y)
 |_,_=>False
noncomputable def ue:Kn->String->Bool
 | .int,"int"=>true
 | .bl,"int"=>true
 | .bl,"bool"=>true
 | .str,"str"=>true
 | .tup,"tuple"=>true
 | .lst,"list"=>true
 |_,_=>false
section
variable {X:Cx}
def Inv.tm {π:List (â×Obj)} {σ:St} {H:Hp} {s:Ç} {a:â} {xs:List V} (I:Inv X π σ H s) (h:bo X.K H a xs):∃o,s.heap.get? a=some o/\o.cls=.type "tuple":=by
 obtain⟨its,r,⟨o,e,c,_⟩,_⟩:=I.tuple h;exact⟨o,e,c⟩
def Inv.tu {π:List (â×Obj)} {σ:St} {H:Hp} {s:Ç} {a:â} {xs:List V} (I:Inv X π σ H s) (h:bq X.K H a xs):∃o,s.heap.get? a=some o/\o.cls=.type "list":=by
 obtain⟨its,r,⟨o,n,e,c,_⟩,_⟩:=I.list h;exact⟨o,e,c⟩
def Inv.tw {π:List (â×Obj)} {σ:St} {H:Hp} {s:Ç} {a:â} {ak:List (Key×V)} (I:Inv X π σ H s) (h:H a=some (.dK ak)):∃o,s.heap.get? a=some o/\o.cls=.type "dict":=by
 obtain⟨_,_,W,_,p⟩:=(show dX X.prog X.w H s.heap a (.dK ak) from I.aH a _ h);obtain⟨o,U,T,Z,Y,_⟩:=p;exact⟨o,Z,Y.1⟩
def OA:cB X (.builtin "isinstance") (λxs H Q=>∃x k,xs=[x,.ty "int"]/\pH X.K H x k/\Q (.bl (ue k "int")) H):=by
 intro T s σ H xs S Q I r h;obtain⟨x,k,rfl,Z,q⟩:=h;obtain⟨u,c,rfl,Y,rc⟩:=vals2 r;cases rc
 cases k with
 |au =>
  cases x with
  |au =>
   cases Y;exact IsiPair.NoneType_int ⟨.bl false,H,I.tok _,rfl,q⟩
  |_=>exact Z.elim
 |bl =>
  cases x with
  |bl b =>
   cases Y;exact IsiPair.bool_int ⟨.bl true,H,I,rfl,q⟩
  |_=>exact Z.elim
 |int =>
  cases x with
  |int i =>
   obtain⟨t,rfl⟩:=Y;exact IsiPair.int_int ⟨.bl true,H,I,rfl,q⟩
  |_=>exact Z.elim
 |str =>
  cases x with
  |str y =>
   obtain⟨t,rfl⟩:=Y;exact IsiPair.str_int ⟨.bl false,H,I.tok _,rfl,q⟩
  |_=>exact Z.elim
 |tup =>
  cases x with
  |ref a =>
   cases Y;obtain⟨z,W⟩:=Z;obtain⟨o,V,U⟩:=I.tm W;exact IsiPair.tuple_int V U ⟨.bl false,H,I.tok _,rfl,q⟩
  |_=>exact Z.elim
 |lst =>
  cases x with
  |ref a =>
   cases Y;obtain⟨z,W⟩:=Z;obtain⟨o,V,U⟩:=I.tu W;exact IsiPair.list_int V U ⟨.bl false,H,I.tok _,rfl,q⟩
  |_=>exact Z.elim
 |bJ =>
  cases x with
  |ref a =>
   cases Y;obtain⟨z,W⟩:=Z;obtain⟨o,V,U⟩:=I.tw W;exact IsiPair.dict_int V U ⟨.bl false,H,I.tok _,rfl,q⟩
  |_=>exact Z.elim
def Oh:cB X (.builtin "isinstance") (λxs H Q=>∃x k,xs=[x,.ty "bool"]/\pH X.K H x k/\Q (.bl (ue k "bool")) H):=by
 intro T s σ H xs S Q I r h;obtain⟨x,k,rfl,Z,q⟩:=h;obtain⟨u,c,rfl,Y,rc⟩:=vals2 r;cases rc
 cases k with
 |au =>
  cases x with
  |au =>
   cases Y;exact IsiPair.NoneType_bool ⟨.bl false,H,I.tok _,rfl,q⟩
  |_=>exact Z.elim
 |bl =>
  cases x with
  |bl b =>
   cases Y;exact IsiPair.bool_bool ⟨.bl true,H,I,rfl,q⟩
  |_=>exact Z.elim
 |int =>
  cases x with
  |int i =>
   obtain⟨t,rfl⟩:=Y;exact IsiPair.int_bool ⟨.bl false,H,I.tok _,rfl,q⟩
  |_=>exact Z.elim
 |str =>
  cases x with
  |str y =>
   obtain⟨t,rfl⟩:=Y;exact IsiPair.str_bool ⟨.bl false,H,I.tok _,rfl,q⟩
  |_=>exact Z.elim
 |tup =>
  cases x with
  |ref a =>
   cases Y;obtain⟨z,W⟩:=Z;obtain⟨o,V,U⟩:=I.tm W;exact IsiPair.tuple_bool V U ⟨.bl false,H,I.tok _,rfl,q⟩
  |_=>exact Z.elim
 |lst =>
  cases x with
  |ref a =>
   cases Y;obtain⟨z,W⟩:=Z;obtain⟨o,V,U⟩:=I.tu W;exact IsiPair.list_bool V U ⟨.bl false,H,I.tok _,rfl,q⟩
  |_=>exact Z.elim
 |bJ =>
  cases x with
  |ref a =>
   cases Y;obtain⟨z,W⟩:=Z;obtain⟨o,V,U⟩:=I.tw W;exact IsiPair.dict_bool V U ⟨.bl false,H,I.tok _,rfl,q⟩
  |_=>exact Z.elim
def OB:cB X (.builtin "isinstance") (λxs H Q=>∃x k,xs=[x,.ty "str"]/\pH X.K H x k/\Q (.bl (ue k "str")) H):=by
 intro T s σ H xs S Q I r h;obtain⟨x,k,rfl,Z,q⟩:=h;obtain⟨u,c,rfl,Y,rc⟩:=vals2 r;cases rc
 cases k with
 |au =>
  cases x with
  |au =>
   cases Y;exact IsiPair.NoneType_str ⟨.bl false,H,I.tok _,rfl,q⟩
  |_=>exact Z.elim
 |bl =>
  cases x with
  |bl b =>
   cases Y;exact IsiPair.bool_str ⟨.bl false,H,I.tok _,rfl,q⟩
  |_=>exact Z.elim
 |int =>
  cases x with
  |int i =>
   obtain⟨t,rfl⟩:=Y;exact IsiPair.int_str ⟨.bl false,H,I.tok _,rfl,q⟩
  |_=>exact Z.elim
 |str =>
  cases x with
  |str y =>
   obtain⟨t,rfl⟩:=Y;exact IsiPair.str_str ⟨.bl true,H,I,rfl,q⟩
  |_=>exact Z.elim
 |tup =>
  cases x with
  |ref a =>
   cases Y;obtain⟨z,W⟩:=Z;obtain⟨o,V,U⟩:=I.tm W;exact IsiPair.tuple_str V U ⟨.bl false,H,I.tok _,rfl,q⟩
  |_=>exact Z.elim
 |lst =>
  cases x with
  |ref a =>
   cases Y;obtain⟨z,W⟩:=Z;obtain⟨o,V,U⟩:=I.tu W;exact IsiPair.list_str V U ⟨.bl false,H,I.tok _,rfl,q⟩
  |_=>exact Z.elim
 |bJ =>
  cases x with
  |ref a =>
   cases Y;obtain⟨z,W⟩:=Z;obtain⟨o,V,U⟩:=I.tw W;exact IsiPair.dict_str V U ⟨.bl false,H,I.tok _,rfl,q⟩
  |_=>exact Z.elim
def N7:cB X (.builtin "isinstance") (λxs H Q=>∃x k,xs=[x,.ty "tuple"]/\pH X.K H x k/\Q (.bl (ue k "tuple")) H):=by
 intro T s σ H xs S Q I r h;obtain⟨x,k,rfl,Z,q⟩:=h;obtain⟨u,c,rfl,Y,rc⟩:=vals2 r;cases rc
 cases k with
 |au =>
  cases x with
  |au =>
   cases Y;exact IsiPair.NoneType_tuple ⟨.bl false,H,I.tok _,rfl,q⟩
  |_=>exact Z.elim
 |bl =>
  cases x with
  |bl b =>
   cases Y;exact IsiPair.bool_tuple ⟨.bl false,H,I.tok _,rfl,q⟩
  |_=>exact Z.elim
 |int =>
  cases x with
  |int i =>
   obtain⟨t,rfl⟩:=Y;exact IsiPair.int_tuple ⟨.bl false,H,I.tok _,rfl,q⟩
  |_=>exact Z.elim
 |str =>
  cases x with
  |str y =>
   obtain⟨t,rfl⟩:=Y;exact IsiPair.str_tuple ⟨.bl false,H,I.tok _,rfl,q⟩
  |_=>exact Z.elim
 |tup =>
  cases x with
  |ref a =>
   cases Y;obtain⟨z,W⟩:=Z;obtain⟨o,V,U⟩:=I.tm W;exact IsiPair.tuple_tuple V U ⟨.bl true,H,I,rfl,q⟩
  |_=>exact Z.elim
 |lst =>
  cases x with
  |ref a =>
   cases Y;obtain⟨z,W⟩:=Z;obtain⟨o,V,U⟩:=I.tu W;exact IsiPair.list_tuple V U ⟨.bl false,H,I.tok _,rfl,q⟩
  |_=>exact Z.elim
 |bJ =>
  cases x with
  |ref a =>
   cases Y;obtain⟨z,W⟩:=Z;obtain⟨o,V,U⟩:=I.tw W;exact IsiPair.dict_tuple V U ⟨.bl false,H,I.tok _,rfl,q⟩
  |_=>exact Z.elim
def Oi:cB X (.builtin "isinstance") (λxs H Q=>∃x k,xs=[x,.ty "list"]/\pH X.K H x k/\Q (.bl (ue k "list")) H):=by
 intro T s σ H xs S Q I r h;obtain⟨x,k,rfl,Z,q⟩:=h;obtain⟨u,c,rfl,Y,rc⟩:=vals2 r;cases rc
 cases k with
 |au =>
  cases x with
  |au =>
   cases Y;exact IsiPair.NoneType_list ⟨.bl false,H,I.tok _,rfl,q⟩
  |_=>exact Z.elim
 |bl =>
  cases x with
  |bl b =>
   cases Y;exact IsiPair.bool_list ⟨.bl false,H,I.tok _,rfl,q⟩
  |_=>exact Z.elim
 |int =>
  cases x with
  |int i =>
   obtain⟨t,rfl⟩:=Y;exact IsiPair.int_list ⟨.bl false,H,I.tok _,rfl,q⟩
  |_=>exact Z.elim
 |str =>
  cases x with
  |str y =>
   obtain⟨t,rfl⟩:=Y;exact IsiPair.str_list ⟨.bl false,H,I.tok _,rfl,q⟩
  |_=>exact Z.elim
 |tup =>
  cases x with
  |ref a =>
   cases Y;obtain⟨z,W⟩:=Z;obtain⟨o,V,U⟩:=I.tm W;exact IsiPair.tuple_list V U ⟨.bl false,H,I.tok _,rfl,q⟩
  |_=>exact Z.elim
 |lst =>
  cases x with
  |ref a =>
   cases Y;obtain⟨z,W⟩:=Z;obtain⟨o,V,U⟩:=I.tu W;exact IsiPair.list_list V U ⟨.bl true,H,I,rfl,q⟩
  |_=>exact Z.elim
 |bJ =>
  cases x with
  |ref a =>
   cases Y;obtain⟨z,W⟩:=Z;obtain⟨o,V,U⟩:=I.tw W;exact IsiPair.dict_list V U ⟨.bl false,H,I.tok _,rfl,q⟩
  |_=>exact Z.elim
end
def tU (p:â) (Ts:List String):Ţ->Prop:=λh=>h.get? p=some { cls:=.type "tuple",data:=.seq (Ts.map ż).toArray }
theorem JW:∀{Ts:List String} {us:List Ì},Vals (Ts.map V.ty) us->us=Ts.map ż
 | [],_,.nil=>rfl
 |_::r,_,.cons h t=>by
  cases h;rw[JW t];rfl
def Wc (t:TA):TE:=fun σ H Q=>t σ H λZ Y=>∃X:List String,Z=X.map V.ty/\Z.length<=Õ/\∀p,Y p=none->Q (.ref p) (upd Y p (.ext (tU p X)))
section
variable {X:Cx} {es:List Ņ} {t:TA} {pos:Pos}
def RU {x1} (h:PA X es t):PE X (.Tuple es x1 pos) (Wc t):=by
 intro V s σ H Q I U;refine wpAny_Tuple_spliced (aG (h pos V s σ H _ I U) λP Z ⟨O,Y,W,r,T,e,z,q⟩=>⟨by rw[<- r.length];exact z,?_⟩);subst e;have S:=JW r;subst S;have R:Y Z.heap.objs.size=none:=W.aH.fresh (acr _);refine⟨.ref Z.heap.objs.size,upd Y Z.heap.objs.size (.ext (tU Z.heap.objs.size T)),W.laid (t':=Z.toks) (λb u e=>Á _ e) (acr _) ?_,rfl,q _ R⟩;refine⟨Ð _ rfl,⟨_,Ð _ rfl⟩,λN M e k=>k _ e⟩
def We {K:ļ} {π:List (â×Obj)} {σ:St} {H:Hp} {s:Ç} {x:V} {u:Ì} {k:Kn} (I:Inv X π σ H s) (hk:pH X.K H x k) (r:RelV x u) :
  ∃Tx vs,AnswersAll (λs=>s.TypeIs u Tx) u [.type "tuple",.type "list"] vs/\s.TypeIs u Tx/\vs.any id=(decide (k=.tup)||decide (k=.lst)):=by
 cases k with
 |au =>
  cases x with
  |au=>cases r;exact⟨"NoneType",[false,false],.cons (.of_false_none (by decide +kernel) Ŵ F.sub_NoneType_tuple) (.cons (.of_false_none (by decide +kernel) ſ F.sub_NoneType_list) .nil),rfl,rfl⟩
  |_=>exact hk.elim
 |bl =>
  cases x with
  |bl b=>cases r;exact⟨"bool",[false,false],.cons (.of_false_bool (by decide +kernel) Ŵ F.sub_bool_tuple) (.cons (.of_false_bool (by decide +kernel) ſ F.sub_bool_list) .nil),rfl,rfl⟩
  |_=>exact hk.elim
 |int =>
  cases x with
  |int b=>obtain⟨t,rfl⟩:=r;exact⟨"int",[false,false],.cons (.of_false_int (by decide +kernel) Ŵ F.sub_int_tuple) (.cons (.of_false_int (by decide +kernel) ſ F.sub_int_list) .nil),rfl,rfl⟩
  |_=>exact hk.elim
 |str =>
  cases x with
  |str b=>obtain⟨t,rfl⟩:=r;exact⟨"str",[false,false],.cons (.of_false_str (by decide +kernel) Ŵ F.sub_str_tuple) (.cons (.of_false_str (by decide +kernel) ſ F.sub_str_list) .nil),rfl,rfl⟩
  |_=>exact hk.elim
 |tup =>
  cases x with
  |ref a =>
   cases r;obtain⟨z,Z⟩:=hk;exact⟨"tuple",[true,false],.cons (.of_true Ŵ F.sub_tuple_tuple) (.cons (.of_false_tuple (by decide +kernel) ſ F.sub_tuple_list) .nil),I.tm Z,rfl⟩
  |_=>exact hk.elim
 |lst =>
  cases x with
  |ref a =>
   cases r;obtain⟨z,Z⟩:=hk;exact⟨"list",[false,true],.cons (.of_false_list (by decide +kernel) Ŵ F.sub_list_tuple) (.cons (.of_true ſ F.sub_list_list) .nil),I.tu Z,rfl⟩
  |_=>exact hk.elim
 |bJ =>
  cases x with
  |ref a =>
   cases r;obtain⟨z,Z⟩:=hk;exact⟨"dict",[false,false],.cons (.of_false_dict (by decide +kernel) Ŵ F.sub_dict_tuple) (.cons (.of_false_dict (by decide +kernel) ſ F.sub_dict_list) .nil),I.tw Z,rfl⟩
  |_=>exact hk.elim
def OU:cB X (.builtin "isinstance") (λxs H Q=>∃x k p,xs=[x,.ref p]/\pH X.K H x k/\H p=some (.ext (tU p ["tuple","list"]))/\Q (.bl (decide (k=.tup)||decide (k=.lst))) H):=by
 intro R s σ H xs P Q I r h;obtain⟨x,k,p,rfl,Z,Y,q⟩:=h;obtain⟨u,c,rfl,W,rc⟩:=vals2 r;cases rc;obtain⟨O,N,V,U,T⟩:=We (K:=X.K) I Z W;have S:dX X.prog X.w H s.heap p (.ext (tU p ["tuple","list"])):=I.aH p _ Y;exact IsiPair.tupleOfB V U S.1 T λM=>⟨.bl _,H,I.tok _,rfl,q⟩
def IW {bs:List Bool} (r:Vals (bs.map V.bl) its):TruthOf X.prog X.w A (λi v=>its.toArray[i]?=some v) (λi=>bs.getD i false):=by
 intro i v s Q E T S;have Z:its[i]?=some v:=by simpa using T
 have hi:i<its.length:=(Å.mp Z).1;have Y:i<bs.length:=by
  have e:=r.length;rw[Ã] at e;omega
 have R:(bs.map V.bl)[i]?=some (.bl (bs[i])):=by rw[á,Ë Y];rfl
 obtain⟨u,W,P⟩:=Vals.get r R;rw[Z] at W;cases W;cases P;have e:bs.getD i false=bs[i]:=by simp[δ,Ë Y]
 have U:Q (bs.getD i false) s:=S;rw[e] at U;exact ĺ U
def range_all (bs:List Bool):(Ø bs.length).all (λi=>bs.getD i false)=bs.all id:=by
 rw[Ĭ,Ĕ,Ĕ];constructor
 ·intro h b Z
  obtain⟨i,hi,e⟩:=aaQ Z;have:=h i (ñ.mpr hi);simpa [δ,Ë hi,e] using this
 ·intro h i hi
  have hi:=ñ.mp hi;have:=h _ (ŵ hi);simpa [δ,Ë hi] using this
def range_any (bs:List Bool):(Ø bs.length).any (λi=>bs.getD i false)=bs.any id:=by
 rw[Ĭ,ŏ,ŏ];constructor
 ·rintro ⟨i,hi,h⟩
  have hi:=ñ.mp hi;exact⟨bs[i],ŵ hi,by simpa [δ,Ë hi] using h⟩
 ·rintro ⟨b,Z,h⟩
  obtain⟨i,hi,e⟩:=aaQ Z;exact⟨i,ñ.mpr hi,by simpa [δ,Ë hi,e] using h⟩
def RV (hc:X.calm=true):cB X (.builtin "all") (λxs H Q=>∃(p:â) (bs:List Bool),xs=[.ref p]/\bq X.K H p (bs.map V.bl)/\Q (.bl (bs.all id)) H):=by
 intro O s σ H xs N Q I r h;obtain⟨p,bs,rfl,W,q⟩:=h;obtain⟨u,rfl,U⟩:=vals1 r;cases U;obtain⟨its,Y,Z,M⟩:=I.list W;have T:its.toArray.size=bs.length:=by
  have e:=Y.length;rw[Ã] at e;simpa using e.symm
 have S:X.A.in1.handled=none:=I.ok.hd hc;refine call_all_walk (Ž Z.isList ?_);have old:p≠s.heap.objs.size:=ë (by obtain⟨o,n,e,_⟩:=Z;exact Ò e);refine⟨s.heap.objs.size,[s.heap.objs.size,p],[s.heap.objs.size],its.toArray.size,_,_,λi=>bs.getD i false,rfl,Walks.list S s.heap.objs.size p old its.toArray,⟨⟨_,Ð _ rfl,rfl,rfl⟩,Z.isList.at λo e=>Á _ e⟩,IW Y,λL R P=>?_⟩;rw[T,range_all];exact⟨.bl _,H,I.kept (t':=R) λb o e=>P b o (by simpa using ë (Ò e)) (Á _ e),rfl,q⟩
def RW (hc:X.calm=true):cB X (.builtin "any") (λxs H Q=>∃(p:â) (bs:List Bool),xs=[.ref p]/\bq X.K H p (bs.map V.bl)/\Q (.bl (bs.any id)) H):=by
 intro O s σ H xs N Q I r h;obtain⟨p,bs,rfl,W,q⟩:=h;obtain⟨u,rfl,U⟩:=vals1 r;cases U;obtain⟨its,Y,Z,M⟩:=I.list W;have T:its.toArray.size=bs.length:=by
  have e:=Y.length;rw[Ã] at e;simpa using e.symm
 have S:X.A.in1.handled=none:=I.ok.hd hc;refine call_any_walk (Ž Z.isList ?_);have old:p≠s.heap.objs.size:=ë (by obtain⟨o,n,e,_⟩:=Z;exact Ò e);refine⟨s.heap.objs.size,[s.heap.objs.size,p],[s.heap.objs.size],its.toArray.size,_,_,λi=>bs.getD i false,rfl,Walks.list S s.heap.objs.size p old its.toArray,⟨⟨_,Ð _ rfl,rfl,rfl⟩,Z.isList.at λo e=>Á _ e⟩,IW Y,λL R P=>?_⟩;rw[T,range_any];exact⟨.bl _,H,I.kept (t':=R) λb o e=>P b o (by simpa using ë (Ò e)) (Á _ e),rfl,q⟩
end
def ug:Key->aaE
 | .inl i=>.int i
 | .inr x=>.str x
mutual
def DV (K:ļ) (Z:â->Prop) (H:Hp):aaE->V->Prop
 | .none,v=>v=.au
 | .bool b,v=>v=.bl b
 | .int i,v=>v=.int i
 | .str x,v=>v=.str x
 | .tuple X,v=>∃a Y,v=.ref a/\bo K H a Y/\ar K Z H X Y
 | .list X,v=>∃a Y,v=.ref a/\¬ Z a/\H a=some (.lst Y)/\ar K Z H X Y
 | .dict U,v=>∃a W,v=.ref a/\¬ Z a/\H a=some (.dK W)/\∃l:List (Key×Int),W=l.map (λp=>(p.1,V.int p.2))/\U=l.map λp=>(ug p.1,PyData.int p.2)
def ar (K:ļ) (Z:â->Prop) (H:Hp):List aaE->List V->Prop
 | [],Y=>Y=[]
 |d::X,Y=>∃v r,Y=v::r/\DV K Z H d v/\ar K Z H X r
end
structure MJ (K:ļ) (Z:â->Prop) (H H':Hp):Prop where
 tup:∀b xs,bo K H b xs->bo K H' b xs
 lst:∀b xs,¬ Z b->H b=some (.lst xs)->H' b=some (.lst xs)
 bJ:∀b es,¬ Z b->H b=some (.dK es)->H' b=some (.dK es)
mutual
theorem DV.gb {K:ļ} {Z:â->Prop} {H H':Hp} (S:MJ K Z H H'):∀{d:aaE} {v:V},DV K Z H d v->DV K Z H' d v
 | .none,_,h=>h
 | .bool _,_,h=>h
 | .int _,_,h=>h
 | .str _,_,h=>h
 | .tuple T,v,h=>by
  simp only[DV] at h |-;obtain⟨a,Y,e,X,r⟩:=h;exact⟨a,Y,e,S.tup a Y X,ar.gb S r⟩
 | .list T,v,h=>by
  simp only[DV] at h |-;obtain⟨a,Y,e,W,X,r⟩:=h;exact⟨a,Y,e,W,S.lst a Y W X,ar.gb S r⟩
 | .dict R,v,h=>by
  simp only[DV] at h |-;obtain⟨a,U,e,W,X,r⟩:=h;exact⟨a,U,e,W,S.bJ a U W X,r⟩
theorem ar.gb {K:ļ} {Z:â->Prop} {H H':Hp} (S:MJ K Z H H'):∀{ds:List aaE} {vs:List V},ar K Z H ds vs->ar K Z H' ds vs
 | [],_,h=>h
 |d::ds,vs,h=>by
  simp only[ar] at h |-;obtain⟨v,r,e,Y,X⟩:=h;exact⟨v,r,e,DV.gb S Y,ar.gb S X⟩
end
mutual
theorem DV.more {K:ļ} {Z:â->Prop} {H:Hp} {p:â} (hp:H p=none):∀{d:aaE} {v:V},DV K Z H d v->DV K (λa=>Z a\/a=p) H d v
 | .none,_,h=>h
 | .bool _,_,h=>h
 | .int _,_,h=>h
 | .str _,_,h=>h
 | .tuple U,v,h=>by
  simp only[DV] at h |-;obtain⟨a,X,e,Y,r⟩:=h;exact⟨a,X,e,Y,ar.more hp r⟩
 | .list U,v,h=>by
  simp only[DV] at h |-;obtain⟨a,X,e,W,Y,r⟩:=h;exact⟨a,X,e,(λz=>z.elim W λe=>by subst e;rw[hp] at Y;cases Y),Y,ar.more hp r⟩
 | .dict S,v,h=>by
  simp only[DV] at h |-;obtain⟨a,T,e,W,Y,r⟩:=h;exact⟨a,T,e,(λz=>z.elim W λe=>by subst e;rw[hp] at Y;cases Y),Y,r⟩
theorem ar.more {K:ļ} {Z:â->Prop} {H:Hp} {p:â} (hp:H p=none):∀{ds:List aaE} {vs:List V},ar K Z H ds vs->ar K (λa=>Z a\/a=p) H ds vs
 | [],_,h=>h
 |d::ds,vs,h=>by
  simp only[ar] at h |-;obtain⟨v,r,e,Y,X⟩:=h;exact⟨v,r,e,DV.more hp Y,ar.more hp X⟩
end
mutual
theorem DV.less {K:ļ} {Z Z':â->Prop} {H:Hp} (kN:∀a,Z' a->Z a):∀{d:aaE} {v:V},DV K Z H d v->DV K Z' H d v
 | .none,_,h=>h
 | .bool _,_,h=>h
 | .int _,_,h=>h
 | .str _,_,h=>h
 | .tuple U,v,h=>by
  simp only[DV] at h |-;obtain⟨a,X,e,Y,r⟩:=h;exact⟨a,X,e,Y,ar.less kN r⟩
 | .list U,v,h=>by
  simp only[DV] at h |-;obtain⟨a,X,e,W,Y,r⟩:=h;exact⟨a,X,e,λz=>W (kN _ z),Y,ar.less kN r⟩
 | .dict S,v,h=>by
  simp only[DV] at h |-;obtain⟨a,T,e,W,Y,r⟩:=h;exact⟨a,T,e,λz=>W (kN _ z),Y,r⟩
theorem ar.less {K:ļ} {Z Z':â->Prop} {H:Hp} (kN:∀a,Z' a->Z a):∀{ds:List aaE} {vs:List V},ar K Z H ds vs->ar K Z' H ds vs
 | [],_,h=>h
 |d::ds,vs,h=>by
  simp only[ar] at h |-;obtain⟨v,r,e,Y,X⟩:=h;exact⟨v,r,e,DV.less kN Y,ar.less kN X⟩
end
noncomputable def ZD:aaE->Kn
 | .none=>.au
 | .bool _=>.bl
 | .int _=>.int
 | .str _=>.str
 | .tuple _=>.tup
 | .list _=>.lst
 | .dict _=>.bJ
section
variable {X:Cx} {π:List (â×Obj)} {σ:St} {H:Hp} {s:Ç} {Z:â->Prop}
theorem yv:∀{l:List (Key×Int)} {vs:List (Key×Ì)} {es:List acd},KV (l.map λp=>(p.1,V.int p.2)) vs->Pairs (yX P w) es vs ->
  ReadsAll h (es.map (·.key)) ((l.map λp=>(ug p.1,PyData.int p.2)).map (·.1)) []/\ReadsAll h (es.map (·.val)) ((l.map λp=>(ug p.1,PyData.int p.2)).map (·.2)) []
 | [],_,_,.nil,.nil=>⟨.nil,.nil⟩
 |(k,i)::l,_,_,.cons (b:=q) r t,.cons (e:=e) U T S=>by
  obtain⟨a1,a2⟩:=yv (h:=h) t S;obtain⟨Z,X,Y⟩:=r;have Z:k=q.1:=Z;have Y:q.2=aca i X:=Y;refine⟨?_,?_⟩
  ·have W:DR q.1 e.key=true:=U
   rw[<- Z] at W;have:Reads h e.key (ug k) []:=by
    rcases mG W with ⟨j,u,e1,e2⟩ | ⟨x,u,e1,e2⟩
    ·rw[e1,e2];exact .int j u
    ·rw[e1,e2];exact .str x u
   exact ReadsAll.cons (as:=[]) (bs:=[]) this a1
  ·have:Reads h e.val (.int i) []:=by rw[T,Y];exact .int i X
   exact ReadsAll.cons (as:=[]) (bs:=[]) this a2
mutual
theorem DV.reads (I:Inv X π σ H s):∀{d:aaE} {v:V} {u:Ì},DV X.K Z H d v->RelV v u->∃as,Reads s.heap u d as
 | .none,v,u,h,r=>by
  have e:v=.au:=h;subst e;cases r;exact⟨[],.none⟩
 | .bool b,v,u,h,r=>by
  have e:v=.bl b:=h;subst e;cases r;exact⟨[],.bool b⟩
 | .int i,v,u,h,r=>by
  have e:v=.int i:=h;subst e;obtain⟨t,rfl⟩:=r;exact⟨[],.int i t⟩
 | .str x,v,u,h,r=>by
  have e:v=.str x:=h;subst e;obtain⟨t,rfl⟩:=r;exact⟨[],.str x t⟩
 | .tuple R,v,u,h,r=>by
  simp only[DV] at h;obtain⟨a,Q,e,Y,W⟩:=h;subst e;cases r;obtain⟨its,U,⟨o,e,c,n,T⟩,_⟩:=I.tuple Y;obtain⟨as,S⟩:=ar.reads I W U;exact⟨as,.tuple e c T (by simpa using S)⟩
 | .list R,v,u,h,r=>by
  simp only[DV] at h;obtain⟨a,Q,e,_,Y,W⟩:=h;subst e;cases r;obtain⟨its,U,⟨o,n,e,c,_,T⟩,_⟩:=I.list (bq.of Y);obtain⟨as,S⟩:=ar.reads I W U;exact⟨a::as,.list e c T (by simpa using S)⟩
 | .dict L,v,u,h,r=>by
  simp only[DV] at h;obtain⟨a,J,e,_,Y,l,e1,e2⟩:=h;subst e e1 e2;cases r;obtain⟨_,_,G,P,o,F,E,g1,g2,g3,_,O,_⟩:=(show dX X.prog X.w H s.heap a (.dK _) from I.aH a _ Y);obtain⟨N,M⟩:=yv (h:=s.heap) P O;exact⟨a::[]++[],.dict g1 g2.1 g3 N M⟩
theorem ar.reads (I:Inv X π σ H s):∀{ds:List aaE} {vs:List V} {us:List Ì},ar X.K Z H ds vs->Vals vs us->∃as,ReadsAll s.heap us ds as
 | [],vs,us,h,r=>by
  have e:vs=[]:=h;subst e;cases r;exact⟨[],.nil⟩
 |d::ds,vs,us,h,r=>by
  obtain⟨v,S,e,Y,W⟩:=h;subst e
  cases r with
  |cons U T =>
   obtain⟨as,a1⟩:=DV.reads I Y U;obtain⟨bs,a2⟩:=ar.reads I W T;exact⟨as++bs,.cons a1 a2⟩
end
def Ih (hr:bZ k X.A):cB X (.builtin "repr") (λxs H Q=>∃(x:V) (d:aaE) (Z:â->Prop),xs=[x]/\DV X.K Z H d x/\d.showable=true/\(d.hasDict=false\/ZD d=.bJ)/\d.depth<=100/\d.shown.length<=Õ/\Q (.str d.shown) H):=by
 intro M s σ H xs us Q I r h;obtain⟨x,d,Z,rfl,W,hs,R,xt,U,q⟩:=h;obtain⟨u,rfl,O⟩:=vals1 r;have N:X.A.units+(d.depth+1)<abr:=by have:=hr.un;omega
 obtain⟨as,Y⟩:=W.reads I O;have go:∀a,u=.ref a->(d.hasDict=true->Ų∉as)->Ü (í X.prog X.w) X.A (call (.builtin "repr") [u]) (EP X M σ Q) X.xe s:=λa e L=>by
  subst e;exact repr_of_reads' Y hs L hr.gd N (λ_ _ e=>e) (λJ t T S=>⟨.str d.shown,H,I.kept (t':=T) S,⟨t,rfl⟩,q⟩) U
 cases d with
 |none =>
  cases Y;exact P.repr_of_none ⟨.str _,H,I.tok _,⟨_,rfl⟩,q⟩
 |bool b =>
  cases Y;exact P.repr_of_bool ⟨.str _,H,I.tok _,⟨_,rfl⟩,q⟩
 |int i =>
  cases Y;exact P.repr_of_int (by simpa [PyData.showable] using hs) ⟨.str _,H,I.tok _,⟨_,rfl⟩,q⟩
 |str y =>
  cases Y;exact P.repr_of_str ⟨.str _,H,I.tok _,⟨_,rfl⟩,q⟩ U
 |list G =>
  cases Y with
  |list F E D C =>
   refine go _ rfl λz=>?_
   rcases R with e|e
   ·rw[e] at z;cases z
   ·cases e
 |tuple G =>
  cases Y with
  |tuple F E D C =>
   refine go _ rfl λz=>?_
   rcases R with e|e
   ·rw[e] at z;cases z
   ·cases e
 |dict ak =>
  simp only[DV] at W;obtain⟨a,es,e,_,B,l,e1,e2⟩:=W;subst e e1 e2;cases O;obtain⟨_,v,vs,n,o,ip,ep,g1,g2,g3,_,m,_⟩:=(show dX X.prog X.w H s.heap a (.dK _) from I.aH a _ B);obtain⟨j,g⟩:=yv (h:=s.heap) n m;have f:Reads s.heap (.ref a) (.dict (l.map λp=>(ug p.1,PyData.int p.2))) (a::[]++[]):=.dict g1 g2.1 g3 j g;refine repr_of_reads' f hs (λ_ c=>?_) hr.gd N (λ_ _ e=>e) (λJ t T S=>⟨.str _,H,I.kept (t':=T) S,⟨t,rfl⟩,q⟩) U;have e:Ų=a:=by simpa using c
  subst e;simp at v
def MK (K:ļ) (neg:Bool):R2:=λx y H Q=>∃(d e:aaE) (Z:â->Prop),DV K Z H d x/\DV K Z H e y/\d.canLay0=true/\e.canLay0=true/\min d.depth e.depth<=100/\Q (.bl (if neg then !PyData.eqv d e else Ļ d e)) H
def Wf (hr:bZ k X.A):aZ X (Č .Eq) (MK X.K false):=by
 intro O s σ H x y v u Q I Y W h;obtain⟨d,e,Z,V,U,T,S,N,q⟩:=h;obtain⟨as,R⟩:=V.reads I Y;obtain⟨bs,P⟩:=U.reads I W;exact SeqAt.eqOverData _ _ _ _ _ _ _ _ _ _ _ _ R P T S (by have:=hr.un;omega) ⟨.bl _,H,I,rfl,q⟩
def Wg (hr:bZ k X.A):aZ X (Č .NotEq) (MK X.K true):=by
 intro O s σ H x y v u Q I Y W h;obtain⟨d,e,Z,V,U,T,S,N,q⟩:=h;obtain⟨as,R⟩:=V.reads I Y;obtain⟨bs,P⟩:=U.reads I W;exact SeqAt.neOverData _ _ _ _ _ _ _ _ _ _ _ _ R P T S (by have:=hr.un;omega) ⟨.bl _,H,I,rfl,q⟩
end
end L2
namespace HT
open PySem PySem.Spec PyProof.Rows
section
variable {prog:ö} {w:Ć} {A:Đ} {E:Ì->Ç->Prop} {s:Ç}
def Ii (ht:IsTup s.heap t items) (h:Q true s):Ü (í prog w) A (aaz (.ref t)) Q E s:=by
 unfold aaz;exact À (aaS ht.typeIs (Â h))
def N8 {lo hi:Option Int} {Q:Ì->Ç->Prop} (ht:IsTup s.heap t items) (hs:s.heap.IsSliceOf sl vl vu .none) (pl:IsPart vl lo) (pu:IsPart vu hi)
 (hw:aV items.size 0 lo=0/\aV items.size items.size hi=items.size) (h:Q (.ref t) s):Ü (í prog w) A (getItem (.ref t) (.ref sl)) Q E s:=by
 obtain⟨os,Z,Y,U⟩:=id hs;have X:s.TypeIs (.ref sl) "slice":=⟨os,Z,Y⟩;unfold getItem
 try with_reducible refine Ė ?_
 first|refine À (Â ?_)|skip
 refine À (wpAny_sequenceKey ht.typeIs (by decide) ?_);refine À (ă (name:=ð "__getitem__") ht.typeIs ć
  (ÿ ć ht.typeIs entry_tuple_getitem ?_ (args_tuple_getitem _ _)))
 show Ü _ _ (Œ (.ref t) >>= _) _ _ s;refine À (tupleItemsOf_ ht ?_);refine À (aaS X ?_);rw[ß (by decide)];refine À (Hf hs pl pu ?_);obtain⟨W,V⟩:=hw
 show Ü _ _ (if (((aV items.size 0 lo:Nat):Int)==0&&(1:Int)==1&&(aV items.size items.size hi-aV items.size 0 lo)==items.size)=true then _ else _) _ _ s
 rw[W,V,ß (by simp)]
 first
  |exact À (Ii ht (by simp only[ô];exact À (Ŕ (Â ⟨_,rfl,Â h⟩))))
  |exact À (Ii ht (by simp only[ô];exact À (Ŕ (À (Â (Â ⟨_,rfl,Â h⟩))))))
def OV (n:Nat):ń none none (-1) (n:Int)=((n:Int)-1,-1):=by
 unfold ń;simp
def OW (n:Nat):Ī ((n:Int)-1) (-1) (-1)=n:=by
 unfold Ī;have Z:¬ ((-1:Int) > 0):=by omega
 simp only[Z,ê];split
 ·simp
 ·simp;omega
theorem K0 {α β:Type} {f:α->Option β} {g:α->β}:∀{l:List α},(∀x∈l,f x=some (g x))->l.filterMap f=l.map g
 | [],_=>rfl
 |x::r,h=>by
  rw[aaO,h x Î,Ö];exact Ŀ _ (K0 λy Z=>h y (Ï _ Z))
def Qz (xs:Array Ì):((Ø xs.size).filterMap λ(m:Nat)=>xs[(((xs.size:Int)-1)+(m:Int)*(-1)).toNat]?).toArray=xs.toList.reverse.toArray:=by
 congr 1;apply Ŗ;intro i;have e:((Ø xs.size).filterMap λ(m:Nat)=>xs[(((xs.size:Int)-1)+(m:Int)*(-1)).toNat]?)=(Ø xs.size).map λ(m:Nat)=>xs.getD (xs.size-1-m) .none:=by
  apply K0;intro m Z;have Z:=ñ.mp Z;have:(((xs.size:Int)-1)+(m:Int)*(-1)).toNat=xs.size-1-m:=by omega
  rw[this,Array.getElem?_eq_getElem (by omega)];simp[abd,show xs.size-1-m<xs.size by omega]
 rw[e,á];by_cases hi:i<xs.size
 ·rw[č hi,List.getElem?_reverse (by simpa using hi)]
  simp[abd,show xs.size-1-i<xs.size by omega]
 ·rw[ú (by simpa using hi),ú (by simpa using hi)]
  rfl
def N4 (ht:IsTup s.heap t items) (hs:s.heap.IsSliceOf sl .none .none (.int (-1) tk))
 (h:Q (.ref s.heap.objs.size) { s with heap:=s.heap.push { cls:=.type "tuple",data:=.seq items.toList.reverse.toArray } })
 (hsz:items.size<=Õ):Ü (í prog w) A (getItem (.ref t) (.ref sl)) Q E s:=by
 have Y:sizeOk (.seq items.toList.reverse.toArray):=by
  show items.toList.reverse.toArray.size<=Õ;rw[Ô,List.length_reverse,ý];exact hsz
 obtain⟨os,Z,W,X⟩:=id hs;have V:s.TypeIs (.ref sl) "slice":=⟨os,Z,W⟩;unfold getItem
 try with_reducible refine Ė ?_
 first|refine À (Â ?_)|skip
 refine À (wpAny_sequenceKey ht.typeIs (by decide) ?_);refine À (ă (name:=ð "__getitem__") ht.typeIs ć
  (ÿ ć ht.typeIs entry_tuple_getitem ?_ (args_tuple_getitem _ _)))
 show Ü _ _ (Œ (.ref t) >>= _) _ _ s;refine À (tupleItemsOf_ ht ?_);refine À (aaS V ?_);rw[ß (by decide)];refine À ?_;unfold aay ab6;refine À (À (ĭ Z X (x:=.none) rfl (À (ĭ Z X (x:=.none) rfl (À (ĭ Z X (x:=.int (-1) tk) rfl (Â ?_)))))));refine À (slicePart_int ?_)
 show Ü _ _ (if ((-1:Int)==0)=true then _ else _) _ _ s
 rw[æ (by decide)];refine À (slicePart_none (À (slicePart_none (À (Â ?_)))))
 show Ü _ _ (match ń none none (-1) (items.size:Int) with | (lo,hi)=>pure (lo,(-1:Int),Ī lo hi (-1))) _ _ s
 rw[OV];show Ü _ _ (pure (((items.size:Int)-1),(-1:Int),Ī ((items.size:Int)-1) (-1) (-1))) _ _ s;rw[OW];refine Â ?_
 show Ü _ _ (if (((items.size:Int)-1)==0&&(-1:Int)==1&&items.size==items.size)=true then _ else _) _ _ s
 rw[æ (by simp),Qz]
 first
  |exact À (m:=Į _) (î (Â ⟨_,rfl,Â h⟩) Y)
  |exact À (m:=Į _) (î (À (Â (Â ⟨_,rfl,Â h⟩))) Y)
  |exact À (À (m:=Į _) (î (Â (Â ⟨_,rfl,Â h⟩)) Y))
end
end HT
namespace L2
open PySem PySem.Spec PyProof.Rows
def lH.ZF {K:ļ} {H H':Hp} {a:â} {xs:List V} (e:lH H H') (h:bo K H a xs):bo K H' a xs:=by
 rcases h with (h | ⟨o,h⟩)|h
 ·exact .inl (.inl (e _ _ h))
 ·exact .inl (.inr ⟨o,e _ _ h⟩)
 ·exact .inr h
theorem lH.upd (hn:H p=none):lH H (upd H p o):=λb u e=>by rw[bK (fL e hn)];exact e
def n9 (K:ļ) (H:Hp) (ys:List V) (Q:VK):Prop:=∀a Z,lH H Z->bo K Z a ys->Q (.ref a) Z
def n9.here {K:ļ} {H:Hp} {ys:List V} {Q:VK} {a:â} (h:n9 K H ys Q) (hs:bo K H a ys):Q (.ref a) H:=h a H (lH.refl H) hs
def n9.new {K:ļ} {H:Hp} {ys:List V} {Q:VK} {p:â} (h:n9 K H ys Q) (hn:H p=none):Q (.ref p) (L2.upd H p (.tup ys)):=h p _ (lH.upd hn) (bo.of eT)
section
variable {X:Cx} {e:Ņ} {te:TE} {pos p2 p3 p4:Pos}
def RX {lo hi:Option Int} (h:HT.aV xs.length 0 lo=0/\HT.aV xs.length xs.length hi=xs.length):lG xs lo hi=xs:=by
 unfold lG;rw[h.1,h.2];simp
def YU (K:ļ):V->Option Int->Option Int->Hp->VK->Prop:=λx lo hi H Q=>∃a Z,x=.ref a/\bo K H a Z/\n9 K H (lG Z lo hi) Q
def Uk:xn X (YU X.K):=by
 intro S s σ H x v R P lo hi O Q I V hs U pu h;obtain⟨a,Z,rfl,W,q⟩:=h;by_cases hw:HT.aV Z.length 0 lo=0/\HT.aV Z.length Z.length hi=Z.length
 ·cases V
  obtain⟨its,r,T,M⟩:=I.tuple W;have Y:its.toArray.size=Z.length:=by rw[Ô];exact r.length.symm
  rw[RX hw] at q;exact⟨"tuple",_,ć.lookup,T.typeIs,HT.N8 T hs U pu (by rw[Y];exact hw) ⟨.ref a,H,I,rfl,q.here W⟩⟩
 ·exact Dg S s σ H _ v R P lo hi O Q I V hs U pu ⟨a,Z,rfl,W,hw,λp N=>q.new N⟩
def YV (K:ļ) (te:TE):TE:=fun σ H Q=>te σ H λx Z=>∃a Y,x=.ref a/\bo K Z a Y/\n9 K Z Y.reverse Q
def Wh (he:PE X e te):PE X (.Subscript e (.Slice none none (some (.UnaryOp .USub (.Constant (.int 1) 0 p4) p3)) p2) pos) (YV X.K te):=by
 intro W s σ H Q I h;refine Subscript_ (aG (he W s σ H _ I h) λv L ⟨x,P,J,G,F⟩=>?_);obtain⟨a,O,rfl,N,q⟩:=F;cases G;refine wpAny_Slice ?_;rw[evalPart_none];refine Â (Â ?_);have step:PE X (.UnaryOp .USub (.Constant (.int 1) 0 p4) p3) (Nf (rU λi=>.int (-i)) (tC (.int 1))):=LN KR KO;rw[evalPart_some];refine aG (step W L σ P (λy V=>y=.int (-1)/\V=P) J ⟨1,rfl,rfl,rfl⟩) λu Y ⟨y,V,E,D,e1,e2⟩=>?_;subst e1 e2;obtain⟨U,rfl⟩:=D
 have T:Inv X W σ V { Y with heap:=Y.heap.push { cls:=.type "slice",data:=.fields #[.none,.none,.int (-1) U] } }:=E.kept (t':=Y.toks) λb C q=>Á _ q
 obtain⟨its,r,S,R⟩:=T.tuple N;have Z:its.toArray.size=O.length:=by rw[Ô];exact r.length.symm
 have M:Heap.IsSliceOf (Y.heap.push { cls:=.type "slice",data:=.fields #[.none,.none,.int (-1) U] }) Y.heap.objs.size .none .none (.int (-1) U):=Heap.IsSliceOf.new ..;refine tail_any (ops:=[.ref a,.ref Y.heap.objs.size]) S.typeIs ć.lookup (HT.N4 S M ?_ (by rw[Z];exact R)) (by with_unfolding_all rfl);refine⟨.ref _,_,T.laid (t':=Y.toks) (o:=.tup O.reverse) (λb C q=>Á _ q) (acr _) ?_,rfl,q.new (T.aH.fresh (acr _))⟩;refine⟨by rw[List.length_reverse];exact R,its.reverse,?_,IsTup.new _ _⟩;clear q S Z N M R
 induction r with
 |nil=>exact .nil
 |cons h t ih =>
  rw[abe,abe];exact Vals.append ih (.cons h .nil)
def XC (K:ļ):R2:=λx y H Q=>∃a b Z Y,x=.ref a/\y=.ref b/\bo K H a Z/\bo K H b Y/\Z.length+Y.length<=Õ/\n9 K H (Z++Y) Q
def Ul:aZ X (ř .Add) (XC X.K):=by
 intro M s σ H x y v u Q I W V h;obtain⟨a,b,U,L,rfl,rfl,Z,Y,J,q⟩:=h;by_cases T:U=[]
 ·subst T
  cases W;cases V;obtain⟨its,G,F,_⟩:=I.tuple Z;obtain⟨E,t,p2,_⟩:=I.tuple Y;cases G;obtain⟨⟨cls,D,data,C⟩,S,R,n,P⟩:=id F;obtain⟨⟨r,B,data2,A⟩,O,N,z,hd2⟩:=id p2;simp only at R P N hd2;subst R P N hd2;exact concat_meets ⟨_,S,rfl⟩ ⟨_,O,rfl⟩ noFill_tuple_add seq_tuple_add aa9 aaY (aaR _ _)
   (tuple_addW0 a b _ E.toArray n z D B C A (by simp)) ⟨S,O,⟨.ref b,H,I,rfl,q.here Y⟩⟩
 ·refine Ug M s σ H _ _ v u Q I W V ⟨a,b,U,L,rfl,rfl,Z,Y,T,J,λe=>?_,λ_ p w=>q.new w⟩
  subst e;rw[Ķ] at q;exact q.here Z
end
end L2
namespace HZ
open PySem PySem.Spec PyProof.Rows
structure l0 (P:ö) (w:Ć) (A:Đ) (i l:â) (tn:Nat->Ţ->Prop) (val:Nat->Option Ì):Prop where
 keep:∀k h h',tn k h->(∀o,h.get? i=some o->h'.get? i=some o)->(∀o,h.get? l=some o->h'.get? l=some o)->tn k h'
 item:∀k (s:Ç) (Q:Ì->Ç->Prop) (E:Ì->Ç->Prop) x,tn k s.heap->val k=some x->(∀h',tn (k+1) h'->Ľ i s.heap h'->Q x { s with heap:=h' })->Ü (í P w) A (ė (.ref i)) Q E s
 stop:∀k (s:Ç) (Q:Ì->Ç->Prop) (E:Ì->Ç->Prop),tn k s.heap->val k=none->(∀h' e,abf i s.heap h'->(∃o,h'.get? e=some o/\o.cls=.type "StopIteration")->E (.ref e) { s with heap:=h' })->Ü (í P w) A (ė (.ref i)) Q E s
 obj:∀k h,tn k h->∃o,h.get? i=some o/\∀v,o.data≠.cell v
section
variable {P:ö} {w:Ć} {A:Đ} {E:Ì->Ç->Prop} {s:Ç}
def Pz (g:s.heap.IsTupleIter it t k) (gt:s.heap.IsTuple t its) (gx:its[k]?=some x)
 (q:∀h',h'.IsTupleIter it t (k+1)->Ľ it s.heap h'->Q x { s with heap:=h' }):Ü (í P w) A (ė (.ref it)) Q E s:=by
 obtain⟨o,go,Y,Z⟩:=id g;obtain⟨ol,X,_,nl,W⟩:=gt;unfold ė;refine À (ă (name:=ð "__next__") g.typeIs ű
  (ÿ ű g.typeIs F.entry_tuple_iterator_next ?_ (F.args_tuple_iterator_next_1 _)))
 show Ü _ _ (field (.ref it) 0 >>= _) _ _ _;refine À (ĭ go Z (x:=.ref t) rfl ?_)
 show Ü _ _ (if (υ t==Value.none)=true then _ else _) _ _ _
 rw[æ (λz:(υ t==Value.none)=true=>Í z)];show Ü _ _ (field (.ref it) 1 >>= _) _ _ _;refine À (ĭ go Z (x:=.int k 0) rfl ?_);show Ü _ _ (abQ (.ref t) >>= _) _ _ _;refine À (Ğ X W ?_);simp only[ò,gx];refine À (ũ go Z (by simp) (Â ⟨x,rfl,Â (q _ ?_ (ģ ..))⟩));exact⟨_,Ĉ _ go (Ň (Ē Z _)),(aav ..).trans Y,by rw[Ē Z];simp[Ř]⟩
def N9 (gh:A.handled=none) (g:s.heap.IsTupleIter it t k) (gt:s.heap.IsTuple t its) (gx:its[k]?=none)
 (q:∀h' e,abf it s.heap h'->(∃o,h'.get? e=some o/\o.cls=.type "StopIteration")->E (.ref e) { s with heap:=h' }):Ü (í P w) A (ė (.ref it)) Q E s:=by
 obtain⟨o,go,W,Z⟩:=id g;obtain⟨ol,Y,_,nl,X⟩:=gt;unfold ė;refine À (ă (name:=ð "__next__") g.typeIs ű
  (ÿ ű g.typeIs F.entry_tuple_iterator_next ?_ (F.args_tuple_iterator_next_1 _)))
 show Ü _ _ (field (.ref it) 0 >>= _) _ _ _;refine À (ĭ go Z (x:=.ref t) rfl ?_)
 show Ü _ _ (if (υ t==Value.none)=true then _ else _) _ _ _
 rw[æ (λz:(υ t==Value.none)=true=>Í z)];show Ü _ _ (field (.ref it) 1 >>= _) _ _ _;refine À (ĭ go Z (x:=.int k 0) rfl ?_);show Ü _ _ (abQ (.ref t) >>= _) _ _ _;refine À (Ğ Y X ?_);simp only[ò,gx];refine À (Ŕ (À (ũ go Z (by simp) ?_)));show Ü _ _ (newExc (.type "StopIteration") [] >>= _) _ _ (_:Ç);refine À ?_;simp only[newExc,newTuple];refine À (î ?_ (by size_fits))
 refine À (m:=aaF _ _) (ŭ (a:=Value.none) (by first|rfl | (unfold aaF;rfl)) ?_)
 refine î ?_ (by size_fits);simp only[raiseNew];refine À (wpAny_handled ?_)
 first|rw[gh]|rw[show A.in1.handled=none from gh]
 refine À (Â (wpAny_throw ?_));exact q _ _ (((ģ ..).extBut.push _).push _) ⟨_,Ð _ rfl,rfl⟩
def Um (gh:A.handled=none) (i l:â) (its:Array Ì):l0 P w A i l (λk h=>h.IsTupleIter i l k/\h.IsTuple l its) (λk=>its[k]?) where
 keep:=λk h Y Z U T=>⟨Z.1.at U,by obtain⟨o,e,r⟩:=Z.2;exact⟨o,T o e,r⟩⟩
 item:=λk s Q E x Z e q=>Pz Z.1 Z.2 e λY g X=>by
  by_cases W:l=i
  ·exfalso
   subst W;obtain⟨o,e1,S,_⟩:=Z.1;obtain⟨R,e2,V,_⟩:=Z.2;rw[e1] at e2;cases e2;rw[S] at V;simp at V
  ·obtain⟨o,e2,r⟩:=Z.2
   exact q Y ⟨g,o,(X.2 l W).trans e2,r⟩ X
 stop:=λk s Q E Z e q=>N9 gh Z.1 Z.2 e q
 obj:=λk h Z=>by
  obtain⟨o,e,_,d⟩:=Z.1;exact⟨o,e,λv z=>by rw[d] at z;cases z⟩
def Uo (gh:A.handled=none) (i l:â) (its:Array Ì):l0 P w A i l (λk h=>h.IsListIter i l k/\h.IsList l its) (λk=>its[k]?) where
 keep:=λk h Y Z U T=>⟨Z.1.at U,Z.2.at T⟩
 item:=λk s Q E x Z e q=>wpAny_nextOf_list_item Z.1 Z.2 e λY g X=>by
  by_cases W:l=i
  ·exfalso
   subst W;obtain⟨o,e1,S,_⟩:=Z.1;obtain⟨R,e2,V,_⟩:=Z.2;rw[e1] at e2;cases e2;rw[S] at V;simp at V
  ·exact q Y ⟨g,Z.2.at λo e2=>(X.2 l W).trans e2⟩ X
 stop:=λk s Q E Z e q=>wpAny_nextOf_list_end gh Z.1 Z.2 e q
 obj:=λk h Z=>by
  obtain⟨o,e,_,d⟩:=Z.1;exact⟨o,e,λv z=>by rw[d] at z;cases z⟩
structure Apart (z ti to j1 j2 m1 m2:â):Prop where
 a1:ti≠z
 a2:to≠z
 a3:j1≠z
 a4:j2≠z
 a5:ti≠to
 a6:ti≠j1
 a7:ti≠j2
 a8:to≠j1
 a9:to≠j2
 b0:j1≠j2
 b1:m1≠z
 b2:m1≠to
 b3:m1≠j1
 b4:m1≠j2
 b5:m2≠z
 b6:m2≠to
 b7:m2≠j1
 b8:m2≠j2
def RY {t1 t2:Nat->Ţ->Prop} {v1 v2:Nat->Option Ì} {k:Nat} {Q:Ì->Ç->Prop} (D:Apart z ti to j1 j2 m1 m2) (S1:l0 P w A j1 m1 t1 v1) (S2:l0 P w A j2 m2 t2 v2)
 (gz:IsZip s.heap z ti to .none) (gi:aaG s.heap ti (.ref j1) (.ref j2)) (go:aaG s.heap to a b) (h1:t1 k s.heap) (h2:t2 k s.heap) (hx:v1 k=some x) (hy:v2 k=some y)
 (q:∀h',IsZip h' z ti to (Ř s.heap.objs.size)->aaG h' to x y->t1 (k+1) h'->t2 (k+1) h'->aaG h' s.heap.objs.size x y->h'.objs.size=s.heap.objs.size+1 ->
 (∀c o,c≠z->c≠to->c≠j1->c≠j2->s.heap.get? c=some o->h'.get? c=some o)->Q (.ref s.heap.objs.size) { s with heap:=h' }) :
  Ü (í P w) A (ő.«zip.__next__» ⟨[.ref z],[]⟩) (λfin s'=>∃v,fin=.done (.ret v)/\Q v s') E s:=by
 show Ü _ _ (field (.ref z) 2 >>= _) _ _ (_:Ç);refine À (ĭ gz rfl (x:=.bool false) rfl ?_);show Ü _ _ (field (.ref z) 3 >>= _) _ _ (_:Ç);refine À (ĭ gz rfl (x:=.ref ti) rfl ?_);refine À (Ğ gi rfl ?_);show Ü _ _ (ņ (.ref z) >>= _) _ _ (_:Ç);refine À ?_;unfold ņ;refine À (ĭ gz rfl (x:=.none) rfl (Â ?_));simp only[ô];refine À (Ŕ ?_);refine À (ĭ gz rfl (x:=.ref to) rfl ?_);refine À (Ź gz (by simp) λp N Y=>?_)
 replace N:IsZip p z ti to .ellipsis:=N
 refine À ?_;simp only[List.zipIdx_cons,List.zipIdx_nil,List.forIn_cons,List.forIn_nil];refine À (À (wpAny_onRaise ?_));show Ü _ _ (ė (.ref j1) >>= _) _ _ (_:Ç);refine À (S1.item k _ _ _ x (S1.keep k _ _ h1 (λo e=>Y.extBut _ _ D.a3 e) (λo e=>Y.extBut _ _ D.b1 e)) hx λn m V=>Â ?_);have G:aaG n to a b:=V.extBut _ _ D.a8 (Y.extBut _ _ D.a2 go);refine À (Ğ G rfl ?_);refine À (wpAny_updateSeq_pair G λl M X=>?_)
 replace M:aaG l to x b:=M
 refine À (Ż (Â ?_));refine À (À (wpAny_onRaise ?_));show Ü _ _ (ė (.ref j2) >>= _) _ _ (_:Ç);refine À (S2.item k _ _ _ y (S2.keep k _ _ h2 (λo e=>X.extBut _ _ D.a9.symm (V.extBut _ _ D.b0.symm (Y.extBut _ _ D.a4 e))) (λo e=>X.extBut _ _ D.b6 (V.extBut _ _ D.b7 (Y.extBut _ _ D.b5 e)))) hy λj i U=>Â ?_);have F:aaG j to x b:=U.extBut _ _ D.a9 M;refine À (Ğ F rfl ?_);refine À (wpAny_updateSeq_pair F λZ S s5=>?_)
 replace S:aaG Z to x y:=S
 refine À (Ż (Â (Â ?_)));refine À (Ğ S rfl ?_);refine À (wpAny_newTuple ?_);have C:Z.objs.size=s.heap.objs.size:=by rw[s5.1,U.1,X.1,V.1,Y.1]
 have B:IsZip Z z ti to .ellipsis:=s5.extBut _ _ D.a2.symm (U.extBut _ _ D.a4.symm (X.extBut _ _ D.a2.symm (V.extBut _ _ D.a3.symm N)));have h:∀c o,c≠z->c≠to->c≠j1->c≠j2->s.heap.get? c=some o->Z.get? c=some o:=λc o W R L K e=>s5.extBut _ _ R (U.extBut _ _ K (X.extBut _ _ R (V.extBut _ _ L (Y.extBut _ _ W e))));have g:t1 (k+1) Z:=S1.keep _ _ _ m (λo e=>s5.extBut _ _ D.a8.symm (U.extBut _ _ D.b0 (X.extBut _ _ D.a8.symm e))) (λo e=>s5.extBut _ _ D.b2 (U.extBut _ _ D.b4 (X.extBut _ _ D.b2 e)));have f:t2 (k+1) Z:=S2.keep _ _ _ i (λo e=>s5.extBut _ _ D.a9.symm e) (λo e=>s5.extBut _ _ D.b6 e);have u:z<Z.objs.size:=Ò B;show Ü _ _ (aaH (.ref z) (.ref Z.objs.size) >>= _) _ _ (_:Ç);refine À ?_;unfold aaH;have d:IsZip (Z.push { cls:=.type "tuple",data:=.seq #[x,y] }) z ti to .ellipsis:=Á _ B;refine À (Ź d (by simp) λp7 J I=>?_)
 replace J:IsZip p7 z ti to (Ř Z.objs.size):=J
 refine Ź J (by simp) λT O H=>?_
 replace O:IsZip T z ti to (Ř Z.objs.size):=O
 have up:∀c o,c≠z->Z.get? c=some o->T.get? c=some o:=λc o W e=>H.extBut _ _ W (I.extBut _ _ W (Á _ e));have t:aaG T Z.objs.size x y:=H.extBut _ _ (Ŝ u) (I.extBut _ _ (Ŝ u) (Ð _ rfl));have r:T.objs.size=Z.objs.size+1:=by rw[H.1,I.1,đ]
 rw[C] at O t r;refine Â ⟨_,rfl,?_⟩;show Q (.ref Z.objs.size) _;rw[C];exact q T O (up _ _ D.a2 S) (S1.keep _ _ _ g (λo e=>up _ o D.a3 e) (λo e=>up _ o D.b1 e)) (S2.keep _ _ _ f (λo e=>up _ o D.a4 e) (λo e=>up _ o D.b5 e)) t r λc o W R L K e=>up c o W (h c o W R L K e)
def Uq (D:Apart z ti to j1 j2 m1 m2) (S1:l0 P w A j1 m1 t1 v1) (S2:l0 P w A j2 m2 t2 v2)
 (gz:IsZip s.heap z ti to .none) (gi:aaG s.heap ti (.ref j1) (.ref j2)) (go:aaG s.heap to a b) (h1:t1 k s.heap) (h2:t2 k s.heap) (ER:v1 k=none\/v2 k=none)
 (q:∀h' e,(∀c o,c≠z->c≠to->c≠j1->c≠j2->s.heap.get? c=some o->h'.get? c=some o)->(∃o,h'.get? e=some o/\o.cls=.type "StopIteration")->E (.ref e) { s with heap:=h' }) :
  Ü (í P w) A (ő.«zip.__next__» ⟨[.ref z],[]⟩) Q E s:=by
 show Ü _ _ (field (.ref z) 2 >>= _) _ _ (_:Ç);refine À (ĭ gz rfl (x:=.bool false) rfl ?_);show Ü _ _ (field (.ref z) 3 >>= _) _ _ (_:Ç);refine À (ĭ gz rfl (x:=.ref ti) rfl ?_);refine À (Ğ gi rfl ?_);show Ü _ _ (ņ (.ref z) >>= _) _ _ (_:Ç);refine À ?_;unfold ņ;refine À (ĭ gz rfl (x:=.none) rfl (Â ?_));simp only[ô];refine À (Ŕ ?_);refine À (ĭ gz rfl (x:=.ref to) rfl ?_);refine À (Ź gz (by simp) λN V Y=>?_)
 replace V:IsZip N z ti to .ellipsis:=V
 refine À ?_;simp only[List.zipIdx_cons,List.zipIdx_nil,List.forIn_cons,List.forIn_nil];refine À (À (wpAny_onRaise ?_));show Ü _ _ (ė (.ref j1) >>= _) _ _ (_:Ç);have M:t1 k N:=S1.keep k _ _ h1 (λo e=>Y.extBut _ _ D.a3 e) (λo e=>Y.extBut _ _ D.b1 e)
 cases U:v1 k with
 |none =>
  refine À (S1.stop k _ _ _ M U λT e Z S=>?_);obtain⟨R,g1,g2⟩:=S;have L:IsZip T z ti to .ellipsis:=Z _ _ D.a3.symm V;have ne:e≠z:=λu=>by subst u;rw[L] at g1;cases g1;simp at g2
  refine Ź L (by simp) λK _ X=>q K e (λc o W _ O _ u=>X.extBut _ _ W (Z _ _ O (Y.extBut _ _ W u))) ⟨R,X.extBut _ _ ne g1,g2⟩
 |some x =>
  have G:v2 k=none:=by
   rcases ER with h|h
   ·rw[U] at h;cases h
   ·exact h
  refine À (S1.item k _ _ _ x M U λT v Z=>Â ?_);have J:aaG T to a b:=Z.extBut _ _ D.a8 (Y.extBut _ _ D.a2 go);refine À (Ğ J rfl ?_);refine À (wpAny_updateSeq_pair J λK t X=>?_);refine À (Ż (Â ?_));refine À (À (wpAny_onRaise ?_));show Ü _ _ (ė (.ref j2) >>= _) _ _ (_:Ç);refine À (S2.stop k _ _ _ (S2.keep k _ _ h2 (λo e=>X.extBut _ _ D.a9.symm (Z.extBut _ _ D.b0.symm (Y.extBut _ _ D.a4 e))) (λo e=>X.extBut _ _ D.b6 (Z.extBut _ _ D.b7 (Y.extBut _ _ D.b5 e)))) G λF e I S=>?_);obtain⟨R,g1,g2⟩:=S;have H:IsZip F z ti to .ellipsis:=I _ _ D.a4.symm (X.extBut _ _ D.a2.symm (Z.extBut _ _ D.a3.symm V));have ne:e≠z:=λu=>by subst u;rw[H] at g1;cases g1;simp at g2
  refine Ź H (by simp) λC _ s5=>q C e (λc o W B O y u=>s5.extBut _ _ W (I _ _ y (X.extBut _ _ B (Z.extBut _ _ O (Y.extBut _ _ W u))))) ⟨R,s5.extBut _ _ ne g1,g2⟩
def next_item (D:Apart z ti to j1 j2 m1 m2) (S1:l0 P w A.in1 j1 m1 t1 v1) (S2:l0 P w A.in1 j2 m2 t2 v2)
 (gz:IsZip s.heap z ti to .none) (gi:aaG s.heap ti (.ref j1) (.ref j2)) (go:aaG s.heap to a b) (h1:t1 k s.heap) (h2:t2 k s.heap) (hx:v1 k=some x) (hy:v2 k=some y)
 (q:∀h',IsZip h' z ti to (Ř s.heap.objs.size)->aaG h' to x y->t1 (k+1) h'->t2 (k+1) h'->aaG h' s.heap.objs.size x y->h'.objs.size=s.heap.objs.size+1 ->
 (∀c o,c≠z->c≠to->c≠j1->c≠j2->s.heap.get? c=some o->h'.get? c=some o)->Q (some (.ref s.heap.objs.size)) { s with heap:=h' }):Ü (í P w) A (Š (.ref z)) Q E s:=by
 have Z:s.TypeIs (.ref z) "zip":=⟨_,gz,rfl⟩;unfold Š;exact À (ν (ă (name:=ð "__next__") Z abR
  (ÿ abR Z F.entry_zip_next (RY D S1 S2 gz gi go h1 h2 hx hy λh' a1 a2 Y X W V U=>Â (q h' a1 a2 Y X W V U)) (F.args_zip_next_1 _))))
def next_end (D:Apart z ti to j1 j2 m1 m2) (S1:l0 P w A.in1 j1 m1 t1 v1) (S2:l0 P w A.in1 j2 m2 t2 v2)
 (gz:IsZip s.heap z ti to .none) (gi:aaG s.heap ti (.ref j1) (.ref j2)) (go:aaG s.heap to a b) (h1:t1 k s.heap) (h2:t2 k s.heap) (ER:v1 k=none\/v2 k=none)
 (q:∀h',(∀c o,c≠z->c≠to->c≠j1->c≠j2->s.heap.get? c=some o->h'.get? c=some o)->Q none { s with heap:=h' }):Ü (í P w) A (Š (.ref z)) Q E s:=by
 have Z:s.TypeIs (.ref z) "zip":=⟨_,gz,rfl⟩;unfold Š;refine À (ν (ă (name:=ð "__next__") Z abR
  (ÿ abR Z F.entry_zip_next (Uq D S1 S2 gz gi go h1 h2 ER λh' e Y X=>?_) (F.args_zip_next_1 _))))
 obtain⟨o,W,V⟩:=X;exact À (aaL (T:="StopIteration") (b:=true) ⟨o,W,V⟩ isSubtype_stop (Â (q _ Y)))
end
end HZ
namespace L2
open PySem PySem.Spec PyProof.Rows
def Wi {X:Cx} {π:List (â×Obj)} {σ:St} {H:Hp} {s:Ç} {a b:â} {xs:List V} (I:Inv X π σ H s) (h:bo X.K H a xs) (f:cu X π H b):a≠b:=by
 rintro rfl;obtain⟨f0,_,_,Y,_⟩:=f
 rcases h with (h | ⟨o,h⟩) | ⟨o,its,n,W,_⟩
 ·rw[f0] at h;cases h
 ·rw[f0] at h;cases h
 ·have Z:=I.mod.wZ a o W
  rcases Y with z|z
  ·exact I.ok.mW a o Z z
  ·exact absurd (É (Ò Z) (Û I.ok.jB z)) (ì _)
def Wj {X:Cx} {π:List (â×Obj)} {σ:St} {H:Hp} {s:Ç} {a b:â} {xs:List V} (I:Inv X π σ H s) (h:bq X.K H a xs) (f:cu X π H b):a≠b:=by
 rintro rfl;obtain⟨f0,_,_,Y,_⟩:=f
 rcases h with (h | ⟨o,h⟩) | ⟨o,its,n,W,_⟩
 ·rw[f0] at h;cases h
 ·rw[f0] at h;cases h
 ·have Z:=I.mod.wZ a o W
  rcases Y with z|z
  ·exact I.ok.mW a o Z z
  ·exact absurd (É (Ò Z) (Û I.ok.jB z)) (ì _)
def Inv.Ij {X:Cx} {π:List (â×Obj)} {σ:St} {H:Hp} {s:Ç} {h':Ţ} {t':Nat} {ch:List â} (I:Inv X π σ H s) (k:∀b o,b∉ch->s.heap.get? b=some o->h'.get? b=some o) (hf:∀b∈ch,cu X π H b) :
  Inv X π σ H { s with heap:=h',toks:=t' }:=by
 have Y:∀b u,H b=some u->b∉ch:=λb u e z=>by rw[(hf b z).1] at e;cases e
 refine I.step (g':=s.gens) (d':=s.drawn) (ch:=ch) (λb W=>?_) (λb o _ _ Z e _=>k b o Z e) (λb o _ _ Z e _=>⟨o.slots,k b o Z e⟩) (λ_ _ _ _ n=>n) (λb o Z e=>⟨o,k b o Z e⟩) (λ_ _ e=>e) (λ_ _ _ e=>e)
  (λb P e=>⟨#[],by rw[e];simp⟩) (λm V=>?_) (λb u e=>?_) I.bare
 ·obtain⟨_,f1,_,U,f4,T⟩:=hf b W
  exact⟨U,f1,f4,T⟩
 ·obtain⟨o,S,R,Q,r⟩:=V
  exact⟨o,S,R,k _ o (λz=>(hf _ z).2.1 rfl) Q,r⟩
 ·refine(I.aH b u e).gb (λc v Z q=>k c v ?_ q) (λ_ q=>q) λ_ _ q=>q
  rcases Z with z|z
  ·rw[z];exact Y b u e
  ·exact Y c _ z
def Inv.QA {X:Cx} {π:List (â×Obj)} {σ:St} {H:Hp} {s:Ç} {h':Ţ} {t':Nat} {ch:List â} {p:â} {u:HO} (I:Inv X π σ H s) (k:∀b o,b∉ch->s.heap.get? b=some o->h'.get? b=some o) (hf:∀b∈ch,cu X π H b)
  (hp:s.heap.objs.size<=p) (new:dX X.prog X.w (upd H p u) h' p u):Inv X π σ (upd H p u) { s with heap:=h',toks:=t' }:=by
 have Y:H p=none:=I.aH.fresh hp;have aH:cM X.prog X.w (upd H p u) h':=(I.Ij (t':=t') k hf).aH.adopt Y new;refine I.step (g':=s.gens) (d':=s.drawn) (ch:=ch) (λb W=>?_) (λb o _ _ Z e _=>k b o Z e) (λb o _ _ Z e _=>⟨o.slots,k b o Z e⟩) (λb o _ e n=>?_) (λb o Z e=>⟨o,k b o Z e⟩) (λc P e=>by rw[bK (fL e Y)];exact e) (λc o v e=>by rw[bK (fL e Y)];exact e)
  (λc O e=>⟨#[],by rw[bK (fL e Y),e];simp⟩) (λm V=>?_) aH I.bare
 ·obtain⟨_,f1,_,U,f4,T⟩:=hf b W
  exact⟨U,f1,f4,T⟩
 ·rw[bK (ë (É (Ò e) hp))]
  exact n
 ·obtain⟨o,S,R,Q,r⟩:=V
  exact⟨o,S,R,k _ o (λz=>(hf _ z).2.1 rfl) Q,r⟩
@[reducible] def j4:Bool->ļ->Hp->â->List V->Prop
 |true=>bo
 |false=>bq
@[reducible] def l6:Bool->Ţ->â->Array Ì->Prop
 |true=>Heap.IsTuple
 |false=>Heap.IsList
@[reducible] def oj:Bool->Ţ->â->â->Nat->Prop
 |true=>Heap.IsTupleIter
 |false=>Heap.IsListIter
def Inv.uh {X:Cx} {π:List (â×Obj)} {σ:St} {H:Hp} {s:Ç} {a:â} {xs:List V} (I:Inv X π σ H s):∀{k},j4 k X.K H a xs->∃its,Vals xs its/\l6 k s.heap a its.toArray
 |true,h=>by obtain⟨i,r,p,_⟩:=I.tuple h;exact⟨i,r,p⟩
 |false,h=>by obtain⟨i,r,p,_⟩:=I.list h;exact⟨i,r,p.isList⟩
def Inv.IY {X:Cx} {π:List (â×Obj)} {σ:St} {H:Hp} {s:Ç} {a:â} {xs ys:List V} (I:Inv X π σ H s):∀{k},j4 k X.K H a xs->j4 k X.K H a ys->xs=ys
 |true,h,g=>I.H0 h g
 |false,h,g=>I.IQ h g
def zt {X:Cx} {π:List (â×Obj)} {σ:St} {H:Hp} {s:Ç} {a b:â} {xs:List V} (I:Inv X π σ H s):∀{k},j4 k X.K H a xs->cu X π H b->a≠b
 |true,h,f=>Wi I h f
 |false,h,f=>Wj I h f
def Ax (gh:A.handled=none) (i l:â) (its:Array Ì):∀k,HZ.l0 P w A i l (λn h=>oj k h i l n/\l6 k h l its) (λn=>its[n]?)
 |true=>HZ.Um gh i l its
 |false=>HZ.Uo gh i l its
def zu (k:∀o,h.get? i=some o->h'.get? i=some o):∀{b},oj b h i l n->oj b h' i l n
 |true,x=>x.at k
 |false,x=>x.at k
def yZ:∀{b},oj b h i l n->∃o,h.get? i=some o/\∀v,o.data≠.cell v
 |true,x=>by obtain⟨o,e,_,d⟩:=x;exact⟨o,e,λv q=>by rw[d] at q;cases q⟩
 |false,x=>by obtain⟨o,e,_,d⟩:=x;exact⟨o,e,λv q=>by rw[d] at q;cases q⟩
def wB (k l:Bool) (K:ļ) (a b:â):It :=
 ⟨λi H=>∃Z Y x y,j4 k K H a Z/\j4 l K H b Y/\Z[i]?=some x/\Y[i]?=some y,λi H v X=>∃p x y,H p=none/\v=.ref p/\X=upd H p (.tup [x,y])/\∀Z Y,j4 k K H a Z->j4 l K H b Y->Z[i]?=some x/\Y[i]?=some y,
  λi H=>∃Z Y,j4 k K H a Z/\j4 l K H b Y/\(Z.length<=i\/Y.length<=i)⟩
abbrev YW:=wB true true
abbrev YX:=wB false false
structure XD (it:Nat->Ţ->Prop) (iY:Nat->Ţ->Prop) (z ti to j1 j2:â) (i:Nat) (h:Ţ):Prop where
 z:IsZip h z ti to .none
 ti:aaG h ti (.ref j1) (.ref j2)
 to:∃u v,aaG h to u v
 h1:it i h
 h2:iY i h
structure ML (z ti to j1 j2:â):Prop where
 a1:ti≠z
 a2:to≠z
 a3:j1≠z
 a4:j2≠z
 a5:ti≠to
 a6:ti≠j1
 a7:ti≠j2
 a8:to≠j1
 a9:to≠j2
 b0:j1≠j2
def QC {k1 k2:Bool} {P:ö} {w:Ć} {K:ļ} {elts:List Ņ} {kk:Nat} {pos:Pos} (a b z ti to j1 j2:â) (F:ML z ti to j1 j2) :
  Turn P w K (.Tuple elts kk pos) (wB k1 k2 K a b) [z,ti,to,j1,j2] z (XD (λi h=>oj k1 h j1 a i) (λi h=>oj k2 h j2 b i) z ti to j1 j2) where
 mem:=by simp
 obj:=λi h Z c S=>by
  have M:c=z\/c=ti\/c=to\/c=j1\/c=j2:=by simpa using S
  rcases M with rfl|rfl|rfl|rfl|rfl
  ·exact⟨_,Z.z,λv q=>nomatch q⟩
  ·exact⟨_,Z.ti,λv q=>nomatch q⟩
  ·obtain⟨u,v,q⟩:=Z.to;exact⟨_,q,λv q=>nomatch q⟩
  ·exact yZ Z.h1
  ·exact yZ Z.h2
 keep:=λi h l Z k=>⟨k z (by simp) _ Z.z,k ti (by simp) _ Z.ti,by obtain⟨u,v,q⟩:=Z.to;exact⟨u,v,k to (by simp) _ q⟩,zu (λo e=>k j1 (by simp) o e) Z.h1,zu (λo e=>k j2 (by simp) o e) Z.h2⟩
 item:=by
  intro X L hw J S i j s σ H E I Y Z G;subst L hw J;obtain⟨f,d,x,y,V,U,ex,g⟩:=G;obtain⟨C,B,t⟩:=I.uh V;obtain⟨r,p,n⟩:=I.uh U;obtain⟨u,eu,ru⟩:=B.get ex;obtain⟨v,ev,rv⟩:=p.get g;have ne:∀c∈[z,ti,to,j1,j2],a≠c/\b≠c:=λc W=>⟨zt I V (Y c W),zt I U (Y c W)⟩;have D:HZ.Apart z ti to j1 j2 a b:=⟨F.a1,F.a2,F.a3,F.a4,F.a5,F.a6,F.a7,F.a8,F.a9,F.b0,(ne z (by simp)).1,(ne to (by simp)).1,(ne j1 (by simp)).1,(ne j2 (by simp)).1,(ne z (by simp)).2,(ne to (by simp)).2,(ne j1 (by simp)).2,(ne j2 (by simp)).2⟩;obtain⟨w1,w2,O⟩:=Z.to;have R:X.A.in1.handled=none:=I.ok.hd S;refine HZ.next_item D (Ax R j1 a C.toArray k1) (Ax R j2 b r.toArray k2) Z.z Z.ti O ⟨Z.h1,t⟩ ⟨Z.h2,n⟩ (by simpa using eu) (by simpa using ev) λl c1 c2 c3 c4 c5 c6 N=>⟨_,rfl,?_⟩;refine wpAny_letOwnedTupleGo_zip c1 λh2 d1 T=>?_;have hn:H s.heap.objs.size=none:=I.aH.fresh (acr _);have ZJ:z<s.heap.objs.size:=Ò Z.z;have ui:IsTup h2 s.heap.objs.size #[u,v]:=⟨_,T.extBut _ _ (Ŝ ZJ) c5,rfl,_,rfl⟩
  have I2:Inv X j σ (upd H s.heap.objs.size (.tup [x,y])) { s with heap:=h2,toks:=s.toks }:=I.QA (ch:=[z,ti,to,j1,j2]) (λc o m e=>by
   have q:c≠z/\c≠ti/\c≠to/\c≠j1/\c≠j2:=by simpa using m
   exact T.extBut c o q.1 (N c o q.1 q.2.2.1 q.2.2.2.1 q.2.2.2.2 e)) Y (acr _) ⟨by show 2<=Õ;decide,[u,v],.cons ru (.cons rv .nil),ui⟩
  refine⟨.ref s.heap.objs.size,_,I2,rfl,⟨_,x,y,hn,rfl,rfl,λA0 A1 q1 q2=>?_⟩,?_,λc W=>?_⟩
  ·rw[I.IY q1 V,I.IY q2 U];exact⟨ex,g⟩
  ·refine⟨d1,T.extBut _ _ F.a1 (N _ _ F.a1 F.a5 F.a6 F.a7 Z.ti),⟨_,_,T.extBut _ _ F.a2 c2⟩,zu (λo e=>T.extBut _ _ F.a3 e) c3.1,zu (λo e=>T.extBut _ _ F.a4 e) c4.1⟩
  ·rw[bK]
   ·exact(Y c W).1
   ·intro e
    obtain⟨o,eo⟩:∃o,s.heap.get? c=some o:=by
     have M:c=z\/c=ti\/c=to\/c=j1\/c=j2:=by simpa using W
     rcases M with q|q|q|q|q
     ·rw[q];exact⟨_,Z.z⟩
     ·rw[q];exact⟨_,Z.ti⟩
     ·rw[q];exact⟨_,O⟩
     ·rw[q];obtain⟨o,e,_⟩:=yZ Z.h1;exact⟨o,e⟩
     ·rw[q];obtain⟨o,e,_⟩:=yZ Z.h2;exact⟨o,e⟩
    exact absurd (Ò eo) (by rw[e];exact ì _)
 done:=by
  intro X L hw J S i j s σ H E I Y Z G;subst L hw J;obtain⟨f,d,V,U,hle⟩:=G;obtain⟨C,B,t⟩:=I.uh V;obtain⟨r,p,n⟩:=I.uh U;have ne:∀c∈[z,ti,to,j1,j2],a≠c/\b≠c:=λc W=>⟨zt I V (Y c W),zt I U (Y c W)⟩;have D:HZ.Apart z ti to j1 j2 a b:=⟨F.a1,F.a2,F.a3,F.a4,F.a5,F.a6,F.a7,F.a8,F.a9,F.b0,(ne z (by simp)).1,(ne to (by simp)).1,(ne j1 (by simp)).1,(ne j2 (by simp)).1,(ne z (by simp)).2,(ne to (by simp)).2,(ne j1 (by simp)).2,(ne j2 (by simp)).2⟩;obtain⟨w1,w2,O⟩:=Z.to;have R:X.A.in1.handled=none:=I.ok.hd S;have l1:=B.length;have l2:=p.length;refine HZ.next_end D (Ax R j1 a C.toArray k1) (Ax R j2 b r.toArray k2) Z.z Z.ti O ⟨Z.h1,t⟩ ⟨Z.h2,n⟩ ?_ λl N=>⟨rfl,I.Ij (t':=s.toks) (ch:=[z,ti,to,j1,j2]) (λc o m e=>by
   have q:c≠z/\c≠ti/\c≠to/\c≠j1/\c≠j2:=by simpa using m
   exact N c o q.1 q.2.2.1 q.2.2.2.1 q.2.2.2.2 e) Y⟩
  rcases hle with q|q
  ·left;simp;omega
  ·right;simp;omega
 self:=λA i s Q E Z h=>wpAny_pyIter_zip Z.z h
end L2
namespace HZ
open PySem PySem.Spec PyProof.Rows L2
@[reducible] noncomputable def xu:Bool->String
 |true=>"tuple_iterator"
 |false=>"list_iterator"
abbrev y1 (k:Bool) (h:Ţ) (m1:â):Ţ:=h.push { cls:=.type (xu k),data:=.fields #[.ref m1,.int 0 0] }
abbrev y2 (k l:Bool) (h:Ţ) (m1 m2:â):Ţ:=(y1 k h m1).push { cls:=.type (xu l),data:=.fields #[.ref m2,.int 0 0] }
abbrev y3 (k l:Bool) (h:Ţ) (m1 m2:â):Ţ:=(y2 k l h m1 m2).push { cls:=.type "tuple",data:=.seq #[.ref h.objs.size,.ref (y1 k h m1).objs.size] }
abbrev y4 (k l:Bool) (h:Ţ) (m1 m2:â):Ţ:=(y3 k l h m1 m2).push { cls:=.type "tuple",data:=.seq #[.none,.none] }
abbrev y5 (k l:Bool) (h:Ţ) (m1 m2:â):Ţ:=(y4 k l h m1 m2).push { cls:=.type "zip",data:=.fields #[.none,.bool false,.bool false,.ref (y2 k l h m1 m2).objs.size,.ref (y3 k l h m1 m2).objs.size] }
def LP:∀{k},l6 k s.heap m xs->Q (.ref s.heap.objs.size) { s with heap:=s.heap.push { cls:=.type (xu k),data:=.fields #[.ref m,.int 0 0] } }->Ü (í P w) A (acj (.ref m)) Q E s
 |true,h,q=>wpAny_pyIter_tuple h q
 |false,h,q=>Ž h q
def RZ (o:Obj):∀{k},l6 k h m xs->l6 k (h.push o) m xs
 |true,x=>Heap.IsTuple.push x o
 |false,x=>Heap.IsList.push x o
def Ur (k l:Bool) (m1 m2:â) (xs ys:Array Ì) :
  Meets (ő.«zip.__new__» ⟨[.type "zip",.ref m1,.ref m2],[]⟩) (λ_ R s=>l6 k s.heap m1 xs/\l6 l s.heap m2 ys/\R (.ok (.ret (.ref (y4 k l s.heap m1 m2).objs.size))) { s with heap:=y5 k l s.heap m1 m2 }) :=
 .of_wp λprog w A R s h=>by
  obtain⟨Z,g,d,Y,os⟩:=s;obtain⟨X,W,h⟩:=h;have V:=sub_zip;have U:l6 k (Shared.heap ⟨Z,g,d,Y,os⟩) m1 xs:=X;have L2:l6 l (Shared.heap ⟨Z.push { cls:=.type (xu k),data:=.fields #[.ref m1,.int 0 0] },g,d,Y,os⟩) m2 ys:=RZ _ W
  wp_walk using LP U,LP L2
  exact⟨_,rfl,h⟩
section
variable {P:ö} {w:Ć} {A:Đ} {E:Ì->Ç->Prop} {s:Ç}
def JX:∀{k},h.get? i=some { cls:=.type (xu k),data:=.fields #[.ref m,.int 0 0] }->oj k h i m 0
 |true,e=>⟨_,e,rfl,rfl⟩
 |false,e=>⟨_,e,rfl,rfl⟩
def QD (h1:l6 k s.heap m1 xs) (h2:l6 l s.heap m2 ys)
 (h:∀h',IsZip h' (s.heap.objs.size+4) (s.heap.objs.size+2) (s.heap.objs.size+3) .none->aaG h' (s.heap.objs.size+2) (.ref s.heap.objs.size) (.ref (s.heap.objs.size+1)) ->
   aaG h' (s.heap.objs.size+3) .none .none->oj k h' s.heap.objs.size m1 0->oj l h' (s.heap.objs.size+1) m2 0->h'.objs.size=s.heap.objs.size+5 ->
 (∀c o,s.heap.get? c=some o->h'.get? c=some o)->Q (.ref (s.heap.objs.size+4)) { s with heap:=h' }):Ü (í P w) A (call (.type "zip") [.ref m1,.ref m2]) Q E s:=by
 refine callType_new F.called_zip (by decide) (F.typeCall_zip_2 _ _) (F.newCall_zip_2 _ _) (λobj=>F.args_object_init_3 obj _ _) F.entry_zip_new (Ur k l m1 m2 xs ys) ⟨h1,h2,?_⟩;have e1:(y1 k s.heap m1).objs.size=s.heap.objs.size+1:=đ ..;have e2:(y2 k l s.heap m1 m2).objs.size=s.heap.objs.size+2:=by rw[đ,e1]
 have Z:(y3 k l s.heap m1 m2).objs.size=s.heap.objs.size+3:=by rw[đ,e2]
 have Y:(y4 k l s.heap m1 m2).objs.size=s.heap.objs.size+4:=by rw[đ,Z]
 have V:(y5 k l s.heap m1 m2).objs.size=s.heap.objs.size+5:=by rw[đ,Y]
 have X:(y5 k l s.heap m1 m2).get? (y4 k l s.heap m1 m2).objs.size=some _:=Ð _ rfl;have W:(y5 k l s.heap m1 m2).get? (y3 k l s.heap m1 m2).objs.size=some _:=Á _ (Ð _ rfl);have g3:(y5 k l s.heap m1 m2).get? (y2 k l s.heap m1 m2).objs.size=some _:=Á _ (Á _ (Ð _ rfl));have g2:(y5 k l s.heap m1 m2).get? (y1 k s.heap m1).objs.size=some _:=Á _ (Á _ (Á _ (Ð _ rfl)));have g1:(y5 k l s.heap m1 m2).get? s.heap.objs.size=some _:=Á _ (Á _ (Á _ (Á _ (Ð _ rfl))));show _/\_;rw[e2,Z,Y] at X;rw[e1,e2] at g3;rw[Z] at W;rw[e1] at g2;rw[Y];exact⟨⟨_,X,rfl⟩,h _ X g3 W (JX g1) (JX g2) V λc o q=>Á _ (Á _ (Á _ (Á _ (Á _ q))))⟩
end
end HZ
namespace L2
open PySem PySem.Spec PyProof.Rows
def R1 (n:Nat):ML (n+4) (n+2) (n+3) n (n+1):=by constructor<;>(show (_:Nat)≠_)<;>omega
section
variable {X:Cx} {elts:List Ņ} {kk:Nat} {tp:Pos}
def D1 (k l:Bool) (K:ļ) (ta:TA):TI:=fun σ H R=>ta σ H λY Z=>∃a b X W,Y=[.ref a,.ref b]/\j4 k K Z a X/\j4 l K Z b W/\R (wB k l K a b) Z
noncomputable abbrev XE:=D1 true true
noncomputable abbrev XF:=D1 false false
def QE:Ă "zip"=some (.type "zip"):=by decide +kernel
def Wk {π:List (â×Obj)} {σ:St} {H:Hp} {s:Ç} (I:Inv X π σ H s):∀b∈[s.heap.objs.size+4,s.heap.objs.size+2,s.heap.objs.size+3,s.heap.objs.size,s.heap.objs.size+1],cu X π H b:=λb Y=>by
 have Z:s.heap.objs.size<=b:=by
  have q:b=s.heap.objs.size+4\/b=s.heap.objs.size+2\/b=s.heap.objs.size+3\/b=s.heap.objs.size\/b=s.heap.objs.size+1:=by simpa using Y
  omega
 exact I.mZ Z (I.aH.fresh Z)
def CF {k l:Bool} {a b:Ņ} {ta:TA} {p pos:Pos} (hg:Gl X "zip") (hm:X.mg "zip"=none) (ha:PA X [a,b] ta) (hs:Þ [a,b] X.env=[(false,ś a X.env),(false,ś b X.env)]:=by rfl) (bU:Þ [b] X.env=[(false,ś b X.env)]:=by rfl) :
  PI X (.Tuple elts kk tp) (.Call (.Name "zip" p) [a,b] [] pos) (D1 k l X.K ta):=by
 intro V s σ H R I h;refine Call_ (nL I hg hm QE (ŀ (aG (ha pos V s σ H _ I h) λz Z ⟨y,U,Y,T,S⟩=>?_) (by rw[hs,bU]) (by rw[bU];rfl)));obtain⟨a,b,xs,ys,e,Q,P,q⟩:=S;subst e;obtain⟨u,v,rfl,O,N⟩:=vals2 T;cases O;cases N;obtain⟨M,_,L⟩:=Y.uh Q;obtain⟨J,_,G⟩:=Y.uh P;refine HZ.QD (xs:=M.toArray) (ys:=J.toArray) L G λF W E D C B x A=>?_
 refine wpAny_pyIter_zip (s:={ Z with heap:=F }) W ?_
 exact⟨_,[Z.heap.objs.size+4,Z.heap.objs.size+2,Z.heap.objs.size+3,Z.heap.objs.size,Z.heap.objs.size+1],_,_,U,rfl,Y.kept (t':=Z.toks) A,QC a b _ _ _ _ _ (R1 _),⟨W,E,⟨_,_,D⟩,C,B⟩,Wk Y,q⟩
def CG {a b:Ņ} {ta:TA} {p pos:Pos} (hg:Gl X "zip") (hm:X.mg "zip"=none) (ha:PA X [a,b] ta) (hs:Þ [a,b] X.env=[(false,ś a X.env),(false,ś b X.env)]:=by rfl) (bU:Þ [b] X.env=[(false,ś b X.env)]:=by rfl) :
  PI X (.Tuple elts kk tp) (.Call (.Name "zip" p) [a,b] [] pos) (XE X.K ta):=CF hg hm ha hs bU
def Us {a b:Ņ} {ta:TA} {p pos:Pos} (hg:Gl X "zip") (hm:X.mg "zip"=none) (ha:PA X [a,b] ta) (hs:Þ [a,b] X.env=[(false,ś a X.env),(false,ś b X.env)]:=by rfl) (bU:Þ [b] X.env=[(false,ś b X.env)]:=by rfl) :
  PI X (.Tuple elts kk tp) (.Call (.Name "zip" p) [a,b] [] pos) (XF X.K ta):=CF hg hm ha hs bU
end
end L2
namespace PySem
section
variable {P:ö} {w:Ć} {A:Đ} {E:Ì->Ç->Prop} {s:Ç}
end
end PySem
namespace L2
open PySem PySem.Spec PyProof.Rows
def map_getD (ns:List Int):(Ø ns.length).map (λi=>ns.getD i 0)=ns:=by
 apply Ŗ;intro i;rw[á];by_cases h:i<ns.length
 ·rw[č h,Ë h]
  simp[δ,Ë h]
 ·rw[ú (by simpa using h),ú (by omega)]
  rfl
section
variable {X:Cx}
end
section
variable {κ:Type} [DecidableEq κ]
end
section
variable {P:ö} {w:Ć} {H:Hp} {h:Ţ} {a:â}
end
section
variable {X:Cx} {π:List (â×Obj)} {σ:St} {H:Hp} {s:Ç} {a:â} {y v:V} {u r:Ì} {o:Option V} {A:Đ} {E:Ì->Ç->Prop}
def Inv.big (I:Inv X π σ H s):Ų<s.heap.objs.size:=by
 have h:ø<s.heap.objs.size:=(I.mod.glob.keeps I.bk).lt;exact Nat.lt_trans (by decide) h
def Ut (I:Inv X π σ H s) (mu:wY (H a)) (hs:Ľ a s.heap h') (he:∃q,h'.get? a=some q) (new:dX X.prog X.w (upd H a ob) h' a ob) :
  Inv X π σ (upd H a ob) { s with heap:=h',toks:=t' } :=
 I.write (x:=a) (e:=a) mu (.inl rfl) (λb q Z z=>(hs.2 b Z).trans z) he new
end
section
variable {X:Cx} {π:List (â×Obj)} {σ:St} {H:Hp} {s:Ç} {a:â} {ak:List (Key×V)} {k:Key} {u:Ì} {A:Đ} {E:Ì->Ç->Prop}
end
section
variable {X:Cx} {o i e value:Ņ} {pos pos' ra:Pos} {td ty tv:TE}
end
section
variable {X:Cx} {pos:Pos}
end
structure M1 (X:Cx) (o:Ņ) (m:Str) (apos:Pos) (e:Ņ) (fu:Pos):Prop where
 base:attributeBase o m X.env (ś o X.env)=ś o X.env
 l7:((χ fu (Þ [e] X.env)).all (λx=>!x.1)&&(backToKw fu (abM [] X.env)).all (λx=>x.1.isSome)
  && decide (([e]:List Ņ).length+([]:List ach).length+(if ([]:List ach).isEmpty then 0 else 1)<30))=true
 line:(apos.endLine==fu.line)=true
 trees:χ fu (Þ [e] X.env)=[(false,ś e X.env)]
structure M2 (X:Cx) (o:Ņ) (m:Str) (apos:Pos) (e f:Ņ) (fu:Pos):Prop where
 base:attributeBase o m X.env (ś o X.env)=ś o X.env
 l7:((χ fu (Þ [e,f] X.env)).all (λx=>!x.1)&&(backToKw fu (abM [] X.env)).all (λx=>x.1.isSome)
  && decide (([e,f]:List Ņ).length+([]:List ach).length+(if ([]:List ach).isEmpty then 0 else 1)<30))=true
 line:(apos.endLine==fu.line)=true
 trees:χ fu (Þ [e,f] X.env)=[(false,ś e X.env),(false,ś f X.env)]
section
variable {X:Cx} {π:List (â×Obj)} {σ:St} {H:Hp} {s:Ç} {a:â} {y d:V} {u r:Ì} {o:Option V} {A:Đ} {E:Ì->Ç->Prop}
end
section
variable {X:Cx} {o e f:Ņ} {apos fu:Pos} {td ty tx:TE}
end
section
variable {X:Cx} {π:List (â×Obj)} {σ:St} {H:Hp} {s:Ç} {a:â} {ak:List (Key×V)} {A:Đ} {E:Ì->Ç->Prop}
end
section
variable {X:Cx} {π:List (â×Obj)} {σ:St} {H:Hp} {s:Ç} {a:â} {y:V} {u:Ì} {A:Đ} {E:Ì->Ç->Prop}
end
section
variable {K:ļ} {caps:St} {H:Hp} {tf:TT} {te:TE} {Q:VK}
end
noncomputable def K1 (sc:aaB) (on:List (Str×aau)) (oN N:List Str) (nt:Nat) (cap:List Nat):Bool :=
 decide (sc.kind=.function)&&sc.names.all (λx=>decide (x.2≠.cell))&&sc.names.all (λx=>decide (x.2=.local->sc.names.lookup x.1=some .local)) &&
 sc.names.all (λx=>decide (x.2=.free->sc.names.lookup x.1=some .free/\(on.lookup x.1=some .cell\/on.lookup x.1=some .free)))&&decide (N.length=nt+cap.length) &&
 (Ø cap.length).all (λk=>match cap[k]? with
  |some j=>match oN[j]? with
   |some x=>decide (N[nt+k]?=some x)&&decide ((x,Ą)∈sc.names)
   |none=>false
  |none=>true)
def D2 (h:K1 sc X.env.scope.names X.N N nt cap=true):qp X sc N nt cap:=by
 unfold K1 at h;simp only[Ê,Ĕ,È] at h;obtain⟨⟨⟨⟨⟨Z,Y⟩,W⟩,V⟩,U⟩,T⟩:=h;refine⟨Z,Y,W,λx S e=>V x S e,U,λk j e=>?_⟩;have R:k<cap.length:=(Å.mp e).1;have:=T k (ñ.mpr R);rw[e] at this;dsimp only at this
 cases ex:X.N[j]? with
 |none=>rw[ex] at this;cases this
 |some x =>
  rw[ex] at this;simp only[Ê,È] at this;exact⟨x,rfl,this.1,this.2⟩
end L2
namespace TS
open PySem
abbrev lJ (l:List Nat):Prop:=l.Pairwise (· < ·)
def R3 (xs:Array Nat) (k d:Nat):xs.getD k d=xs.toList.getD k d:=by
 cases xs with
 |mk l =>
  by_cases h:k<l.length
  ·simp[abd,δ,h]
  ·simp[abd,δ,h]
def y0 (h:lJ l) (xw:a<b) (hb:b<l.length):l.getD a 0<l.getD b 0:=by
 have:=List.pairwise_iff_getElem.mp h a b (by omega) hb xw;simpa [δ,Ë hb,Ë (show a<l.length by omega)] using this
def R4 (l:List Nat) (hk:k<l.length) (d e:Nat):l.getD k d=l.getD k e:=by
 simp[δ,Ë hk]
theorem CH (xs:Array Nat) (j:Nat) (hr:lJ xs.toList):∀(fuel lo hi:Nat),hi-lo<=fuel->lo<=hi->hi<=xs.toList.length->(∀k,k<lo->xs.toList.getD k 0<j)->(∀k,hi<=k->k<xs.toList.length->j<=xs.toList.getD k 0) ->
  abg xs j fuel lo hi<=xs.toList.length/\(∀k,k<abg xs j fuel lo hi->xs.toList.getD k 0<j)/\(∀k,abg xs j fuel lo hi<=k->k<xs.toList.length->j<=xs.toList.getD k 0)
 |0,lo,hi,S,R,Z,Y,X=>by
  have e:lo=hi:=by omega
  subst e;exact⟨Z,Y,X⟩
 |fuel+1,lo,hi,S,R,Z,Y,X=>by
  unfold abg;by_cases U:lo<hi
  ·rw[ß U]
   dsimp only;have T:(lo+hi) / 2<xs.toList.length:=by omega
   rw[R3,R4 _ T j 0];by_cases W:xs.toList.getD ((lo+hi) / 2) 0<j
   ·rw[ß W]
    refine CH xs j hr fuel _ _ (by omega) (by omega) Z (λk Q=>?_) X;by_cases V:k=(lo+hi) / 2
    ·rw[V];exact W
    ·exact Nat.lt_trans (y0 hr (by omega) T) W
   ·rw[æ W]
    refine CH xs j hr fuel _ _ (by omega) (by omega) (by omega) Y (λk Q V=>?_);by_cases P:k=(lo+hi) / 2
    ·rw[P];omega
    ·have:=y0 hr (show (lo+hi) / 2<k by omega) V
     omega
  ·rw[æ U]
   have e:lo=hi:=by omega
   subst e;exact⟨Z,Y,X⟩
def HI (xs:Array Nat) (j:Nat) (hr:lJ xs.toList):ğ xs j<=xs.toList.length/\(∀k,k<ğ xs j->xs.toList.getD k 0<j)/\(∀k,ğ xs j<=k->k<xs.toList.length->j<=xs.toList.getD k 0):=by
 unfold ğ;exact CH xs j hr xs.size 0 xs.size (by omega) (ē _) (by simp) (λk Z=>by omega) (λk Z Y=>by simp at Y;omega)
def OX {l:List Nat} {p j:Nat} (h:∀k,k<p->l.getD k 0<j):∀x∈l.take p,x<j:=by
 intro x Y;obtain⟨k,X,e⟩:=aaQ Y;have Z:k<p/\k<l.length:=by rw[ō] at X;omega
 have:=h k Z.1;rw[List.getElem_take] at e;rw[<- e];simpa [δ,Ë Z.2] using this
def OY {l:List Nat} {p j:Nat} (h:∀k,p<=k->k<l.length->j<=l.getD k 0):∀x∈l.drop p,j<=x:=by
 intro x Y;obtain⟨k,X,e⟩:=aaQ Y;have Z:p+k<l.length:=by rw[List.length_drop] at X;omega
 have:=h (p+k) (by omega) Z;rw[List.getElem_drop] at e;rw[<- e];simpa [δ,Ë Z] using this
def R5 {xs:Array Nat} {j:Nat} (hr:lJ xs.toList) (hn:xs[ğ xs j]?≠some j):lJ (SetTable.insertAt xs (ğ xs j) j).toList:=by
 obtain⟨T,V,U⟩:=HI xs j hr;rw[SetTable.toList_insertAt];have a1:=OX V;have a2:∀x∈xs.toList.drop (ğ xs j),j<x:=by
  intro x hx;have Y:=OY U;have X:lJ (xs.toList.drop (ğ xs j)):=abu (List.drop_sublist _ _) hr
  cases Z:xs.toList.drop (ğ xs j) with
  |nil=>rw[Z] at hx;cases hx
  |cons y r =>
   rw[Z] at X hx Y;have hy:j≠y:=by
    intro e;apply hn;have:(xs.toList.drop (ğ xs j))[0]?=some y:=by rw[Z];rfl
    rw[List.getElem?_drop] at this;have e2:xs.toList[ğ xs j]?=some y:=by simpa using this
    rw[<- Ł,e2,e]
   have W:j<y:=Nat.lt_of_le_of_ne (Y y Î) hy
   rcases Ó.mp hx with e|hx
   ·rw[e];exact W
   ·exact Nat.lt_trans W ((ą.mp X).1 x hx)
 first
  |(refine aaA.mpr ⟨abu (List.take_sublist _ _) hr,ą.mpr ⟨a2,abu (List.drop_sublist _ _) hr⟩,λx hx y hy=>?_⟩
    rcases Ó.mp hy with e|hy
    ·rw[e];exact a1 x hx
    ·exact Nat.lt_trans (a1 x hx) (a2 y hy))
  |trace_state
theorem CI (t:SetTable) (h:Int):∀(fuel:Nat) (p:SetTable.Probe) (j:Nat) (dm:Option Nat),(∀d,p.dummy=some d->t.slot d=.dummy)->ace t (λ_=>h+1) h fuel p=some (.empty j dm)->t.slot j=.empty/\∀d,dm=some d->t.slot d=.dummy
 |0,p,j,dm,Y,e=>by simp[ace] at e
 |fuel+1,p,j,dm,Y,e=>by
  unfold ace at e
  cases hs:t.slot p.j with
  |empty =>
   rw[hs] at e;simp at e;rw[<- e.1,<- e.2];exact⟨hs,Y⟩
  |dummy =>
   rw[hs] at e;refine CI t h fuel _ j dm (λd Z=>?_) e;unfold SetTable.advance at Z;split at Z
   ·simp at Z;rw[<- Z];exact hs
   ·simp at Z;rw[<- Z];exact hs
  |live i =>
   rw[hs] at e;have X:(h+1==h)=false:=by simp;omega
   simp only[X,Ä,ê] at e;refine CI t h fuel _ j dm (λd Z=>?_) e;unfold SetTable.advance at Z;split at Z
   ·exact Y d Z
   ·exact Y d Z
def Ik {t:SetTable} {j:Nat} (h:t.slot j=.empty\/t.slot j=.dummy):t.place[ğ t.place j]?≠some j:=by
 intro e;have:t.slot j=.live (ğ t.place j):=by
  unfold SetTable.slot;simp[e]
 rw[this] at h
 rcases h with h|h<;>cases h
def QG {t:SetTable} {h:Int} {j:Nat} {b:Bool} (e:t.freeSlot h=some (j,b)):t.place[ğ t.place j]?≠some j:=by
 unfold SetTable.freeSlot SetTable.probe at e;split at e
 ·rename_i Y Z X
  have k:=CI t h _ _ Y Z (λd W=>by simp[SetTable.probeStart] at W) X;simp at e;rw[<- e.1]
  cases Z with
  |none=>exact Ik (.inl k.1)
  |some d=>exact Ik (.inr (k.2 d rfl))
 ·cases e
structure jz (led:Bool) (t:SetTable):Prop where
 led:t.led=led
 rise:t.plain=true->lJ t.place.toList
def yw (h:jz led t) (n:Nat):jz led (t.standIn n):=⟨h.led,λz=>by simp[SetTable.standIn] at z⟩
def PB {led:Bool} {t:SetTable} (h:jz led t) (es:Array (Int×Ì)) (hs:Int) (x:Ì):jz led (layNew t es hs x).2.1:=by
 unfold layNew;split
 ·rename_i slot Y e
  dsimp only;unfold SetTable.orStandIn;have Z:jz led (t.put slot).1:=⟨h.led,λz=>R5 (h.rise z) (QG e)⟩;split
  ·exact Z
  ·exact yw Z _
 ·exact yw h _
def R6 {mask finger moves:Nat} {led plain:Bool} {hs:Array Int} {o:Array Nat} (e:SetTable.laid mask finger moves led plain hs=some (t,o)):jz led t/\t.plain=plain:=by
 unfold SetTable.laid at e
 cases X:SetTable.layClean mask hs with
 |none=>rw[X] at e;simp at e
 |some owner =>
  rw[X] at e;simp at e;obtain⟨e1,e2⟩:=e;subst e1;refine⟨⟨rfl,λ_=>?_⟩,rfl⟩;show lJ (abv _).toList;simp only[List.map_filterMap];refine List.pairwise_filterMap.mpr ?_;refine List.Pairwise.imp (R:=(· < ·)) ?_ (List.pairwise_lt_range);intro a b U x Z y Y
  cases W:(owner[a]?.getD none) with
  |none=>rw[W] at Z;simp at Z
  |some q =>
   cases V:(owner[b]?.getD none) with
   |none=>rw[V] at Y;simp at Y
   |some r =>
    rw[W] at Z;rw[V] at Y;simp at Z Y;omega
def QH (h:jz led t) (es:Array (Int×Ì)) (n:Nat):jz led (relayAll t es n).2.1:=by
 unfold relayAll;split
 ·rename_i Z o e
  dsimp only;split
  ·unfold SetTable.relaid at e
   have k:=R6 e;exact⟨k.1.led.trans h.led,k.1.rise⟩
  ·exact yw h _
 ·exact yw h _
def Il (led:Bool):jz led (.fresh 0 0 led):=⟨rfl,λ_=>List.Pairwise.nil⟩
open PySem.Spec PyProof.Rows
section
variable {P:ö} {w:Ć} {A:Đ} {E:Ì->Ç->Prop} {s:Ç} {led:Bool}
def gy (P:ö) (w:Ć) (led:Bool) (h:Ţ) (a:â) (S:Int->Bool) (n:Nat):Prop :=
 ∃o Z Y t,h.get? a=some o/\o.ExactSet/\o.data=.set Z Y t/\ElemsOf (ţ P w) Z.toList/\(∀k,S k=true↔∃e∈Z.toList,(ţ P w).is k e.2=true)/\Z.size<ω/\t.fits Z.size=true/\Z.size=n/\jz led t
def gy.at (x:gy P w led h a S n) (k:∀o,h.get? a=some o->h'.get? a=some o):gy P w led h' a S n:=by
 obtain⟨o,Z,Y,t,X,r⟩:=x;exact⟨o,Z,Y,t,k o X,r⟩
def gy.congr (x:gy P w led h a S n) (e:∀k,S k=S' k) (en:n=n'):gy P w led h a S' n':=by
 obtain rfl:S=S':=funext e;subst en;exact x
def CJ {a:â} {u:Obj} {es ip:Array (Int×Ì)} {ep:Nat} {t t':SetTable} {h:Ţ} (hu:h.get? a=some u) (hx:u.ExactSet) (hd:u.data=.set es ep t) {S:Int->Bool}
  (c1:ElemsOf (ţ P w) ip.toList) (c2:∀k,S k=true↔∃e∈ip.toList,(ţ P w).is k e.2=true) (c3:ip.size<ω) (c4:t'.fits ip.size=true) (c5:jz led t') :
  (h.update a (Obj.putSet ip t')).get? a=some { u with data:=.set ip (ep+1) t' }/\gy P w led (h.update a (Obj.putSet ip t')) a S ip.size:=by
 have g:=(SetOf_store (knd:=ţ P w) hu hx hd c1 c2 c3 c4).1;exact⟨g,_,ip,ep+1,t',g,hx,rfl,c1,c2,c3,c4,rfl,c5⟩
def JY {a:â} {S:Int->Bool} {n:Nat} {k:Int} {tk:Tok} {Q:Bool->Ç->Prop} (hS:gy P w led s.heap a S n) (D3:n+1<ω)
  (h:∀h',Ľ a s.heap h'->gy P w led h' a (λj=>S j||decide (j=k)) (if S k then n else n+1)->Q (!S k) { s with heap:=h' }) :
  Ü (í P w) A (setAddHashed a (.int k tk) ((ţ P w).hash k)) Q E s:=by
 obtain⟨u,W,d,t,R,H,O,G,F,m,B,y,i⟩:=hS;have ky:(ţ P w).is k (.int k tk)=true:=intKind_is _ _ _ _;have sc:(aca k tk).scannable=true:=rfl;have FF:W.size+1<ω:=by rw[y];exact D3
 unfold setAddHashed setAddHashedIn;refine Ė ?_;refine À (ε R O B ?_);dsimp only;rw[byScan_of sc m G,ß rfl];unfold setAddByScan;refine À (À (Ŕ ?_));refine À (wpAny_setScan_of ky R O B G ?_)
 cases g:W.toList.findIdx? (λe=>(ţ P w).is k e.2) with
 |some j =>
  dsimp only;obtain⟨c,pj,_⟩:=List.findIdx?_eq_some_iff_getElem.mp g;have K:S k=true:=(F k).mpr ⟨W.toList[j],ŵ c,pj⟩;have q:=h s.heap (Heap.SameBut.refl a s.heap) ⟨u,W,d,t,R,H,O,G,λj'=>by
   rw[aao,È,<- F j'];exact⟨λz=>z.elim id λe=>by rw[e];exact K,Ş⟩,m,B,by rw[K];exact y,i⟩
  rw[K] at q;exact Â (Â q)
 |none =>
  dsimp only;have K:S k=false:=by
   rw[<- aaa,F k];rintro ⟨e,X,pe⟩;have z:=List.findIdx?_eq_none_iff.mp g e X;rw[pe] at z;cases z
  have way:∀(b:Bool) {x:Ç} {v:Unit->Ç->Prop},v () x->Ü (í P w) A (match b with|true=>rule "set.scan.the-table-gave-way"|false=>pure ()) v E x :=
   λb x v q=>by cases b<;>first|exact Â q|exact Ŕ q
  have pm:=layNew_perm t W ((ţ P w).hash k) (.int k tk);have r:=layNew_fits t W ((ţ P w).hash k) (.int k tk);have D:=PB i W ((ţ P w).hash k) (.int k tk);generalize layNew t W ((ţ P w).hash k) (.int k tk)=L at pm r D |-;obtain⟨Z,t1,abU,abZ⟩:=L;dsimp only at pm r D |-;rw[abh] at pm;have p:ElemsOf (ţ P w) Z.toList:=(G.push ky sc).perm pm;have o:∀j,(S j||decide (j=k))=true↔∃e∈Z.toList,(ţ P w).is j e.2=true:=mem_push_iff ky F pm;have z1:Z.size=n+1:=by
   have l:=pm.length_eq;rw[é,ý,ý,y] at l;exact l
  have V:Z.size<ω:=by omega
  refine À (way _ ?_);obtain⟨g1,f⟩:=CJ (S:=λj=>S j||decide (j=k)) R H O p o V r D;have C:=ģ s.heap a (Obj.putSet Z t1)
  have fin:∀h',Ľ a s.heap h'->gy P w led h' a (λj=>S j||decide (j=k)) Z.size->Q true { s with heap:=h' }:=λh' sb T=>by
   have q:=h h' sb;rw[K] at q;rw[z1] at T;exact q T
  have Y:=relayAll_perm t1 Z (abq Z.size);have N:=relayAll_fits t1 Z (abq Z.size);have M:=QH D Z (abq Z.size);have hv:hashByValue 8 (aca k tk)=pure true:=rfl;split
  ·refine À ?_
   rw[hv];refine Â ?_;simp only[ô];refine À (abi R O ?_ (aaw V));split
   ·generalize relayAll t1 Z (abq Z.size)=L2 at Y N M |-
    obtain⟨J,t2,XG⟩:=L2;dsimp only at Y N M |-;have U:J.size=Z.size:=by
     have l:=Y.length_eq;rwa [ý,ý] at l
    have f2:∀j,(S j||decide (j=k))=true↔∃e∈J.toList,(ţ P w).is j e.2=true:=λj=>(o j).trans ⟨λ⟨e,X,q⟩=>⟨e,Y.mem_iff.mpr X,q⟩,λ⟨e,X,q⟩=>⟨e,Y.mem_iff.mp X,q⟩⟩;refine À (way _ ?_);refine À (abi g1 rfl ?_ (aaw (by rw[U];exact V)));obtain⟨g2,I⟩:=CJ (S:=λj=>S j||decide (j=k)) (led:=led) g1 H rfl (p.perm Y) f2 (by rw[U];exact V) N M;rw[U] at I;exact Â (Â (fin _ (C.trans (ģ _ a _)) I))
   ·exact Â (Â (fin _ C f))
  ·refine À (Â ?_)
   simp only[ô];refine À (abi R O ?_ (aaw V));split
   ·generalize relayAll t1 Z (abq Z.size)=L2 at Y N M |-
    obtain⟨J,t2,XG⟩:=L2;dsimp only at Y N M |-;have U:J.size=Z.size:=by
     have l:=Y.length_eq;rwa [ý,ý] at l
    have f2:∀j,(S j||decide (j=k))=true↔∃e∈J.toList,(ţ P w).is j e.2=true:=λj=>(o j).trans ⟨λ⟨e,X,q⟩=>⟨e,Y.mem_iff.mpr X,q⟩,λ⟨e,X,q⟩=>⟨e,Y.mem_iff.mp X,q⟩⟩;refine À (way _ ?_);refine À (abi g1 rfl ?_ (aaw (by rw[U];exact V)));obtain⟨g2,I⟩:=CJ (S:=λj=>S j||decide (j=k)) (led:=led) g1 H rfl (p.perm Y) f2 (by rw[U];exact V) N M;rw[U] at I;exact Â (Â (fin _ (C.trans (ģ _ a _)) I))
   ·exact Â (Â (fin _ C f))
end
def Oa:entryFor table "set.__iter__"=some ő.«frozenset.__iter__»:=entryFor_alias (id':="frozenset.__iter__") (by kernel_rfl) rfl (by decide +kernel) (by kernel_rfl)
def kW:Slot "set_iterator" "__next__" "set_iterator.__next__" :=
 .of (owner:="set_iterator") (n:="__next__") (by rw[typeLookup_type,abw];kernel_rfl) (by decide +kernel) (by decide +kernel) (by decide +kernel)
  (by first|exact .inl (by decide +kernel)|exact .inr (by decide +kernel)) (by rw[isSubtype_type];kernel_rfl)
def yk:entryFor table "set_iterator.__next__"=some ő.«set_iterator.__next__»:=entryFor_of_tree (by kernel_rfl)
def yo (a:Ì):argsOk "set_iterator.__next__" ⟨[a],[]⟩:=by unfold argsOk;kernel_rfl
def Hl:Slot "set_iterator" "__iter__" "set_iterator.__iter__" :=
 .of (owner:="set_iterator") (n:="__iter__") (by rw[typeLookup_type,abw];kernel_rfl) (by decide +kernel) (by decide +kernel) (by decide +kernel)
  (by first|exact .inl (by decide +kernel)|exact .inr (by decide +kernel)) (by rw[isSubtype_type];kernel_rfl)
def jQ (h:Ţ) (I a:â) (first:Ì) (i n ep:Nat):Prop:=∃o,h.get? I=some o/\o.cls=.type "set_iterator"/\o.data=.fields #[first,.int i 0,.ref a,.int n 0,.int ep 0]
section
variable {P:ö} {w:Ć} {A:Đ} {E:Ì->Ç->Prop} {s:Ç}
def JZ {slot i n ep nx:Nat} {es:Array (Int×Ì)} {Q:Option Ì->Ç->Prop} (hit:jQ s.heap I a (.int slot 0) i n ep)
 (hu:s.heap.get? a=some u) (hd:u.data=.set es ep t) (hf:t.fits es.size=true) (hn:es.size=n)
 (hs:∀(A':Đ) (Q':Option (Ì×Nat)->Ç->Prop) (E':Ì->Ç->Prop),Q' (some (x,nx)) s->Ü (í P w) A' (setNext a slot i ep) Q' E' s)
 (hQ:∀h',jQ h' I a (.int nx 0) (i+1) n ep->Ľ I s.heap h'->Q (some x) { s with heap:=h' }):Ü (í P w) A (Š (.ref I)) Q E s:=by
 obtain⟨o,Y,X,Z⟩:=id hit;have W:s.TypeIs (.ref I) "set_iterator":=⟨o,Y,X⟩;unfold Š;refine À (ν (ă (name:=ð "__next__") W kW
  (ÿ kW W yk ?_ (yo _))))
 unfold ő.«set_iterator.__next__» slotArgs;simp only[aab,Ā,Ä,↓reduceIte,bind_assoc,Ę,Ĩ];refine À (Â ?_);refine À (aaI Y Z ?_);dsimp only;refine À (ξ hu hd hf ?_);rw[hn];simp only[Ĩ,Ä,↓reduceIte,ò];refine À (hs _ _ _ ?_);dsimp only;refine À (ũ Y Z (by simp) ?_);refine À (ũ (Ĉ _ Y (Ň (Ē Z _))) (Ē Z _) (by simp) ?_);refine Â ⟨x,rfl,Â (hQ _ ⟨_,Ĉ _ (Ĉ _ Y (Ň (Ē Z _))) (Ň (Ē (Ē Z _) _)),(aav ..).trans ((aav ..).trans X),?_⟩ ((ģ ..).trans (ģ ..)))⟩;rw[Ē (Ē Z _)];simp[Ř]
def PC (hm:m≠0) (h:Q (w.draws src (s.drawn.get src) % m) { s with drawn:=s.drawn.bump src }):Ü (í P w) A (choose src m) Q E s:=fun Y p Z=>by
 unfold choose;rw[Sem.wp_choose];exact⟨hm,h⟩
def Im (hh:A.handled=none) (ho:s.heap.get? I=some o) (fK:o.data=.fields vs) (h2:2<vs.size)
 (hQ:∀h',abf I s.heap h'->Q none { s with heap:=h' }) :
  Ü (í P w) A.in1 (setField (.ref I) 2 .none >>= λ_=>newExc (.type "StopIteration") [] >>= λe=>(raiseNew e:Sem Fin)) (λfin s'=>∃v,fin=Fin.done (Flow.ret v)/\Ü (í P w) A (pure (some v)) Q E s')
   (λe s'=>Ü (í P w) A (isInstance e (ż "StopIteration") >>= λb=>if b=true then pure none else throw e) Q E s') s:=by
 refine À (ũ ho fK h2 ?_);refine À ?_;simp only[newExc,newTuple];refine À (î ?_ (by size_fits))
 refine À (m:=aaF _ _) (ŭ (a:=Value.none) (by first|rfl | (simp only[aaF];rfl)) ?_)
 refine î ?_ (by size_fits);simp only[raiseNew];refine À (wpAny_handled ?_)
 first|rw[show A.in1.handled=none from hh]|rw[hh]
 refine À (Â (wpAny_throw ?_));refine À (aaL (T:="StopIteration") (b:=true) ⟨_,Ð _ rfl,rfl⟩ isSubtype_stop ?_);exact Â (hQ _ (((ģ ..).extBut.push _).push _))
def K2 {slot i n ep:Nat} {es:Array (Int×Ì)} {Q:Option Ì->Ç->Prop} (hh:A.handled=none) (hit:jQ s.heap I a (.int slot 0) i n ep)
 (hu:s.heap.get? a=some u) (hd:u.data=.set es ep t) (hf:t.fits es.size=true) (hn:es.size=n)
 (hs:∀(A':Đ) (Q':Option (Ì×Nat)->Ç->Prop) (E':Ì->Ç->Prop),Q' none s->Ü (í P w) A' (setNext a slot i ep) Q' E' s)
 (hQ:∀h',abf I s.heap h'->Q none { s with heap:=h' }):Ü (í P w) A (Š (.ref I)) Q E s:=by
 obtain⟨o,Z,W,Y⟩:=id hit;have X:s.TypeIs (.ref I) "set_iterator":=⟨o,Z,W⟩;unfold Š;refine À (ν (ă (name:=ð "__next__") X kW
  (ÿ kW X yk ?_ (yo _))))
 unfold ő.«set_iterator.__next__» slotArgs;simp only[aab,Ā,Ä,↓reduceIte,bind_assoc,Ę,Ĩ];refine À (Â ?_);refine À (aaI Z Y ?_);dsimp only;refine À (ξ hu hd hf ?_);rw[hn];simp only[Ĩ,Ä,↓reduceIte,ò];refine À (hs _ _ _ ?_);dsimp only;exact Im hh Z Y (by simp) hQ
def R7 {i n ep pl:Nat} {es:Array (Int×Ì)} {x:Int×Ì} {Q:Option Ì->Ç->Prop} (hit:jQ s.heap I a (.ref tp) i n ep)
 (hu:s.heap.get? a=some u) (hd:u.data=.set es ep t) (hf:t.fits es.size=true) (hn:es.size=n) (FG:s.heap.IsTuple tp places) (dA:places[i]?=some (.int pl tk)) (hx:es[pl]?=some x)
 (hQ:∀h',jQ h' I a (.ref tp) (i+1) n ep->Ľ I s.heap h'->Q (some x.2) { s with heap:=h' }):Ü (í P w) A (Š (.ref I)) Q E s:=by
 obtain⟨o,Z,X,Y⟩:=id hit;obtain⟨op,V,T,np,U⟩:=FG;have W:s.TypeIs (.ref I) "set_iterator":=⟨o,Z,X⟩;unfold Š;refine À (ν (ă (name:=ð "__next__") W kW
  (ÿ kW W yk ?_ (yo _))))
 unfold ő.«set_iterator.__next__» slotArgs;simp only[aab,Ā,Ä,↓reduceIte,bind_assoc,Ę,Ĩ];refine À (Â ?_);refine À (aaI Z Y ?_);dsimp only;refine À (ξ hu hd hf ?_);rw[hn];simp only[Ĩ,Ä,↓reduceIte,ò];refine À (Ğ V U ?_);dsimp only;rw[dA];dsimp only;unfold setNextDrawn;refine À (À (ε hu hd hf ?_));dsimp only;simp only[Ĩ,Ä,↓reduceIte,ò];rw[hx];dsimp only;refine Â ?_;refine À (ũ Z Y (by simp) ?_);refine Â ⟨x.2,rfl,Â (hQ _ ⟨_,Ĉ _ Z (Ň (Ē Y _)),(aav ..).trans X,?_⟩ (ģ ..))⟩;rw[Ē Y];simp[Ř]
def Uu (hh:A.handled=none) (hit:jQ s.heap I a (.ref tp) i n ep)
 (hu:s.heap.get? a=some u) (hd:u.data=.set es ep t) (hf:t.fits es.size=true) (hn:es.size=n) (FG:s.heap.IsTuple tp places) (dA:places[i]?=none)
 (hQ:∀h',abf I s.heap h'->Q none { s with heap:=h' }):Ü (í P w) A (Š (.ref I)) Q E s:=by
 obtain⟨o,Z,W,Y⟩:=id hit;obtain⟨op,V,T,np,U⟩:=FG;have X:s.TypeIs (.ref I) "set_iterator":=⟨o,Z,W⟩;unfold Š;refine À (ν (ă (name:=ð "__next__") X kW
  (ÿ kW X yk ?_ (yo _))))
 unfold ő.«set_iterator.__next__» slotArgs;simp only[aab,Ā,Ä,↓reduceIte,bind_assoc,Ę,Ĩ];refine À (Â ?_);refine À (aaI Z Y ?_);dsimp only;refine À (ξ hu hd hf ?_);rw[hn];simp only[Ĩ,Ä,↓reduceIte,ò];refine À (Ğ V U ?_);dsimp only;rw[dA];dsimp only;refine À (ũ Z Y (by simp) ?_)
 exact Im (s:={ s with heap:=_ }) hh (Ĉ _ Z (Ň (Ē Y _))) (Ē Y _) (by simp) λh' e=>hQ h' (Heap.ExtBut.trans (ģ ..).extBut e)
end
def Oj:entryFor table "set_iterator.__iter__"=some ő.«dict_keyiterator.__iter__»:=entryFor_alias (id':="dict_keyiterator.__iter__") (by kernel_rfl) rfl (by decide +kernel) (by kernel_rfl)
def OC (a:Ì):argsOk "set_iterator.__iter__" ⟨[a],[]⟩:=by unfold argsOk;kernel_rfl
section
variable {P:ö} {w:Ć} {A:Đ} {E:Ì->Ç->Prop} {s:Ç}
def CK (hit:jQ s.heap I a f i n ep) (h:Q (.ref I) s):Ü (í P w) A (acj (.ref I)) Q E s:=by
 obtain⟨o,Y,X,W⟩:=id hit;have Z:s.TypeIs (.ref I) "set_iterator":=⟨o,Y,X⟩;refine wpAny_pyIter_slot Z Hl (ÿ Hl Z Oj ?_ (OC _));show Ü _ _ (ret (.ref I)) _ _ s;exact Â ⟨_,rfl,"set_iterator",_,Z,kW.lookup,h⟩
def jQ.at (x:jQ h I a f i n ep) (k:∀o,h.get? I=some o->h'.get? I=some o):jQ h' I a f i n ep:=by
 obtain⟨o,Z,r⟩:=x;exact⟨o,k o Z,r⟩
def Io (ji:w.params.followText "set-order"=true) (hu:s.heap.get? a=some u) (hd:u.data=.set es ep t) (hf:t.fits es.size=true)
 (h:Q' (((aac (w.params.setOrder a ep) es)[i]?).map λe=>(e.2,slot)) s):Ü (í P w) A (setNext a slot i ep) Q' E s:=by
 unfold setNext;refine À (ε hu hd hf ?_);dsimp only;unfold setsByText;refine À (À (Ő (Â ?_)))
 show Ü _ _ (if w.params.followText "set-order"=true then _ else _) _ _ _
 rw[ß ji];simp only[Ĩ,Ä,↓reduceIte];unfold setWalk;refine À (À (ε hu hd hf ?_));dsimp only;unfold setsByText;refine À (À (Ő (Â ?_)))
 show Ü _ _ (if w.params.followText "set-order"=true then _ else _) _ _ _
 rw[ß ji];refine À (Ő (Â ?_));exact Â h
def sR (hr:lJ xs.toList) (hi:i<=xs.toList.length) (h1:∀k,k<i->xs.toList.getD k 0<slot) (h2:∀k,i<=k->k<xs.toList.length->slot<=xs.toList.getD k 0):ğ xs slot=i:=by
 obtain⟨V,a1,a2⟩:=HI xs slot hr;by_cases Z:ğ xs slot<i
 ·have Y:=a2 _ (acr _) (by omega)
  have X:=h1 _ Z;omega
 ·by_cases W:i<ğ xs slot
  ·have Y:=a1 i W
   have X:=h2 i (acr _) (by omega);omega
  ·omega
def HJ (ji:w.params.followText "set-order"=false) (hu:s.heap.get? a=some u) (hd:u.data=.set es ep t) (hf:t.fits es.size=true)
 (hl:t.led=true) (hp:t.plain=true\/es.size<=1) (hb:ğ t.place slot=i)
 (h:Q' (match es[i]?,t.place[i]? with|some (_,x),some j=>some (x,j+1) | _,_=>none) s):Ü (í P w) A (setNext a slot i ep) Q' E s:=by
 unfold setNext;refine À (ε hu hd hf ?_);dsimp only;unfold setsByText;refine À (À (Ő (Â ?_)))
 show Ü _ _ (if w.params.followText "set-order"=true then _ else _) _ _ _
 rw[æ (by rw[ji];decide)];split
 ·rename_i Y
  have Z:(!t.plain&&decide (es.size > 1))=true:=Y
  rcases hp with hp|hp
  ·rw[hp] at Z;cases Z
  ·simp at Z;omega
 ·refine À ?_
  show Ü _ _ (if (!t.led&&!es.isEmpty)=true then _ else _) _ _ _
  rw[hl];simp only[Ā,aaC,Ä,↓reduceIte];refine Â ?_;rw[hb];exact Â h
def BC (sb:Ľ I s.heap h'):Moved [I] (λa b=>b=a) s { s with heap:=h' }:=⟨λb o Z e=>by rw[sb.2 b (λz=>Z (by simp[z]))];exact e,rfl,rfl,rfl,acr _⟩
def BN (sb:abf I s.heap h'):Moved [I] (λa b=>b=a) s { s with heap:=h' }:=⟨λb o Z e=>sb b o (λz=>Z (by simp[z])) e,rfl,rfl,rfl,acr _⟩
end
def PD (hh:A.handled=none) (gk:a≠I) (ji:w.params.followText "set-order"=true) (hd:u.data=.set es ep t) (hf:t.fits es.size=true) (hsz:(aac (w.params.setOrder a ep) es).size=es.size) :
  WalksS P w A I [I,a] [I] (λa b=>b=a) es.size (λi v=>((aac (w.params.setOrder a ep) es).map (·.2))[i]?=some v) (λi s=>jQ s.heap I a (.int 0 0) i es.size ep/\s.heap.get? a=some u) where
 sub:=λb W=>by simp at W;simp[W]
 grefl:=λ_=>rfl
 gtrans:=λ_ _ _ T S=>S.trans T
 frame:=λi s V L Z _ U=>⟨Z.1.at λo e=>U I (by simp) o e,U a (by simp) _ Z.2⟩
 item:=λi s Q E hi Z Y=>by
  have R:i<(aac (w.params.setOrder a ep) es).size:=by rw[hsz];exact hi
  have ex:(aac (w.params.setOrder a ep) es)[i]?=some (aac (w.params.setOrder a ep) es)[i]:=by simp[R]
  refine JZ (nx:=0) (x:=(aac (w.params.setOrder a ep) es)[i].2) (slot:=0) Z.1 Z.2 hd hf rfl (λO N M q=>Io ji Z.2 hd hf (by rw[ex];exact q)) λV it X=>?_;exact Y _ _ (by simp[ex]) ⟨it,by rw[X.2 a gk];exact Z.2⟩ (BC X)
 done:=λs Q E Z Y=>by
  refine K2 (slot:=0) hh Z.1 Z.2 hd hf rfl (λO N M q=>Io ji Z.2 hd hf (by
   rw[show (aac (w.params.setOrder a ep) es)[es.size]?=none by simp[hsz]];exact q)) λV X=>Y _ (BN X)
 self:=λi s Q E Z Y=>CK Z.1 Y
def OZ (hh:A.handled=none) (gk:a≠I) (ji:w.params.followText "set-order"=false) (hd:u.data=.set es ep t) (hf:t.fits es.size=true) (hl:t.led=true) (hp:t.plain=true\/es.size<=1) (hr:lJ t.place.toList) :
  WalksS P w A I [I,a] [I] (λa b=>b=a) es.size (λi v=>(es.map (·.2))[i]?=some v) (λi s=>∃slot:Nat,jQ s.heap I a (.int slot 0) i es.size ep/\s.heap.get? a=some u/\i<=es.size/\(∀k,k<i->t.place.toList.getD k 0<slot)/\∀k,i<=k->k<t.place.toList.length->slot<=t.place.toList.getD k 0) where
 sub:=λb N=>by simp at N;simp[N]
 grefl:=λ_=>rfl
 gtrans:=λ_ _ _ L K=>K.trans L
 frame:=λi s M B Y _ V=>by
  obtain⟨slot,X,Z,T⟩:=Y;exact⟨slot,X.at λo e=>V I (by simp) o e,V a (by simp) _ Z,T⟩
 item:=λi s Q E hi Y W=>by
  obtain⟨slot,X,Z,T,S,R⟩:=Y;have J:t.place.toList.length=es.size:=by
   simp only[SetTable.fits,Ê,beq_iff_eq,È] at hf;simpa using hf.1
  have O:i<t.place.toList.length:=by omega
  have e1:es[i]?=some es[i]:=by simp[hi]
  have e2:t.place[i]?=some (t.place.toList.getD i 0):=by
   rw[<- Ł,Ë O];simp[δ,Ë O]
  refine JZ (nx:=t.place.toList.getD i 0+1) (x:=es[i].2) (slot:=slot) X Z hd hf rfl (λH G F q=>HJ ji Z hd hf hl hp (sR hr (by omega) S R) (by rw[e1,e2];exact q)) λM it U=>?_;refine W _ _ (by simp[e1]) ⟨_,it,by rw[U.2 a gk];exact Z,hi,λk V=>?_,λk V D=>?_⟩ (BC U)
  ·by_cases C:k=i
   ·rw[C];omega
   ·have:=y0 hr (show k<i by omega) O
    omega
  ·have:=y0 hr (show i<k by omega) D
   omega
 done:=λs Q E Y W=>by
  obtain⟨slot,X,Z,T,S,R⟩:=Y;have J:t.place.toList.length=es.size:=by
   simp only[SetTable.fits,Ê,beq_iff_eq,È] at hf;simpa using hf.1
  refine K2 (slot:=slot) hh X Z hd hf rfl (λH G F q=>HJ ji Z hd hf hl hp (sR hr (by omega) S R) (by
   rw[show es[es.size]?=none by simp];exact q)) λM U=>W _ (BN U)
 self:=λi s Q E Y W=>by
  obtain⟨slot,X,_⟩:=Y;exact CK X W
def O0 (hh:A.handled=none) (gk:a≠I) (ZO:tp≠I) (hd:u.data=.set es ep t) (hf:t.fits es.size=true) (pl:List Nat) (dA:pl.length=es.size) (l8:∀x∈pl,x<es.size) :
  WalksS P w A I [I,a,tp] [I] (λa b=>b=a) es.size (λi v=>(pl.map λk=>(es.getD k (0,Value.none)).2)[i]?=some v) (λi s=>jQ s.heap I a (.ref tp) i es.size ep/\s.heap.get? a=some u/\s.heap.IsTuple tp (pl.map λ(k:Nat)=>Ř k).toArray) where
 sub:=λb U=>by simp at U;simp[U]
 grefl:=λ_=>rfl
 gtrans:=λ_ _ _ R O=>O.trans R
 frame:=λi s T tk Z _ Y=>⟨Z.1.at λo e=>Y I (by simp) o e,Y a (by simp) _ Z.2.1,let ⟨o,V,r⟩:=Z.2.2;⟨o,Y tp (by simp) o V,r⟩⟩
 item:=λi s Q E hi Z X=>by
  have S:i<pl.length:=by omega
  have e1:pl[i]?=some pl[i]:=Ë S;have Y:=l8 _ (ŵ S);refine R7 (pl:=pl[i]) (x:=es.getD pl[i] (0,Value.none)) (tk:=0) Z.1 Z.2.1 hd hf rfl Z.2.2 (by simp[e1,Ř]) (by simp[Y,abd]) λT it W=>?_
  refine X _ _ (by simp[e1]) ⟨it,by rw[W.2 a gk];exact Z.2.1,let ⟨o,V,r⟩:=Z.2.2;⟨o,by rw[W.2 tp ZO];exact V,r⟩⟩ (BC W)
 done:=λs Q E Z X=>Uu hh Z.1 Z.2.1 hd hf rfl Z.2.2 (by simp[dA]) λT W=>X _ (BN W)
 self:=λi s Q E Z X=>CK Z.1 X
noncomputable def eZ (w:Ć):Bool:=!(w.params.followText "set-order")
section
variable {P:ö} {w:Ć} {A:Đ} {E:Ì->Ç->Prop} {s:Ç}
def R8 (a:Ì)
 (hq:Q₁ (.ref s.heap.objs.size) { s with heap:=s.heap.push { cls:=.type "set",dict:=none,data:=.set #[] 0 (.fresh 0 0 (eZ w)) } }) :
  ū (í P w) A (.call (.builtin "set.__new__") ⟨[.type "set",a],[]⟩) (wants Q₁ E) s:=by
 refine aaZ ?_;show Ü _ A.in1 (checkBuiltinCall "set.__new__" ⟨[.type "set",a],[]⟩ >>= λ_=>again (.builtin "set.__new__" ⟨[.type "set",a],[]⟩)) _ _ s;refine À ?_;refine ŭ (F.newCall_set_1 a) ?_;refine Â ⟨Ō F.plain_set_new _,ĸ F.entry_set_new ?_⟩;rw[ħ F.plain_set_new _];unfold ő.«set.__new__» Builtin.Frozenset.newClass;have ss:=sub_set_self;obtain⟨Z,Y,X,W,V⟩:=s;dsimp only
 wp_walk
 refine Ő (Â ?_);dsimp only;simp only[newObj];refine À (wpAny_alloc ?_);exact Â (Â hq)
end
section
variable {P:ö} {w:Ć} {A:Đ} {R:Result->Ç->Prop} {I:â} {fp wr:List â} {G:Array GenState->Array GenState->Prop} {n:Nat} {Pv:Nat->Ì->Prop} {St:Nat->Ç->Prop} {led:Bool}
def R9 (val:Nat->Int) {i n:Nat} (h:i<=n):(Ŧ val i).length<=(Ŧ val n).length:=by
 induction h with
 |refl=>exact acr _
 |step _ ih =>
  refine Û ih ?_;rw[firstMet_succ,step_length]
  split<;>omega
def Sa (W:WalksS P w A.in1 I fp wr G n Pv St) (S:â) (xy:S∉fp)
  (val:Nat->Int) (YY:∀i v,Pv i v->∃t,v=.int (val i) t) (hb:(Ŧ val n).length+1<ω) :
  ∀(k i:Nat) (s:Ç),n-i=k->i<=n->St i s ->
   gy P w led s.heap S (λj=>(Ŧ val i).any (·==j)) (Ŧ val i).length ->
   (∀s',Moved (S::wr) G s s'->gy P w led s'.heap S (λj=>(Ŧ val n).any (·==j)) (Ŧ val n).length->R (.ok (.ret .none)) s') ->
   ū (í P w) A (.builtin "set.update.loop" ⟨[.ref S,.ref I],[]⟩) R s:=by
 have nw:S∉wr:=λz=>xy (W.sub _ z);have sw:∀b∈wr,b∈S::wr:=λb z=>Ï _ z;intro k
 induction k with
 |zero =>
  intro i s U hi Z T Y;obtain rfl:i=n:=by omega
  refine ĸ F.entry_set_update_loop ?_;rw[ħ aa0 _];show Ü _ A.in1 (Š (.ref I) >>= _) _ _ s;refine À (W.done s _ _ Z λs' m=>?_);show Ü _ A.in1 (ret Value.none) _ _ s';exact Â (Y s' (m.mono sw) (T.at λo e=>m.heap S o nw e))
 |succ k ih =>
  intro i s U hi Z T Y;have lt:i<n:=by omega
  refine ĸ F.entry_set_update_loop ?_;rw[ħ aa0 _];show Ü _ A.in1 (Š (.ref I) >>= _) _ _ s;refine À (W.item i s _ _ lt Z λv s' pv Q m=>?_);obtain⟨t,rfl⟩:=YY i v pv;have O:=T.at (h':=s'.heap) λo e=>m.heap S o nw e;show Ü _ A.in1 (aaj [aca (val i) t] (setAdd S (.int (val i) t)) >>= _) _ _ s';refine À (Ė ?_);unfold setAdd;refine Ė ?_;refine À ((ţ P w).pyHash (k:=val i) (intKind_is _ _ _ _) ?_);have room:(Ŧ val i).length+1<ω:=by have:=R9 val hi;omega
  refine JY (s:={ s' with toks:=s'.toks+1 }) O room λh' V N=>?_
  have M:gy P w led h' S (λj=>(Ŧ val (i+1)).any (·==j)) (Ŧ val (i+1)).length:=N.congr (λj=>by rw[firstMet_succ,step_any]) (by rw[firstMet_succ,step_length]);refine Â ⟨Ō aa0 _,ih (i+1) _ (by omega) lt (W.frame _ s' _ _ Q (Ů _) λb X o e=>?_) M λL K J=>?_⟩
  ·rw[V.2 b λz:b=S=>xy (z ▸ X)];exact e
  ·refine Y L (Moved.trans W.gtrans ((m.mono sw).then_heap (Ů _) λb o X e=>?_) K) J
   rw[V.2 b λz:b=S=>X (by rw[z];exact Î)];exact e
end
section
variable {P:ö} {w:Ć} {A:Đ} {E:Ì->Ç->Prop} {s:Ç}
def PH   
 (hh:A.handled=none) (hl:s.heap.IsList l its) (hi:abb its.toList ns) (hb:(Ŧ (λi=>ns.getD i 0) its.size).length+1<ω)
 (h:∀(h':Ţ) (tk:Nat),gy P w (eZ w) h' s.heap.objs.size (λk'=>(Ŧ (λi=>ns.getD i 0) its.size).any (·==k')) (Ŧ (λi=>ns.getD i 0) its.size).length ->
 (∀b o,b<s.heap.objs.size->s.heap.get? b=some o->h'.get? b=some o)->Q (.ref s.heap.objs.size) { s with heap:=h',toks:=tk }) :
  Ü (í P w) A (call (.type "set") [.ref l]) Q E s:=by
 obtain⟨c,tl,ur⟩:=aap.mro;have um:=aap.made;have ub:=aap.sub;refine wpAny_call (aaZ ?_);show Ü _ _ (callAny (.type "set") _) _ _ _;refine Â ⟨Code.quiet_builtin _ (by decide +kernel),ĸ F.entry_type_call ?_⟩;rw[Around.under_plain (weight_type_call_type "set" [.ref l] []) rfl];have h1:=aap.notType;have h2:=aap.canCreate;have M:=F.typeCall_set_1 (.ref l)
 repeat (any_goals (first|assumption|wp_step))
 refine Ÿ (R8 (.ref l) (E:=E) (Q₁:=λobj V=>obj=.ref s.heap.objs.size/\V={ s with heap:=s.heap.push { cls:=.type "set",dict:=none,data:=.set #[] 0 (.fresh 0 0 (eZ w)) } }) ⟨rfl,rfl⟩) λr V Y=>?_
 cases r with
 |error e=>exact Y
 |ok L =>
  cases L with
  |ret obj =>
   obtain⟨rfl,rfl⟩:=Y;have v:(s.heap.push { cls:=.type "set",dict:=none,data:=.set #[] 0 (.fresh 0 0 (eZ w)) }).get? s.heap.objs.size=some { cls:=.type "set",dict:=none,data:=.set #[] 0 (.fresh 0 0 (eZ w)) }:=Ð _ rfl
   have K:Shared.TypeIs { s with heap:=s.heap.push { cls:=.type "set",dict:=none,data:=.set #[] 0 (.fresh 0 0 (eZ w)) } } (.ref s.heap.objs.size) "set":=⟨_,v,rfl⟩
   have vl:=aap.init.lookup;have vb:=aap.init.bind (.ref s.heap.objs.size)
   repeat (any_goals (first|assumption|wp_step))
   refine Ÿ (codeAny_call_builtin (R:=wants (λr U=>r=.none/\∃h' tk,U={ s with heap:=h',toks:=tk } /\
     gy P w (eZ w) h' s.heap.objs.size (λk'=>(Ŧ (λi=>ns.getD i 0) its.size).any (·==k')) (Ŧ (λi=>ns.getD i 0) its.size).length /\
     (∀b o,b<s.heap.objs.size->s.heap.get? b=some o->h'.get? b=some o)) E) aap.init.plain F.entry_set_init (check_set_init_1 K ?_)) λJ U X=>?_
   ·obtain⟨ol,T,S,nn,O⟩:=hl
    obtain⟨oc,I,oa,H⟩:=ol;simp only at S O;subst S;subst O;have G:(s.heap.push { cls:=.type "set",dict:=none,data:=.set #[] 0 (.fresh 0 0 (eZ w)) }).get? l=some { cls:=.type "list",dict:=I,data:=.seq its nn,slots:=H }:=Á _ T;have u1:=F.sub_list_set;have u2:=F.sub_list_frozenset;have gk:(ż "list"==ż "dict")=false:=by decide
    have ul:(s.heap.push { cls:=.type "set",dict:=none,data:=.set #[] 0 (.fresh 0 0 (eZ w)) }).IsList l its:=⟨_,G,rfl,nn,rfl⟩;unfold ő.«set.__init__» noKeywords Builtin.Frozenset.updateFrom;generalize D:acj=PI
    wp_walk
    subst D;refine Ž ul ?_;refine À (wpAny_runValue ?_);have N:l<s.heap.objs.size:=Ò T;have C:A.in1.in1.in1.handled=none:=by simp[hh]
    have B:l≠(s.heap.push { cls:=.type "set",dict:=none,data:=.set #[] 0 (.fresh 0 0 (eZ w)) }).objs.size:=by
     rw[đ];exact ë (ĩ N)
    have z:s.heap.objs.size∉[(s.heap.push { cls:=.type "set",dict:=none,data:=.set #[] 0 (.fresh 0 0 (eZ w)) }).objs.size,l]:=by
     rw[đ];simp only[Ó,å,Ĝ,or_false,not_or];exact⟨ë (aad _),Ŝ N⟩
    have y:∀(i:Nat) (v:Ì),its[i]?=some v->∃t,v=.int ((λi=>ns.getD i 0) i) t:=λi v x =>
     IntsAre.int_at hi i v (by rw[Ł];exact x)
    refine Sa (led:=eZ w) ((Walks.list C _ l B its).toS) s.heap.objs.size
     z (λi=>ns.getD i 0) y hb (its.size-0) 0 _ (by omega) (ē _)
     ⟨⟨_,Ð _ rfl,rfl,rfl⟩,(ul.push _)⟩ ?v0 ?vR
    case v0 =>
     have u:((s.heap.push { cls:=.type "set",dict:=none,data:=.set #[] 0 (.fresh 0 0 (eZ w)) }).push { cls:=.type "list_iterator",data:=.fields #[.ref l,.int 0 0] }).get? s.heap.objs.size
       = some { cls:=.type "set",dict:=none,data:=.set #[] 0 (.fresh 0 0 (eZ w)) }:=Á _ v
     exact⟨_,#[],0,_,u,⟨rfl,rfl,rfl⟩,rfl,λe q=>by simp at q,λk=>by simp[firstMet_zero],by unfold ω;simp,by rfl,rfl,Il _⟩
    case vR =>
     intro p Z W;obtain⟨h',n,m,j,g⟩:=p;have f:n=s.gens:=Z.gens;have d:m=s.drawn:=Z.drawn;have a:g=s.os:=Z.os;subst f;subst d;subst a;show Ü _ _ _ _ _ _;refine Â ?_;show Ü _ _ (ret Value.none) _ _ _;refine Â ⟨rfl,h',j,rfl,W,λb o hb e=>?_⟩;have v1:b≠s.heap.objs.size:=ë hb;have v2:b≠(s.heap.push { cls:=.type "set",dict:=none,data:=.set #[] 0 (.fresh 0 0 (eZ w)) }).objs.size:=by
      rw[đ];exact ë (ĩ hb)
     exact Z.heap b o (by simp only[Ó,å,Ĝ,or_false,not_or];exact⟨v1,v2⟩) (Á _ (Á _ e))
   ·cases J with
    |error e=>exact X
    |ok XH =>
     cases XH with
     |ret r =>
      obtain⟨rfl,h',tk,rfl,W,vk⟩:=X
      repeat (any_goals (first|assumption|wp_step))
      exact h _ _ W vk
     |_=>exact X.elim
  |_=>exact Y.elim
end
theorem BD {α:Type}:∀{l:List α} {i:Nat} {x:α},l[i]?=some x->(x::l.eraseIdx i).Perm l
 | [],i,x,h=>by simp at h
 |y::l,0,x,h=>by
  have:y=x:=by simpa using h
  subst this;exact List.Perm.refl _
 |y::l,i+1,x,h=>by
  have ih:=BD (l:=l) (i:=i) (x:=x) (by simpa using h);rw[List.eraseIdx_cons_succ];exact(List.Perm.swap y x _).trans (List.Perm.cons y ih)
theorem J0 {α:Type} (next:Nat->Nat):∀(fuel k:Nat) (left:List α) (out:Array α),left.length=fuel->(pickOrder.go next fuel k left out).toList.Perm (out.toList++left)
 |0,k,left,out,h=>by
  have:left=[]:=aa1.mp h;subst this;unfold pickOrder.go;simp
 |fuel+1,k,left,out,h=>by
  unfold pickOrder.go
  have Z:next k % left.length<left.length:=Nat.mod_lt _ (by omega)
  rw[Ë Z];dsimp only;have Y:=BD (Ë Z)
  have ih:=J0 next fuel (k+1) (left.eraseIdx (next k % left.length)) (out.push left[next k % left.length]) (by rw[List.length_eraseIdx_of_lt Z];omega)
  refine ih.trans ?_;rw[abh,ę];exact List.Perm.append_left _ Y
def Ip {α:Type} (next:Nat->Nat) (xs:Array α):(aac next xs).toList.Perm xs.toList:=by
 unfold aac
 have:=J0 next xs.size 0 xs.toList #[] (by simp)
 simpa using this
section
variable {P:ö} {w:Ć} {A:Đ} {E:Ì->Ç->Prop}
def PJ {α:Type} (n:Nat):∀(xs:List α) (s:Ç) (Q:List α->Ç->Prop),xs.length=n->(∀ys d,ys.Perm xs->Q ys { s with drawn:=d })->Ü (í P w) A (drawOrder n xs) Q E s:=by
 induction n with
 |zero =>
  intro xs s Q h Z;have:xs=[]:=aa1.mp h;subst this;unfold drawOrder;exact Â (Z [] s.drawn (List.Perm.refl _))
 |succ n ih =>
  intro xs s Q h Z
  cases xs with
  |nil=>simp at h
  |cons x xs =>
   unfold drawOrder;refine À (PC (by simp) ?_);have Y:w.draws .order (s.drawn.get .order) % (x::xs).length<(x::xs).length:=Nat.mod_lt _ (by simp);rw[Ë Y];dsimp only;refine À (ih _ _ _ (by rw[List.length_eraseIdx_of_lt Y];omega) λys d X=>?_);refine Â (Z _ d ?_);exact(List.Perm.cons _ X).trans (BD (Ë Y))
def Sb {s:Ç} {a:â} {u:Obj} {es:Array (Int×Ì)} {ep:Nat} {t:SetTable} {Q:Ì->Ç->Prop} (hu:s.heap.get? a=some u) (hx:u.ExactSet) (hd:u.data=.set es ep t) (hf:t.fits es.size=true) (ht:jz (eZ w) t)
  (hsz:es.size<=Õ)
  (hQ:∀(h':Ţ) (d':Drawn) (I:â) (fp:List â) (St:Nat->Ç->Prop) (order:List Ì),(∀b o,s.heap.get? b=some o->h'.get? b=some o)->(∀b∈fp,b<h'.objs.size)->(∀b∈fp,b=a\/s.heap.objs.size<=b)->I∈fp->s.heap.objs.size<=I->order.Perm (es.toList.map (·.2)) ->
   (∀A':Đ,A'.handled=none->WalksS P w A' I fp [I] (λa b=>b=a) es.size (λi v=>order[i]?=some v) St)->St 0 { s with heap:=h',drawn:=d' }->Q (.ref I) { s with heap:=h',drawn:=d' }) :
  Ü (í P w) A (acj (.ref a)) Q E s:=by
 have O:s.TypeIs (.ref a) "set":=⟨u,hu,hx.1⟩;have X:a<s.heap.objs.size:=Ò hu;refine wpAny_pyIter_slot O F.slot_set_iter (ÿ F.slot_set_iter O Oa ?_ (F.args_set_iter_1 _));unfold ő.«frozenset.__iter__» Builtin.Frozenset.slot0 slotArgs;simp only[aab,Ā,Ä,↓reduceIte,bind_assoc,Ę,Ĩ];unfold acf Builtin.Frozenset.sizeOf;refine À (Â ?_)
 try dsimp only
 refine À (Â ?_);refine À (À (ξ hu hd hf (Â ?_)));unfold setDrawn;refine À (À (ε hu hd hf ?_));dsimp only;unfold setsByText;refine À (À (Ő (Â ?_)));refine Â ?_
 show Ü _ _ (if (!(w.params.followText "set-order")&&(!t.plain&&decide (es.size > 1)))=true then _ else _) _ _ _
 have H:∀(W:Obj) b o,s.heap.get? b=some o->(s.heap.push W).get? b=some o:=λW b o e=>Á _ e;by_cases V:(!w.params.followText "set-order"&&(!t.plain&&decide (es.size > 1)))=true
 ·rw[ß V]
  refine À (PJ _ _ _ _ (by simp) λU d hp=>?_);refine À ?_;simp only[newTuple];refine î ?_ (by have:=hp.length_eq;rw[İ] at this;show (abv _).size<=Õ;rw[Ô,Ã,this];exact hsz);have M:∀x∈U,x<es.size:=λx hx=>by simpa using hp.mem_iff.mp hx
  have R:U.length=es.size:=by simpa using hp.length_eq
  refine À (wpAny_setEpoch_of (Á _ hu) hd hf ?_);refine À (î ?_);refine Â ⟨_,rfl,"set_iterator",_,⟨_,Ð _ rfl,rfl⟩,kW.lookup,?_⟩;have Y:(s.heap.push { cls:=.type "tuple",data:=.seq (U.map λ(i:Nat)=>Ř i).toArray }).objs.size=s.heap.objs.size+1:=by simp[đ]
  refine hQ _ d _ [_,a,s.heap.objs.size] _ (U.map λk=>(es.getD k (0,Value.none)).2) (λb o e=>Á _ (Á _ e)) ?_ ?_ (by simp) (by rw[Y];exact Ů _) ?_ (λA' T=>O0 (u:=u) (t:=t) (ep:=ep) T (I:=_) (a:=a) (tp:=s.heap.objs.size) (by rw[Y];exact ë (ĩ X)) (by rw[Y];exact ë (aad _)) hd hf U R M) ⟨⟨_,Ð _ rfl,rfl,rfl⟩,Á _ (Á _ hu),⟨_,Á _ (Ð _ rfl),rfl,_,rfl⟩⟩
  ·intro b Z
   simp only[Ó,Ĝ,or_false] at Z;rw[đ]
   rcases Z with e|e|e
   ·rw[e];exact aad _
   ·rw[e,Y];exact ĩ (ĩ X)
   ·rw[e,Y];exact ĩ (aad _)
  ·intro b Z
   simp only[Ó,Ĝ,or_false] at Z
   rcases Z with e|e|e
   ·right;rw[e,Y];exact Ů _
   ·exact .inl e
   ·right;rw[e];exact acr _
  ·refine(List.Perm.map _ hp).trans ?_
   have:(Ø es.size).map (λk=>(es.getD k (0,Value.none)).2)=es.toList.map (·.2):=by
    apply Ŗ;intro i;rw[á,á];by_cases hi:i<es.size
    ·rw[č hi,Ł]
     simp[abd,hi]
    ·rw[ú (by simpa using hi),ú (by simpa using hi)]
     rfl
   rw[this]
 ·rw[æ V]
  refine À (Â ?_);refine À (wpAny_setEpoch_of hu hd hf ?_);refine À (î ?_);refine Â ⟨_,rfl,"set_iterator",_,⟨_,Ð _ rfl,rfl⟩,kW.lookup,?_⟩;have ao:∀(W:Obj),∀b∈[s.heap.objs.size,a],b<(s.heap.push W).objs.size:=λW b Z=>by
   simp only[Ó,Ĝ,or_false] at Z;rw[đ]
   rcases Z with e|e
   ·rw[e];exact aad _
   ·rw[e];exact ĩ X
  have N:∀b∈[s.heap.objs.size,a],b=a\/s.heap.objs.size<=b:=λb Z=>by
   simp only[Ó,Ĝ,or_false] at Z
   rcases Z with e|e
   ·right;rw[e];exact acr _
   ·exact .inl e
  cases S:w.params.followText "set-order" with
  |true =>
   have L:(aac (w.params.setOrder a ep) es).size=es.size:=by
    have:=(Ip (w.params.setOrder a ep) es).length_eq;simpa using this
   have hw:∀A':Đ,A'.handled=none->WalksS P w A' s.heap.objs.size [s.heap.objs.size,a] [s.heap.objs.size] (λa b=>b=a) es.size (λi v=>((aac (w.params.setOrder a ep) es).toList.map (·.2))[i]?=some v) _:=λA' T=>by
    have:=PD (P:=P) (u:=u) (t:=t) T (I:=s.heap.objs.size) (a:=a) (ë X) S hd hf L;simpa using this
   exact hQ _ s.drawn _ [_,a] _ ((aac (w.params.setOrder a ep) es).toList.map (·.2)) (λb o e=>Á _ e) (ao _) N (by simp) (acr _) (List.Perm.map _ (Ip _ _)) hw ⟨⟨_,Ð _ rfl,rfl,rfl⟩,Á _ hu⟩
  |false =>
   have hp:t.plain=true\/es.size<=1:=by
    rw[S] at V;simp at V
    cases K:t.plain with
    |true=>exact .inl rfl
    |false=>exact .inr (V K)
   have R:t.led=true:=by rw[ht.led];unfold eZ;rw[S];rfl
   have J:lJ t.place.toList:=by
    rcases hp with hp|hp
    ·exact ht.rise hp
    ·simp only[SetTable.fits,Ê,beq_iff_eq,È] at hf
     have hle:t.place.toList.length<=1:=by simp[hf.1];exact hp
     match t.place.toList,hle with
     | [],_=>exact List.Pairwise.nil
     | [x],_=>exact aa2 _ _
   have hw:∀A':Đ,A'.handled=none->WalksS P w A' s.heap.objs.size [s.heap.objs.size,a] [s.heap.objs.size] (λa b=>b=a) es.size (λi v=>(es.toList.map (·.2))[i]?=some v) _:=λA' T=>by
    have:=OZ (P:=P) (u:=u) (t:=t) (ep:=ep) T (I:=s.heap.objs.size) (a:=a) (ë X) S hd hf R hp J;simpa using this
   exact hQ _ s.drawn _ [_,a] _ (es.toList.map (·.2)) (λb o e=>Á _ e) (ao _) N (by simp) (acr _) (List.Perm.refl _) hw ⟨0,⟨_,Ð _ rfl,rfl,rfl⟩,Á _ hu,ē _,λk G=>by omega,λk _ _=>ē _⟩
end
section
variable {P:ö} {w:Ć} {A:Đ} {E:Ì->Ç->Prop} {s:Ç}
def split_len:splitId "set.__len__"=some ("set","__len__"):=by decide +kernel
def ints_of (h:ElemsOf (ţ P w) es) (hp:vs.Perm (es.map (·.2))):∃ns,abb vs ns:=by
 have Z:∀v∈vs,∃k t,v=.int k t:=λv Z=>by
  obtain⟨e,W,rfl⟩:=ó.mp (hp.mem_iff.mp Z);obtain⟨⟨k,X,_⟩,_⟩:=h e W
  cases Y:e.2 with
  |int i t=>exact⟨i,t,rfl⟩
  |_=>rw[Y] at X;simp[ţ,Value.isInt] at X
 clear hp
 induction vs with
 |nil=>exact⟨[],.nil⟩
 |cons v vs ih =>
  obtain⟨k,t,rfl⟩:=Z v Î;obtain⟨ns,V⟩:=ih λx Y=>Z x (Ï _ Y);exact⟨k::ns,.cons k t V⟩
def K3 {α:Type} {c:Bool} {x y:Sem α} {Q:α->Ç->Prop} (hc:c=true) (h:Ü (í P w) A x Q E s):Ü (í P w) A (if c=true then x else y) Q E s:=by
 rw[ß hc];exact h
def O1 {a:â} {u:Obj} {es:Array (Int×Ì)} {ep:Nat} {t:SetTable} {Q:List Ì->Ç->Prop} (hh:A.handled=none) (hu:s.heap.get? a=some u) (hx:u.ExactSet) (hd:u.data=.set es ep t) (hf:t.fits es.size=true) (ht:jz (eZ w) t) (hsz:es.size<ω)
  (hQ:∀(h':Ţ) (d':Drawn) (tk:Nat) (vs:List Ì),s.heap.objs.size<=h'.objs.size->(∀b o,s.heap.get? b=some o->h'.get? b=some o)->vs.Perm (es.toList.map (·.2))->Q vs { s with heap:=h',drawn:=d',toks:=tk }):Ü (í P w) A (collect (.ref a)) Q E s:=by
 have O:es.size<=Õ:=aaw hsz;have N:a<s.heap.objs.size:=Ò hu;unfold collect;refine À (wpAny_runValue (ĸ F.entry_proto_collect ?_));rw[ħ F.plain_proto_collect _];show Ü _ A.in1 (newList [] >>= λl=>again (.builtin "list.__iadd__" ⟨[l,.ref a],[]⟩)) _ _ s;refine À (î ?_);refine Â ⟨Ō F.plain_list_iadd _,ĸ F.entry_list_iadd ?_⟩;rw[ħ F.plain_list_iadd _];show Ü _ A.in1 (abS (.ref s.heap.objs.size) (.ref a) (.ref s.heap.objs.size)) _ _ _
 generalize U:({ s with heap:=s.heap.push { cls:=.type "list",data:=.seq ([]:List Ì).toArray } }:Ç)=Y
 have M:Y.heap.objs.size=s.heap.objs.size+1:=by rw[<- U];simp[đ]
 have r:∀b o,s.heap.get? b=some o->Y.heap.get? b=some o:=λb o e=>by rw[<- U];exact Á _ e
 have T:Y.heap.get? a=some u:=by rw[<- U];exact Á _ hu
 have p:Y.TypeIs (.ref a) "set":=⟨u,T,hx.1⟩;have n:Y.heap.get? s.heap.objs.size=some { cls:=.type "list",data:=.seq ([]:List Ì).toArray }:=by rw[<- U];exact Ð _ rfl
 unfold abS;refine À (aaS p ?_);have k:Builtin.List.listSameRef (.ref s.heap.objs.size) (.ref a)=false:=by
  simp[Builtin.List.listSameRef];exact Ŝ N
 have i:(ż "set"==ż "list")=false:=by decide
 have h:(ż "set"==ż "tuple")=false:=by decide
 simp only[k,i,h,Bool.or_false,Ä,ê];refine À (Sb T hx hd hf ht O λh' d' I g St order S k2 f k3 L K W d=>?_)
 have R:Shared.TypeIs { Y with heap:=h',drawn:=d' } (.ref a) "set":=⟨u,S _ _ T,hx.1⟩
 have J:=S _ _ n;refine À (Ė ?_);unfold Builtin.List.listLengthHint;refine À (abT R F.slot_set_len.lookup ?_);dsimp only;rw[split_len];dsimp only;refine À (aaL R sub_set_self ?_);rw[æ (by decide)];refine K3 (by decide +kernel) ?_;refine À (aaS R ?_);dsimp only;refine Â ?_;refine K3 (by decide +kernel) ?_
 ··refine À (Ŕ ?_)
   refine À ?_;show Ü _ A.in1 (updateSeq s.heap.objs.size (·.push .none) >>= λ_=>updateSeq s.heap.objs.size (·.pop)) _ _ _;refine À (ů J rfl ?_);have H:=Ĉ (į (·.push Value.none)) J rfl;refine ů H rfl ?_;have ZU:=Ĉ (į (·.pop)) H rfl;have G:s.heap.objs.size∉g:=λhm=>by
    rcases f _ hm with e|e
    ·exact Ŝ N e
    ·rw[M] at e;exact Nat.not_succ_le_self _ e
   have D:∀b o,b≠s.heap.objs.size->h'.get? b=some o->((h'.update s.heap.objs.size (į (·.push Value.none))).update s.heap.objs.size (į (·.pop))).get? b=some o :=
    λb o X e=>(ā _ _ (œ X)).trans ((ā _ _ (œ X)).trans e)
   refine Â ⟨Ō F.plain_extend_loop _,codeAny_extend_loopS (W A.in1 (by simp[hh])) O _ G _ es.size 0 _ _ _ rfl (ē _) ((W A.in1 (by simp[hh])).frame 0 ({ Y with heap:=h',drawn:=d' }:Ç) _ Y.toks d (acr _) λb X o e=>D b o (λz=>G (z ▸ X)) e) ZU (ItemsOf.nil _) λC Z c m B y=>?_⟩
   show Ü _ A (load s.heap.objs.size >>= _) _ _ C;refine À (wpAny_load B ?_);refine Â ?_;have ZV:order.length=es.size:=by simpa using K.length_eq
   have Y0:Z.toList=order:=by
    apply Ŗ;intro j;by_cases x:j<Z.size
    ·have e1:Z[j]?=some Z[j]:=by simp[x]
     rw[Ł,e1,y.2 j _ e1]
    ·rw[ú (by simpa using x),ú (by rw[ZV,<- y.1];omega)]
   obtain⟨h2,g2,v,t2,o2⟩:=C;have eg:g2=Y.gens:=m.gens;have ed:v=d':=m.drawn;have eo:o2=Y.os:=m.os;subst eg ed eo;have q:=hQ h2 v t2 Z.toList (Nat.le_of_lt (Ò B)) (λb o e=>m.heap b o (λX=>by
    simp only[Ó,Ĝ,or_false] at X;have V:=Ò e
    rcases X with z|z
    ·rw[z] at V;exact ì _ V
    ·rw[M] at L;rw[z] at V;exact ì _ (É V (Nat.le_of_succ_le L))) (D b o (λz=>by
     have V:=Ò e;rw[z] at V;exact ì _ V) (S b o (r b o e)))) (by rw[Y0];exact K)
   rw[<- U];exact q
end
section
variable {P:ö} {w:Ć} {A:Đ} {E:Ì->Ç->Prop} {s:Ç}
def PL (hh:A.handled=none) (hu:s.heap.get? a=some u) (hx:u.ExactSet) (hd:u.data=.set es ep t) (hf:t.fits es.size=true) (ht:jz (eZ w) t) (FL:ElemsOf (ţ P w) es.toList) (h64:es.size<64)
 (h:∀(h':Ţ) (d':Drawn) (tk:Nat) (p:â) (vs:List Ì) (ns:List Int) (out:List Ì) (ms:List Int) (e:Nat),(∀b o,s.heap.get? b=some o->h'.get? b=some o)->s.heap.objs.size<=p->vs.Perm (es.toList.map (·.2))->abb vs ns->h'.get? p=some { cls:=.type "list",data:=.seq out.toArray e }->abb out ms->ms.Perm ns->ms.Pairwise (·<=·)->Q (.ref p) { s with heap:=h',drawn:=d',toks:=tk }) :
  Ü (í P w) A (call (.builtin "sorted") [.ref a]) Q E s:=by
 refine Calls.call_function_entry kind_sorted plain_sorted entry_sorted (args_sorted1 _) ?_;unfold ő.«sorted»;refine À (m:=checkCount "sorted" 1 1 _) (Â ?_);refine À (O1 (by simp[hh]) hu hx hd hf ht (by unfold ω;omega) λh' d' tk vs U T Z=>?_);obtain⟨ns,X⟩:=ints_of FL Z;have S:vs.length<64:=by have:=Z.length_eq;simp at this;omega
 refine À (abI ?_);have Y:(h'.push (ab5 "list" vs.toArray 0)).get? h'.objs.size=some (ab5 "list" vs.toArray 0):=Ð _ rfl;refine À (Ė (ÿ slot_list_sort ⟨_,Y,rfl⟩ entry_list_sort (list_sort_tree Y X S λout ms a1 a2 R=>⟨_,rfl,?_⟩) (args_list_sort _)));obtain⟨e,O⟩:=sortedHeap_at (out:=out) Y;refine Â ⟨_,rfl,h _ d' tk h'.objs.size vs ns out.toList ms e (λb o N=>?_) ?_ Z X (by simpa [ab5] using O) a1 a2 R⟩
 ·have W:=T b o N
  have V:=Ò W;rw[sortedHeap_old (ë V) (by rw[size_push'];exact ĩ V)];exact Á _ W
 ·exact U
end
end TS
namespace L2
open PySem PySem.Spec PyProof.Rows
def cR (P:ö) (w:Ć) (p:â) (ns:List Int):Ţ->Prop:=λh=>∃(S:Int->Bool) (n:Nat),TS.gy P w (TS.eZ w) h p S n/\(∀k,S k=true↔k∈ns)/\n<=ns.length/\n=(ns.foldl Ŷ []).length
section
variable {X:Cx}
def kZ (l:List Int) (k:Int):(l.any (·==k))=true↔k∈l:=by
 rw[ŏ];exact⟨λ⟨x,Z,Y⟩=>by rw[<- beq_iff_eq.mp Y];exact Z,λh=>⟨k,h,by simp⟩⟩
def Uv (hm:m=ns.length) (hS:TS.gy X.prog X.w (TS.eZ X.w) h p (λk'=>(Ŧ (λi=>ns.getD i 0) m).any (·==k')) (Ŧ (λi=>ns.getD i 0) m).length):cR X.prog X.w p ns h:=by
 subst hm;refine⟨_,_,hS,λk=>?_,firstMet_length_le _ _,?_⟩
 ·rw[firstMet_any,map_getD]
  exact kZ ns k
 ·unfold Ŧ
  rw[map_getD]
def Uw (hx:cR X.prog X.w p ns h):dX X.prog X.w (upd H p (.ext (cR X.prog X.w p ns))) h p (.ext (cR X.prog X.w p ns)):=by
 refine⟨hx,?_,λY W q k=>?_⟩
 ·obtain⟨_,_,⟨o,_,_,_,Z,_⟩,_⟩:=hx
  exact⟨o,Z⟩
 ·obtain⟨S,n,T,r⟩:=q
  exact⟨S,n,T.at k,r⟩
def PM (hc:X.calm=true):cB X (.type "set") (λxs H Q=>∃(a:â) (ns:List Int),xs=[.ref a]/\bq X.K H a (ns.map V.int)/\(ns.foldl Ŷ []).length<4000/\∀p,H p=none->Q (.ref p) (upd H p (.ext (cR X.prog X.w p ns)))):=by
 intro P s σ H xs O Q I r h;obtain⟨a,ns,rfl,W,N,q⟩:=h;obtain⟨u,rfl,U⟩:=vals1 r;cases U;obtain⟨its,Z,p,_⟩:=I.list W;have Y:its.toArray.size=ns.length:=by
  have e:=Z.length;rw[Ã] at e;simpa using e.symm
 refine TS.PH (its:=its.toArray) (ns:=ns) (I.ok.hd hc) p.isList (by simpa using intsAre_of Z) (by rw[Y];unfold Ŧ;rw[map_getD];show _ + 1<4096;omega) λM T S R=>?_;exact⟨.ref _,_,I.laid (t':=T) (λb o e=>R b o (Ò e) e) (acr _) (Uw (Uv Y S)),rfl,q _ (I.aH.fresh (acr _))⟩
theorem Hm:∀{out:List Ì} {ms:List Int},abb out ms->Vals (ms.map V.int) out
 |_,_,.nil=>.nil
 |_,_,.cons n t h=>.cons ⟨t,rfl⟩ (Hm h)
theorem ve:∀(ns acc:List Int),acc.Nodup->(ns.foldl Ŷ acc).Nodup
 | [],acc,h=>h
 |n::ns,acc,h=>by
  refine ve ns _ ?_;unfold Ŷ;split
  ·exact h
  ·rename_i Z
   rw[aaa] at Z;refine aax.mpr ⟨h,by simp,λa Y b X=>?_⟩;have:b=n:=by simpa using X
   subst this;intro e;subst e;rw[(kZ acc a).mpr Y] at Z;cases Z
theorem IZ:∀{vs:List Ì} {ns:List Int},abb vs ns->∀k,k∈ns↔∃t,aca k t∈vs
 |_,_,.nil,k=>by simp
 |_,_,.cons n t h,k=>by
  rw[Ó,IZ h k];constructor
  ·rintro (e | ⟨Z,h'⟩)
   ·subst e;exact⟨t,Î⟩
   ·exact⟨Z,Ï _ h'⟩
  ·rintro ⟨Z,h'⟩
   rcases Ó.mp h' with e|h'
   ·injection e with e _;exact .inl e
   ·exact .inr ⟨Z,h'⟩
theorem sub_len:∀{m l:List Int},m.Nodup->(∀k,k∈m->k∈l)->m.length<=l.length
 | [],l,_,_=>ē _
 |x::m,l,h,Z=>by
  obtain⟨W,V⟩:=aam.mp h;have Y:=Z x Î;have ih:=sub_len (m:=m) (l:=l.erase x) V λk X=>(List.mem_erase_of_ne (λ(e:k=x)=>W (by rw[<- e];exact X))).mpr (Z k (Ï _ X));rw[List.length_erase_of_mem Y] at ih;have:=List.length_pos_of_mem Y;rw[ù];omega
theorem Hn:∀{l m:List Int},m.Nodup->(∀k,k∈m↔k∈l)->l.length<=m.length->l.Nodup
 | [],m,_,_,_=>aae
 |a::r,m,Z,Y,X=>by
  have W:a∉r:=λh=>by
   have:=sub_len Z λk V=>(Ó.mp ((Y k).mp V)).elim (λe=>e ▸ h) id;rw[ù] at X;omega
  have U:a∈m:=(Y a).mpr Î;refine aam.mpr ⟨W,Hn (m:=m.erase a) (Z.erase a) (λk=>?_) ?_⟩
  ·rw[Z.mem_erase_iff,Y k,Ó]
   constructor
   ·rintro ⟨T,h2|h2⟩
    ·exact absurd h2 T
    ·exact h2
   ·intro h
    exact⟨λe=>W (e ▸ h),.inr h⟩
  ·rw[List.length_erase_of_mem U]
   rw[ù] at X;omega
def vo (ns:List Int) (k:Int):k∈ns.foldl Ŷ []↔k∈ns:=by
 have:=firstMet_any (λi=>ns.getD i 0) ns.length k;unfold Ŧ at this;rw[map_getD] at this;rw[<- kZ,<- kZ,this]
def Ho (hc:X.calm=true):cB X (.builtin "sorted") (λxs H Q=>∃(p:â) (ns:List Int),xs=[.ref p]/\H p=some (.ext (cR X.prog X.w p ns))/\(ns.foldl Ŷ []).length<64 /\
  ∀(l:â) (ms:List Int),H l=none->ms.Pairwise (· < ·)->(∀k,k∈ms↔k∈ns)->Q (.ref l) (upd H l (.lst (ms.map V.int)))):=by
 intro π s σ H xs us Q I r h;obtain⟨p,ns,rfl,K,hl,q⟩:=h;obtain⟨v,rfl,G⟩:=vals1 r;cases G;obtain⟨⟨S,n,⟨u,es,ep,t,F,E,hd,D,C,P,B,A,z⟩,y,FN,m⟩,_⟩:=I.aH p _ K;refine TS.PL (I.ok.hd hc) F E hd B z D (by omega) λj g O l vs ks out ms e f N Y W d c U k8=>?_;have M:∀k,k∈ms↔k∈ns:=λk=>by
  rw[U.mem_iff,IZ W k,<- y k,C k];constructor
  ·rintro ⟨t',ZX⟩
   obtain⟨x,T,Z⟩:=ó.mp (Y.mem_iff.mp ZX);exact⟨x,T,by rw[Z];exact intKind_is _ _ _ _⟩
  ·rintro ⟨x,T,Z⟩
   obtain⟨i,t',L⟩:∃i t',x.2=.int i t':=by
    cases hv:x.2 with
    |int i t'=>exact⟨i,t',rfl⟩
    |_=>rw[hv] at Z;simp[ţ,Value.isInt] at Z
   have rT:k=i:=(ţ X.prog X.w).inj (.int i t') k i (by rw[<- L];exact Z) (intKind_is _ _ _ _);subst rT;exact⟨t',Y.mem_iff.mpr (ó.mpr ⟨x,T,L⟩)⟩
 have Y2:ms.Nodup:=by
  have rV:=ve ns [] aae;refine Hn rV (λk=>?_) ?_
  ·rw[M k,vo]
  ·rw[<- m,<- A]
   have e1:=U.length_eq;have e2:=W.length;have R:=Y.length_eq;simp at R;omega
 have bc:ms.Pairwise (· < ·):=by
  have:=List.pairwise_and_iff.mpr ⟨k8,Y2⟩;exact this.imp λ⟨a,b⟩=>by omega
 have J:=I.laid (t':=O) (a:=l) (o:=.lst (ms.map V.int)) f N ⟨by
  rw[Ã,aal];have e1:=U.length_eq;have e2:=W.length;have R:=Y.length_eq;simp at R;omega,out,e,Hm c,d⟩
 exact⟨.ref l,_,J.zU (s':={ s with heap:=j,drawn:=g,toks:=O }) (ch:=[]) rfl Un.refl J.aH J.bare (λb P=>by cases P),rfl,q l ms (I.aH.fresh N) bc M⟩
end
section
variable {X:Cx}
end
mutual
noncomputable def xB:aaE->Bool
 | .tuple Z=>uj Z
 | .list _=>false
 |_=>true
noncomputable def uj:List aaE->Bool
 | []=>true
 |d::Z=>xB d&&uj Z
end
section
variable {X:Cx} {π:List (â×Obj)} {σ:St} {H:Hp} {s:Ç} {Z:â->Prop}
mutual
theorem DV.vI (I:Inv X π σ H s):∀{d:aaE} {v:V} {u:Ì},DV X.K Z H d v->RelV v u->xB d=true->∃as,Reads s.heap u d as/\Ų∉as
 | .none,v,u,h,r,_=>by
  have e:v=.au:=h;subst e;cases r;exact⟨[],.none,by simp⟩
 | .bool b,v,u,h,r,_=>by
  have e:v=.bl b:=h;subst e;cases r;exact⟨[],.bool b,by simp⟩
 | .int i,v,u,h,r,_=>by
  have e:v=.int i:=h;subst e;obtain⟨t,rfl⟩:=r;exact⟨[],.int i t,by simp⟩
 | .str x,v,u,h,r,_=>by
  have e:v=.str x:=h;subst e;obtain⟨t,rfl⟩:=r;exact⟨[],.str x t,by simp⟩
 | .tuple U,v,u,h,r,Y=>by
  simp only[DV] at h;obtain⟨a,G,e,W,T⟩:=h;subst e;cases r;obtain⟨its,S,⟨o,e,c,n,R⟩,_⟩:=I.tuple W;obtain⟨as,Q,hs⟩:=ar.vI I T S (by simpa only [xB] using Y);exact⟨as,.tuple e c R (by simpa using Q),hs⟩
 | .list U,v,u,h,r,Y=>by
  simp only[xB] at Y;cases Y
 | .dict F,v,u,h,r,_=>by
  simp only[DV] at h;obtain⟨a,E,e,_,W,l,e1,e2⟩:=h;subst e e1 e2;cases r;obtain⟨_,P,D,O,o,C,B,g1,g2,g3,_,N,_⟩:=(show dX X.prog X.w H s.heap a (.dK _) from I.aH a _ W);obtain⟨M,L⟩:=yv (h:=s.heap) O N;refine⟨a::[]++[],.dict g1 g2.1 g3 M L,λJ=>?_⟩;have e:Ų=a:=by simpa using J
  subst e;simp at P
theorem ar.vI (I:Inv X π σ H s):∀{ds:List aaE} {vs:List V} {us:List Ì},ar X.K Z H ds vs->Vals vs us->uj ds=true->∃as,ReadsAll s.heap us ds as/\Ų∉as
 | [],vs,us,h,r,_=>by
  have e:vs=[]:=h;subst e;cases r;exact⟨[],.nil,by simp⟩
 |d::ds,vs,us,h,r,Y=>by
  obtain⟨v,O,e,W,U⟩:=h;subst e;simp only[uj,Ê] at Y
  cases r with
  |cons T S =>
   obtain⟨as,a1,R⟩:=DV.vI I W T Y.1;obtain⟨bs,a2,Q⟩:=ar.vI I U S Y.2;refine⟨as++bs,.cons a1 a2,λP=>?_⟩
   rcases ä.mp P with z|z
   ·exact R z
   ·exact Q z
end
end
section
variable {X:Cx}
def PN (hr:bZ k X.A):cB X (.builtin "repr") (λxs H Q=>∃(x:V) (ds:List aaE) (Z:â->Prop),xs=[x]/\DV X.K Z H (.tuple ds) x/\(PyData.tuple ds).showable=true/\((PyData.tuple ds).hasDict=false\/uj ds=true)/\(PyData.tuple ds).depth<=100/\(PyData.tuple ds).shown.length<=Õ/\Q (.str (PyData.tuple ds).shown) H):=by
 intro T s σ H xs J Q I r h;obtain⟨x,ds,Z,rfl,W,hs,S,G,R,q⟩:=h;obtain⟨u,rfl,U⟩:=vals1 r;have P:X.A.units+((PyData.tuple ds).depth+1)<abr:=by have:=hr.un;omega
 have go:∀as,Reads s.heap u (.tuple ds) as->((PyData.tuple ds).hasDict=true->Ų∉as)->Ü (í X.prog X.w) X.A (call (.builtin "repr") [u]) (EP X T σ Q) X.xe s:=λas Y O=>by
  obtain⟨a,e⟩:∃a,u=.ref a:=by cases Y;exact⟨_,rfl⟩
  subst e;exact repr_of_reads' Y hs O hr.gd P (λ_ _ e=>e) (λF t N M=>⟨.str _,H,I.kept (t':=N) M,⟨t,rfl⟩,q⟩) R
 rcases S with e|e
 ·obtain⟨as,Y⟩:=W.reads I U
  exact go as Y λz=>by rw[e] at z;cases z
 ·obtain⟨as,Y,L⟩:=W.vI I U (by simpa only [xB] using e)
  exact go as Y λ_=>L
end
end L2
namespace HZ
open PySem PySem.Spec PyProof.Rows
open AutoSeq1 (wpAny_loadPart')
section
variable {P:ö} {w:Ć} {A:Đ} {E:Ì->Ç->Prop} {s:Ç}
end
end HZ
namespace L2
open PySem PySem.Spec PyProof.Rows
section
variable {X:Cx} {elts:List Ņ} {kk:Nat} {tp:Pos}
end
section
variable {K:ļ} {caps:St} {H:Hp} {tf:TT} {te:TE} {Q:VK}
end
end L2
namespace HZ
open PySem PySem.Spec PyProof.Rows
def N0:fillsNumberSlot (.type "tuple") "mul"=pure false:=by
 first|rfl | (unfold fillsNumberSlot;kernel_rfl)|kernel_rfl
def OD:seqRepeat? (.type "tuple")=pure (some (.builtin "tuple.__mul__")):=by
 first|rfl|kernel_rfl
def PQ (a:Int) (t:Tok) (l:â) (items:Array Ì) (n:Nat) (d:Option â) (sl:Array (Option Ì)) :
  Meets (ő.«int.__rmul__» ⟨[.int a t,.ref l],[]⟩) (λ_ R s=>s.heap.get? l=some { cls:=.type "tuple",dict:=d,data:=.seq items n,slots:=sl }/\R (.ok (.ret Value.notImplemented)) s) :=
 .of_wp λprog w A R s h=>by
  obtain⟨Z,Y,X,W,V⟩:=s;obtain⟨U,h⟩:=h;wp_walk;exact⟨_,rfl,h⟩
section
variable {P:ö} {w:Ć} {A:Đ} {E:Ì->Ç->Prop} {s:Ç}
def Ux (ht:IsTup s.heap t vs.toArray) (hv:vs≠[]) (hk:1<=k) (hz:vs.length*k.toNat<=Õ)
 (h1:k=1->Q (.ref t) s) (h2:k≠1->Q (.ref s.heap.objs.size) { s with heap:=s.heap.push { cls:=.type "tuple",data:=.seq (Ñ k.toNat vs).flatten.toArray } }) :
  Ü (í P w) A (ř .Mult (.ref t) (.int k tk)) Q E s:=by
 obtain⟨⟨cls,V,data,S⟩,Z,Y,n,X⟩:=id ht;simp only at Y X;subst Y X;have K:k<=16777216:=by
  have R:1<=vs.length:=by
   cases vs with
   |nil=>exact absurd rfl hv
   |cons a r=>simp
  have J:vs.length*k.toNat<=16777216:=by rw[<- aal];exact hz
  have:1*k.toNat<=vs.length*k.toNat:=abD _ R;omega
 refine wpAny_binaryOp_repeat_ref (T:="tuple") (U:="int") (by decide) ⟨_,Z,rfl⟩ (λO=>typeIs_int O k tk) N0 F.fills_int_mul abP OD F.slot_int_index.lookup
  (call_meets abP (typeIs_int s k tk) F.entry_int_rmul (F.args_int_rmul_2 _ _) (PQ k tk t vs.toArray n V S) ⟨Z,rfl,⟨_,Z,rfl⟩,?_⟩)
 refine ÿ F.slot_tuple_mul ⟨_,Z,rfl⟩ F.entry_tuple_mul ?_ (F.args_tuple_mul_2 _ _);show Ü _ _ (asIndex (.int k tk) >>= _) _ _ _;refine À ?_
 refine ŭ (a:=k) (by first|rfl | (unfold asIndex;rfl)) ?_
 dsimp only;rw[æ (by simp;omega)];unfold Œ;refine À (À (Ğ Z rfl ?_));refine Â ?_;have ne:vs.toArray.isEmpty=false:=by
  cases vs with
  |nil=>exact absurd rfl hv
  |cons a r=>simp
 by_cases h:k=1
 ·rw[ß (by rw[h];simp)]
  unfold aaz;refine À (À (aaS (T:="tuple") ⟨_,Z,rfl⟩ (Â ?_)));rw[ß (by decide)];exact À (Ŕ (Â ⟨_,rfl,h1 h⟩))
 ·rw[æ (by rw[ne];simp[h])]
  rw[æ (by rw[ne];simp;omega)];have W:(vs.toArray.size:Int)*k=((vs.length*k.toNat:Nat):Int):=by
   rw[Ô,Int.natCast_mul];congr 1;omega
  have N:vs.length*k.toNat<=16777216:=by rw[<- aal];exact hz
  rw[æ (by rw[W];omega)];rw[æ (by
   unfold Builtin.Tuple.tupleTooMany;rw[W,aal,È];generalize vs.length*k.toNat=q at N;omega)]
  unfold Į;have e:List.foldl (λM L=>M++L) #[] (Ñ k.toNat vs.toArray)=(Ñ k.toNat vs).flatten.toArray:=by
   have:=L2.foldl_rep vs k.toNat [];rw[ķ] at this;exact this
  rw[e];refine À (î ?_ (by
   show (abv _).size<=Õ;rw[Ô,L2.len_rep,Nat.mul_comm];exact hz))
  exact Â ⟨_,rfl,h2 h⟩
end
end HZ
namespace L2
open PySem PySem.Spec PyProof.Rows
section
variable {X:Cx}
def XI (K:ļ):R2:=λx y H Q=>∃a Z k,x=.ref a/\y=.int k/\bo K H a Z/\Z≠[]/\1<=k/\Z.length*k.toNat<=Õ/\n9 K H (Ñ k.toNat Z).flatten Q
def Uy:aZ X (ř .Mult) (XI X.K):=by
 intro P s σ H x y v u Q I V U h;obtain⟨a,Z,k,rfl,rfl,hs,T,S,W,q⟩:=h;cases V;obtain⟨t,rfl⟩:=U;obtain⟨its,r,p,z⟩:=I.tuple hs;have Y:=r.length;refine HZ.Ux p (λe=>T (by rw[e] at Y;exact aa1.mp Y)) S (by rw[<- Y];exact W) (λe=>?_) (λ_=>?_)
 ·have e1:(Ñ k.toNat Z).flatten=Z:=by rw[e];simp
  rw[e1] at q;exact⟨.ref a,H,I,rfl,q.here hs⟩
 ·have R:(Ñ k.toNat Z).flatten.length<=Õ:=by rw[len_rep,Nat.mul_comm];exact W
  exact⟨.ref _,_,I.laid (t':=s.toks) (o:=.tup (Ñ k.toNat Z).flatten) (λb o e=>Á _ e) (acr _) ⟨R,_,r.rep k.toNat,⟨_,Ð _ rfl,rfl,_,rfl⟩⟩,rfl,q.new (I.aH.fresh (acr _))⟩
end
end L2
namespace HZ
open PySem PySem.Spec PyProof.Rows
def J1:mroOf (.type "reversed")=pure [.type "reversed",.type "object"]:=by rw[mroOf_type];kernel_rfl
def Ob:typeLookup (.type "reversed") "__new__"=pure (some (.builtin "reversed.__new__")):=by rw[typeLookup_type,abw];kernel_rfl
def Sd:Bind.madeBy (.type "reversed")=pure (some "reversed.__new__"):=madeBy_type J1 Ob (by decide +kernel)
def Ol:entryFor table "reversed.__new__"=some ő.«reversed.__new__»:=entryFor_of_tree (by kernel_rfl)
def Om:plainId "reversed.__new__"=true:=by decide +kernel
def OE (a:Ì):checkTypeCall "reversed" ⟨[a],[]⟩=pure ():=by kernel_rfl
def O2 (a:Ì):checkBuiltinCall "reversed.__new__" ⟨[.type "reversed",a],[]⟩=pure ():=by kernel_rfl
def Uz:isSubtype (.type "reversed") (.type "reversed")=pure true:=by rw[isSubtype_type];kernel_rfl
def PU:isSubtype (.type "range_iterator") (.type "reversed")=pure false:=by rw[isSubtype_type];kernel_rfl
def OF:(ż "reversed"==ż "type")=false:=by decide +kernel
def UA:((Manifest.find? "reversed").bind (·.mro.findSome? λt=>(Manifest.find? t).bind λb=>if b.noNew then some true else if b.attrs.any (·.1=="__new__") then some false else none)).getD false=false:=by decide +kernel
section
variable {P:ö} {w:Ć} {A:Đ} {E:Ì->Ç->Prop} {s:Ç}
def OG (hr:s.heap.get? r=some { cls:=.type "range",data:=.fields #[.int a t1,.int b t2,.int c t3] }) (h:Q (a,b,c) s):Ü (í P w) A (ab7 (.ref r)) Q E s:=by
 unfold ab7;refine À (ĭ hr rfl (x:=.int a t1) rfl ?_);refine À (ŭ (a:=some a) (by rfl) ?_);refine À (ĭ hr rfl (x:=.int b t2) rfl ?_);refine À (ŭ (a:=some b) (by rfl) ?_);refine À (ĭ hr rfl (x:=.int c t3) rfl ?_);refine À (ŭ (a:=some c) (by rfl) ?_);exact Â h
def UB {n:Nat} {Q:Ì->Ç->Prop} (hr:s.heap.get? r=some { cls:=.type "range",data:=.fields #[.int 0 t1,.int n t2,.int 1 t3] }) (hn:n<2 ^ 62)
 (h:Q (.ref s.heap.objs.size) { s with heap:=s.heap.push { cls:=.type "range_iterator",data:=.fields #[Ř (n-1),Ř n,Ř (-1)] } }) :
  Ü (í P w) A (ő.«reversed.__new__» ⟨[.type "reversed",.ref r],[]⟩) (λfin s'=>∃v,fin=.done (.ret v)/\Q v s') E s:=by
 have X:s.TypeIs (.ref r) "range":=⟨_,hr,rfl⟩;have ss:=Uz;unfold ő.«reversed.__new__» Builtin.SmallTypes.newClass Builtin.SmallTypes.refuseKeywords;have V:=aaq.lookup;have U:=aaq.bind (.ref r)
 wp_walk
 refine Ÿ (codeAny_call_builtin (R:=wants (λv s'=>v=.ref s.heap.objs.size/\s'={ s with heap:=s.heap.push { cls:=.type "range_iterator",data:=.fields #[Ř (n-1),Ř n,Ř (-1)] } }) E) aaq.plain F.entry_range_reversed (aaq.check _ _ _ _ _ _ _ _ X (F.args_range_reversed_1 _) ?_)) λW T Z=>?_
 ·unfold ő.«range.__reversed__»
  refine À (ŭ (a:=.ref r) (by rfl) ?_);refine À (OG hr ?_);dsimp only;have sz:Ť 0 n 1=n:=by
   unfold Ť;rw[ß (by decide)]
   split<;>omega
  rw[sz];have Y:(Ĥ 0&&Ĥ n&&Ĥ 1&&Ĥ (-1)&&Ĥ (0-1)&&Ĥ n)=true:=by
   have S:(n:Int)<2 ^ 62:=by omega
   unfold Ĥ;simp only[Ê,È];refine⟨⟨⟨⟨⟨⟨by decide,by decide⟩,by omega,by omega⟩,by decide,by decide⟩,by decide,by decide⟩,by decide,by decide⟩,by omega,by omega⟩
  rw[Y];rw[æ (by decide)];refine À (î ?_);refine Â ?_;refine⟨rfl,?_⟩;have e:(0:Int)+((n:Int)-1)*1=n-1:=by omega
  simp[Ř]
 ·cases W with
  |error e=>exact Z
  |ok Y =>
   cases Y with
   |ret v =>
    obtain⟨rfl,rfl⟩:=Z;exact Â ⟨_,rfl,h⟩
   |_=>exact Z
def Se {n:Nat} {Q:Ì->Ç->Prop} (hr:s.heap.get? r=some { cls:=.type "range",data:=.fields #[.int 0 t1,.int n t2,.int 1 t3] }) (hn:n<2 ^ 62)
 (h:Q (.ref s.heap.objs.size) { s with heap:=s.heap.push { cls:=.type "range_iterator",data:=.fields #[Ř (n-1),Ř n,Ř (-1)] } }):Ü (í P w) A (call (.type "reversed") [.ref r]) Q E s:=by
 have T:=J1;have S:=Sd;have O:=PU;have m4:=OF;have N:=UA;have M:=OE (.ref r);refine wpAny_call (aaZ ?_);show Ü _ _ (callAny (.type "reversed") _) _ _ _;refine Â ⟨Code.quiet_builtin _ (by decide +kernel),ĸ F.entry_type_call ?_⟩;rw[Around.under_plain (weight_type_call_type "reversed" [.ref r] []) rfl]
 repeat (any_goals (first|assumption|wp_step))
 refine Ÿ (codeAny_call_builtin (R:=wants (λv Z=>v=.ref s.heap.objs.size/\Z={ s with heap:=s.heap.push { cls:=.type "range_iterator",data:=.fields #[Ř (n-1),Ř n,Ř (-1)] } }) E) Om Ol (ŭ (O2 _) ?_)) λX L Y=>?_
 ·refine ĝ (UB (Q:=λv Z=>v=.ref s.heap.objs.size/\Z={ s with heap:=s.heap.push { cls:=.type "range_iterator",data:=.fields #[Ř (n-1),Ř n,Ř (-1)] } }) hr hn ⟨rfl,rfl⟩) (λf Z W=>?_) λ_ _ e=>e
  obtain⟨v,rfl,V⟩:=W;exact V
 ·cases X with
  |error e=>exact Y
  |ok U =>
   cases U with
   |ret v =>
    obtain⟨rfl,rfl⟩:=Y
    have K:Shared.TypeIs { s with heap:=s.heap.push { cls:=.type "range_iterator",data:=.fields #[Ř (n-1),Ř n,Ř (-1)] } } (.ref s.heap.objs.size) "range_iterator":=⟨_,Ð _ rfl,rfl⟩
    repeat (any_goals (first|assumption|wp_step))
   |_=>exact Y.elim
end
end HZ
namespace L2
open PySem PySem.Spec PyProof.Rows
noncomputable def Ay (n:Nat):It:=⟨λi _=>i<n,λi H x Z=>Z=H/\x=.int ((n:Int)-1-i),λi _=>n<=i⟩
def Ja {P:ö} {w:Ć} {K:ļ} {tg:Ņ} (it:â) (n:Nat):Turn P w K tg (Ay n) [it] it (λi h=>IsRangeIter h it (((n:Int)-1)+(i:Nat)*(-1)) ((n:Int)-(i:Nat)) (-1)) where
 mem:=by simp
 obj:=λi h Z b Y=>by
  have e:b=it:=by simpa using Y
  subst e;exact⟨_,Z,λv z=>by
   have G:Data.fields _=Data.cell v:=z;cases G⟩
 keep:=λi h V Z k=>k it (by simp) _ Z
 item:=by
  intro X T hw S R i M s σ H E I U Z Q;subst T hw S;obtain⟨f0,f1,f2,O,f4,N⟩:=U it (by simp);have W:=Walks.range (prog:=X.prog) (w:=X.w) (I.ok.hd R) it ((n:Int)-1) (-1) n;refine W.item i s _ _ Q Z λv V L F J D=>?_;obtain⟨t,rfl⟩:=F
  have C:Inv X M σ H { s with heap:=V,toks:=L }:=I.turned (λb o Y e=>D b o (by simpa using Y) e) f0 f1 O f4 N
  refine⟨_,rfl,zV (s:={ s with heap:=V,toks:=L }) (n:="range_iterator") J rfl rfl (by decide) ⟨.int ((n:Int)-1-i),H,C,⟨t,?_⟩,⟨rfl,rfl⟩,J,λb Y=>(U b Y).1⟩⟩
  rw[Int.mul_neg_one];rfl
 done:=by
  intro X T hw S R i M s σ H E I U Z Q;subst T hw S;obtain⟨f0,f1,f2,O,f4,N⟩:=U it (by simp);exact wpAny_pyNext_range_end (I.ok.hd R) Z (by have:n<=i:=Q;omega) λV B=>⟨rfl,I.turned (t':=s.toks) (λb o Y e=>B b o Y e) f0 f1 O f4 N⟩
 self:=λ_ _ _ _ _ Z h=>aa7 Z h
section
variable {X:Cx} {tg:Ņ}
def Sf:Ă "reversed"=some (.type "reversed"):=by decide +kernel
def O3:cB X (.type "range") (λxs H Q=>∃j:Int,xs=[.int j]/\∀p,H p=none->Q (.ref p) (upd H p (.bS 0 j))):=by
 intro Y s σ H xs W Q I r h;obtain⟨j,rfl,q⟩:=h;obtain⟨u,rfl,Z⟩:=vals1 r;obtain⟨t,rfl⟩:=Z;exact call_range_1 ⟨.ref _,_,I.laid (o:=.bS 0 j) (t':=s.toks+1+1) (λb o e=>Á _ e) (acr _) ⟨_,_,_,Ð _ rfl⟩,rfl,q _ (I.aH.fresh (acr _))⟩
def Y3 (ta:TA):TI:=fun σ H R=>ta σ H λY Z=>∃(p:â) (n:Nat),Y=[.ref p]/\Z p=some (.bS 0 n)/\n<2 ^ 62/\R (Ay n) Z
def Wl {a:Ņ} {ta:TA} {p pos:Pos} (hg:Gl X "reversed") (hm:X.mg "reversed"=none) (ha:PA X [a] ta) (hs:Þ [a] X.env=[(false,ś a X.env)]:=by rfl):PI X tg (.Call (.Name "reversed" p) [a] [] pos) (Y3 ta):=by
 intro V s σ H R I h;refine Call_ (nL I hg hm Sf (ŀ (aG (ha pos V s σ H _ I h) λL Z ⟨K,U,Y,T,S⟩=>?_) hs rfl));obtain⟨c,n,e,Q,P,q⟩:=S;subst e;obtain⟨u,rfl,O⟩:=vals1 T;cases O;obtain⟨t1,J,t3,N⟩:=Y.aH c _ Q;refine HZ.Se N P ?_;have W:IsRangeIter (Z.heap.push { cls:=.type "range_iterator",data:=.fields #[Ř ((n:Int)-1),Ř n,Ř (-1)] }) Z.heap.objs.size (((n:Int)-1)+((0:Nat):Int)*(-1)) ((n:Int)-((0:Nat):Int)) (-1):=by
  have e1:((n:Int)-1)+((0:Nat):Int)*(-1)=n-1:=by simp
  have e2:(n:Int)-((0:Nat):Int)=n:=by simp
  rw[e1,e2];exact Ð _ rfl
 refine aa7 (s:={ Z with heap:=_ }) W ?_
 refine⟨Z.heap.objs.size,[Z.heap.objs.size],_,_,U,rfl,Y.kept (t':=Z.toks) λb o e=>Á _ e,Ja _ n,W,λb M=>?_,q⟩;have e:b=Z.heap.objs.size:=by simpa using M
 subst e;exact Y.mZ (acr _) (Y.aH.fresh (acr _))
end
end L2
namespace HZ
open PySem PySem.Spec PyProof.Rows
section
variable {P:ö} {w:Ć} {A:Đ} {R:Result->Ç->Prop} {I:â} {fp wr:List â} {n:Nat} {Pv:Nat->Ì->Prop} {St:Nat->Ţ->Prop} {kw:List (Str×Ì)}
end
section
variable {P:ö} {w:Ć} {A:Đ} {E:Ì->Ç->Prop} {s:Ç}
end
end HZ
namespace L2
open PySem PySem.Spec PyProof.Rows
section
variable {X:Cx} {p pos kp:Pos} {e d:Ņ} {ta tk:TA}
end
end L2
namespace DI
open PySem L2
set_option genInjectivity true in
inductive D where
 |au|bl (b:Bool)|int (i:Int)|str (x:Str)|tup (ds:List D)|lst (ds:List D)|bJ (ak:List (Key×Int))|ai (k:Nat)|ty (n:String)|bQ (ns:List Int)
set_option genInjectivity true in
inductive Cell where
 |dead|lst (ds:List D)|dK (ak:List (Key×D))|dT (ak:List (D×Int))
noncomputable abbrev ag:=List Cell
noncomputable abbrev Env:=List (Option D)
structure bt where
 c:Str
 many:Option D
abbrev Res (α:Type):=Option (Except bt α×ag)
abbrev acn (α:Type):=Env->ag->Res α
abbrev ok {α:Type} (a:α) (s:ag):Res α:=some (.ok a,s)
def ao {α β:Type} (r:Res α) (k:α->ag->Res β):Res β:=match r with
 |some (.ok a,s)=>k a s
 |some (.error x,s)=>some (.error x,s)
 |none=>none
@[simp] theorem dW {α β:Type} {a:α} {s:ag} {k:α->ag->Res β}:ao (some (.ok a,s)) k=k a s:=rfl
structure Wd where
 ρ:List â
 aA:ag
 H:Hp
def Wd.Z (w:Wd) (a:â):Prop:=∃(k:Nat) (c:Cell),w.ρ[k]?=some a/\w.aA[k]?=some c/\c≠.dead
def LstAt (w:Wd) (a:â) (xs:List V):Prop:=¬ w.Z a/\w.H a=some (.lst xs)
def LstAt.sq (h:LstAt w a xs):bq K w.H a xs:=bq.of h.2
def vX (K:ļ) (w:Wd) (a:â) (xs:List V):Prop:=(¬ w.Z a/\Rd w.H a (.lst xs)) \/
 ∃(o:Obj) (its:Array Ì) (n:Nat),K.lookup a=some o/\o.cls=.type "list"/\o.dict=none/\o.data=.seq its n/\its.size<=Õ/\Vals xs its.toList
def vX.sq (h:vX K w a xs):bq K w.H a xs:=by
 rcases h with ⟨_,h⟩|h
 ·exact .inl h
 ·exact .inr h
mutual
def DV (K:ļ) (w:Wd):D->V->Prop
 | .au,v=>v=.au
 | .bl b,v=>v=.bl b
 | .int i,v=>v=.int i
 | .str x,v=>v=.str x
 | .tup X,v=>∃a Y,v=.ref a/\bo K w.H a Y/\ar K w X Y
 | .lst X,v=>∃a Y,v=.ref a/\LstAt w a Y/\ar K w X Y
 | .bJ W,v=>∃a,v=.ref a/\¬ w.Z a/\w.H a=some (.dK (W.map λp=>(p.1,V.int p.2)))
 | .ai k,v=>∃a,w.ρ[k]?=some a/\v=.ref a
 | .ty n,v=>v=.ty n
 | .bQ U,v=>∃a,v=.ref a/\vX K w a (U.map V.int)
def ar (K:ļ) (w:Wd):List D->List V->Prop
 | [],Z=>Z=[]
 |d::Y,Z=>∃v r,Z=v::r/\DV K w d v/\ar K w Y r
end
structure Fw (K:ļ) (w w':Wd):Prop where
 FP:∀(k:Nat) a,w.ρ[k]?=some a->w'.ρ[k]?=some a
 tup:∀a xs,bo K w.H a xs->bo K w'.H a xs
 lst:∀a xs,¬ w.Z a->w.H a=some (.lst xs)->¬ w'.Z a/\w'.H a=some (.lst xs)
 dw:∀a o xs,¬ w.Z a->w.H a=some (.dw o (.lst xs))->¬ w'.Z a/\w'.H a=some (.dw o (.lst xs))
 bJ:∀a es,¬ w.Z a->w.H a=some (.dK es)->¬ w'.Z a/\w'.H a=some (.dK es)
def Fw.LR (S:Fw K w w') (h:LstAt w a xs):LstAt w' a xs:=S.lst a xs h.1 h.2
def Fw.XJ (S:Fw K w w') (h:vX K w a xs):vX K w' a xs:=by
 rcases h with ⟨Y,Z | ⟨o,Z⟩⟩|h
 ·have q:=S.lst a xs Y Z
  exact .inl ⟨q.1,.inl q.2⟩
 ·have q:=S.dw a o xs Y Z
  exact .inl ⟨q.1,.inr ⟨o,q.2⟩⟩
 ·exact .inr h
mutual
theorem DV.fw (S:Fw K w w'):∀{d:D} {v:V},DV K w d v->DV K w' d v
 | .au,_,h=>h
 | .bl _,_,h=>h
 | .int _,_,h=>h
 | .str _,_,h=>h
 | .tup X,v,h=>by
  simp only[DV] at h |-;obtain⟨a,Y,e,Z,r⟩:=h;exact⟨a,Y,e,S.tup a Y Z,ar.fw S r⟩
 | .lst X,v,h=>by
  simp only[DV] at h |-;obtain⟨a,Y,e,Z,r⟩:=h;exact⟨a,Y,e,S.LR Z,ar.fw S r⟩
 | .bJ R,v,h=>by
  simp only[DV] at h |-;obtain⟨a,e,W,Z⟩:=h;obtain⟨U,T⟩:=S.bJ a _ W Z;exact⟨a,e,U,T⟩
 | .ai k,v,h=>by
  simp only[DV] at h |-;obtain⟨a,e,e2⟩:=h;exact⟨a,S.FP k a e,e2⟩
 | .ty _,_,h=>h
 | .bQ Q,v,h=>by
  simp only[DV] at h |-;obtain⟨a,e,Z⟩:=h;exact⟨a,e,S.XJ Z⟩
theorem ar.fw (S:Fw K w w'):∀{ds:List D} {vs:List V},ar K w ds vs->ar K w' ds vs
 | [],_,h=>h
 |d::ds,vs,h=>by
  simp only[ar] at h |-;obtain⟨v,r,e,Z,Y⟩:=h;exact⟨v,r,e,DV.fw S Z,ar.fw S Y⟩
end
structure Le (K:ļ) (w w':Wd):Prop where
 dv:∀d v,DV K w d v->DV K w' d v
 lst:∀a xs,LstAt w a xs->LstAt w' a xs
 tup:∀a xs,bo K w.H a xs->bo K w'.H a xs
noncomputable instance {K:ļ} {w w':Wd}:CoeFun (Le K w w') (λ_=>∀d v,DV K w d v->DV K w' d v):=⟨Le.dv⟩
def Le.refl (w:Wd):Le K w w:=⟨λ_ _ h=>h,λ_ _ h=>h,λ_ _ h=>h⟩
def Le.trans (h:Le K a b) (g:Le K b c):Le K a c:=⟨λd v x=>g.dv d v (h.dv d v x),λp Z x=>g.lst p Z (h.lst p Z x),λp Z x=>g.tup p Z (h.tup p Z x)⟩
def Fw.le (S:Fw K w w'):Le K w w':=⟨λ_ _ h=>h.fw S,λ_ _ h=>S.LR h,S.tup⟩
theorem Le.all (h:Le K w w'):∀{ds:List D} {vs:List V},ar K w ds vs->ar K w' ds vs
 | [],_,x=>x
 |d::ds,vs,x=>by
  simp only[ar] at x |-;obtain⟨v,r,e,Z,Y⟩:=x;exact⟨v,r,e,h d v Z,Le.all h Y⟩
theorem ar.length:∀{ds:List D} {vs:List V},ar K w ds vs->ds.length=vs.length
 | [],vs,h=>by
  have e:vs=[]:=h;subst e;rfl
 |d::ds,vs,h=>by
  obtain⟨v,r,e,_,Z⟩:=h;subst e;simp[ar.length Z]
theorem ar.get:∀{ds:List D} {vs:List V},ar K w ds vs->∀(i:Nat) v,vs[i]?=some v->∃d,ds[i]?=some d/\DV K w d v
 | [],vs,h,i,v,e=>by
  have Z:vs=[]:=h;subst Z;simp at e
 |d::ds,vs,h,i,v,e=>by
  obtain⟨u,r,Z,Y,X⟩:=h;subst Z
  cases i with
  |zero =>
   have:u=v:=by simpa using e
   subst this;exact⟨d,rfl,Y⟩
  |succ i=>exact ar.get X i v (by simpa using e)
theorem ar.get':∀{ds:List D} {vs:List V},ar K w ds vs->∀(i:Nat) d,ds[i]?=some d->∃v,vs[i]?=some v/\DV K w d v
 | [],vs,h,i,d,e=>by simp at e
 |d::ds,vs,h,i,Z,e=>by
  obtain⟨u,r,Y,X,W⟩:=h;subst Y
  cases i with
  |zero =>
   have:d=Z:=by simpa using e
   subst this;exact⟨u,rfl,X⟩
  |succ i=>exact ar.get' W i Z (by simpa using e)
theorem ar.append:∀{ds es:List D} {vs ws:List V},ar K w ds vs->ar K w es ws->ar K w (ds++es) (vs++ws)
 | [],es,vs,ws,h,Z=>by
  have e:vs=[]:=h;subst e;exact Z
 |d::ds,es,vs,ws,h,Z=>by
  obtain⟨v,r,e,Y,X⟩:=h;subst e;exact⟨v,r++ws,rfl,Y,ar.append X Z⟩
theorem ar.take:∀{ds:List D} {vs:List V} (n:Nat),ar K w ds vs->ar K w (ds.take n) (vs.take n)
 | [],vs,n,h=>by
  have e:vs=[]:=h;subst e;simp[ar]
 |d::ds,vs,0,h=>by simp[ar]
 |d::ds,vs,n+1,h=>by
  obtain⟨v,r,e,Z,Y⟩:=h;subst e;exact⟨v,r.take n,rfl,Z,ar.take n Y⟩
theorem ar.drop:∀{ds:List D} {vs:List V} (n:Nat),ar K w ds vs->ar K w (ds.drop n) (vs.drop n)
 | [],vs,n,h=>by
  have e:vs=[]:=h;subst e;simp[ar]
 |d::ds,vs,0,h=>h
 |d::ds,vs,n+1,h=>by
  obtain⟨v,r,e,Y,Z⟩:=h;subst e;exact ar.drop n Z
theorem ar.reverse:∀{ds:List D} {vs:List V},ar K w ds vs->ar K w ds.reverse vs.reverse
 | [],vs,h=>by
  have e:vs=[]:=h;subst e;simp[ar]
 |d::ds,vs,h=>by
  obtain⟨v,r,e,Z,Y⟩:=h;subst e;rw[abe,abe];exact ar.append (ar.reverse Y) ⟨v,[],rfl,Z,rfl⟩
theorem ar.set (hd:DV K w d v):∀{ds:List D} {vs:List V} (i:Nat),ar K w ds vs->ar K w (ds.set i d) (vs.set i v)
 | [],vs,i,h=>by
  have e:vs=[]:=h;subst e;simp[ar]
 |d'::ds,vs,0,h=>by
  obtain⟨u,r,e,Y,Z⟩:=h;subst e;exact⟨v,r,rfl,hd,Z⟩
 |d'::ds,vs,i+1,h=>by
  obtain⟨u,r,e,Y,Z⟩:=h;subst e;exact⟨u,r.set i v,rfl,Y,ar.set hd i Z⟩
def ar.one (h:DV K w d v):ar K w [d] [v]:=⟨v,[],rfl,h,rfl⟩
def ar.two (h:DV K w d v) (h':DV K w d' v'):ar K w [d,d'] [v,v']:=⟨v,_,rfl,h,ar.one h'⟩
theorem ar.ints:∀(ns:List Int),ar K w (ns.map D.int) (ns.map V.int)
 | []=>rfl
 |n::ns=>⟨.int n,_,rfl,rfl,ar.ints ns⟩
theorem ar.Jb:∀{ns:List Int} {vs:List V},ar K w (ns.map D.int) vs->vs=ns.map V.int
 | [],_,h=>h
 |n::ns,vs,h=>by
  obtain⟨v,r,e,Z,Y⟩:=h;have e1:v=.int n:=Z;rw[e,e1,ar.Jb Y];rfl
theorem ar.CL:∀{bs:List Bool} {vs:List V},ar K w (bs.map D.bl) vs->vs=bs.map V.bl
 | [],_,h=>h
 |n::X,vs,h=>by
  obtain⟨v,r,e,Z,Y⟩:=h;have e1:v=.bl n:=Z;rw[e,e1,ar.CL Y];rfl
def DX (a:â) (es:List (Int×â)) (h:Ţ):Prop:=(a==Ų)=false/\∃(o:Obj) (Z:Array acd) (Y:Nat),h.get? a=some o/\o.ExactDict/\o.data=.dict Z Y/\Z.toList=es.map λp=>(⟨p.1,.ref p.2,.bool true⟩:acd)
def tB (K:ļ) (w:Wd) (a:â):Cell->Prop
 | .dead=>True
 | .lst W=>∃X,w.H a=some (.lst X)/\ar K w W X
 | .dK Z=>∃Y:List (Key×V),w.H a=some (.dK Y)/\Y.map (·.1)=Z.map (·.1)/\ar K w (Z.map (·.2)) (Y.map (·.2))
 | .dT Z=>∃as:List â,w.H a=some (.ext (DX a ((Z.map (·.2)).zip as)))/\ar K w (Z.map (·.1)) (as.map V.ref)/\(Z.map (·.1)).Nodup
structure aL (K:ļ) (w:Wd):Prop where
 len:w.ρ.length=w.aA.length
 nd:w.ρ.Nodup
 there:∀(k:Nat) a,w.ρ[k]?=some a->w.H a≠none
 cell:∀(k:Nat) a c,w.ρ[k]?=some a->w.aA[k]?=some c->tB K w a c
theorem tB.le (h:tB K w a c) (le:Le K w w') (e:c≠.dead->w'.H a=w.H a):tB K w' a c:=by
 cases c with
 |dead=>trivial
 |lst T =>
  obtain⟨W,Z,Y⟩:=h;exact⟨W,(e (by intro z;cases z)).trans Z,le.all Y⟩
 |dK V =>
  obtain⟨U,Z,Y,X⟩:=h;exact⟨U,(e (by intro z;cases z)).trans Z,Y,le.all X⟩
 |dT V =>
  obtain⟨as,Z,Y,X⟩:=h;exact⟨as,(e (by intro z;cases z)).trans Z,le.all Y,X⟩
section
variable {K:ļ} {w:Wd}
def Wd.grow (w:Wd) (p:â) (o:HO):Wd:={ w with H:=upd w.H p o }
def Rd.grow (hp:H p=none) (h:Rd H a u):Rd (upd H p o) a u:=by
 rcases h with h | ⟨Z,h⟩
 ·exact .inl (by rw[bK (fL h hp)];exact h)
 ·exact .inr ⟨Z,by rw[bK (fL h hp)];exact h⟩
theorem bo.grow (hp:H p=none) (h:bo K H a xs):bo K (upd H p o) a xs:=by
 rcases h with h|h
 ·exact .inl (Rd.grow hp h)
 ·exact .inr h
theorem Fw.grow (hp:w.H p=none):Fw K w (w.grow p o) where
 FP:=λ_ _ e=>e
 tup:=λa Y h=>bo.grow hp h
 lst:=λa Y Z h=>⟨Z,by show upd w.H p o a=_;rw[bK (fL h hp)];exact h⟩
 dw:=λa X Y Z h=>⟨Z,by show upd w.H p o a=_;rw[bK (fL h hp)];exact h⟩
 bJ:=λa W Z h=>⟨Z,by show upd w.H p o a=_;rw[bK (fL h hp)];exact h⟩
theorem aL.grow (S:aL K w) (hp:w.H p=none):aL K (w.grow p o) where
 len:=S.len
 nd:=S.nd
 there:=λk a e=>by
  have h:=S.there k a e;show upd w.H p o a≠none;unfold upd;split
  ·intro z;cases z
  ·exact h
 cell:=λk a c e1 e2=>(S.cell k a c e1 e2).le (Fw.grow hp).le λ_=>by
  have h:=S.there k a e1;show upd w.H p o a=w.H a;rw[bK];intro z;rw[z] at h;exact h hp
def Wd.cell (w:Wd) (p:â) (o:HO) (c:Cell):Wd:=⟨w.ρ++[p],w.aA++[c],upd w.H p o⟩
def Wd.Dk (S:aL K w) (h:(w.cell p o c).Z a):w.Z a\/a=p:=by
 obtain⟨k,Y,e1,e2,V⟩:=h;have e1:(w.ρ++[p])[k]?=some a:=e1;have e2:(w.aA++[c])[k]?=some Y:=e2;by_cases X:k<w.ρ.length
 ·rw[ã X] at e1
  rw[ã (by rw[<- S.len];exact X)] at e2;exact .inl ⟨k,Y,e1,e2,V⟩
 ·rw[þ (by omega)] at e1
  right
  cases W:k-w.ρ.length with
  |zero=>rw[W] at e1;exact(acs e1).symm
  |succ j=>rw[W] at e1;cases e1
theorem Fw.cell (S:aL K w) (hp:w.H p=none):Fw K w (w.cell p o c) where
 FP:=λk a e=>by
  show (w.ρ++[p])[k]?=some a;rw[ã (Å.mp e).1];exact e
 tup:=λa Y h=>bo.grow hp h
 lst:=λa Y Z h=>⟨λz=>(Wd.Dk S z).elim Z (λe=>by (subst e;rw[hp] at h;cases h)),by show upd w.H p o a=_;rw[bK (fL h hp)];exact h⟩
 dw:=λa X Y Z h=>⟨λz=>(Wd.Dk S z).elim Z (λe=>by (subst e;rw[hp] at h;cases h)),by show upd w.H p o a=_;rw[bK (fL h hp)];exact h⟩
 bJ:=λa W Z h=>⟨λz=>(Wd.Dk S z).elim Z (λe=>by (subst e;rw[hp] at h;cases h)),by show upd w.H p o a=_;rw[bK (fL h hp)];exact h⟩
def aL.zY (S:aL K w) (hp:w.H p=none) (hc:tB K (w.cell p o c) p c):aL K (w.cell p o c) where
 len:=by show (w.ρ++[p]).length=(w.aA++[c]).length;simp[S.len]
 nd:=by
  show (w.ρ++[p]).Nodup;rw[aax];refine⟨S.nd,by simp,λa W b V=>?_⟩;obtain⟨k,e⟩:=List.getElem?_of_mem W;have h:=S.there k a e;have U:b=p:=by simpa using V
  rw[U];intro z;rw[z] at h;exact h hp
 there:=λk a e=>by
  have e:(w.ρ++[p])[k]?=some a:=e;show upd w.H p o a≠none;unfold upd;split
  ·intro z;cases z
  ·rename_i T
   by_cases Y:k<w.ρ.length
   ·rw[ã Y] at e
    exact S.there k a e
   ·rw[þ (by omega)] at e
    cases Z:k-w.ρ.length with
    |zero=>rw[Z] at e;exact absurd (acs e).symm T
    |succ j=>rw[Z] at e;cases e
 cell:=λk a X e1 e2=>by
  have e1:(w.ρ++[p])[k]?=some a:=e1;have e2:(w.aA++[c])[k]?=some X:=e2;by_cases Y:k<w.ρ.length
  ·rw[ã Y] at e1
   rw[ã (by rw[<- S.len];exact Y)] at e2;refine(S.cell k a X e1 e2).le (Fw.cell S hp).le λ_=>?_;have h:=S.there k a e1;show upd w.H p o a=w.H a;rw[bK];intro z;rw[z] at h;exact h hp
  ·rw[þ (by omega)] at e1
   rw[þ (by rw[<- S.len];omega)] at e2;rw[<- S.len] at e2
   cases Z:k-w.ρ.length with
   |zero =>
    rw[Z] at e1 e2;have e1:p=a:=acs e1;have e2:c=X:=acs e2;subst e1 e2;exact hc
   |succ j=>rw[Z] at e1;cases e1
def Wd.same (w:Wd) (H':Hp):Wd:={ w with H:=H' }
theorem Fw.same (e:lH w.H H'):Fw K w (w.same H') :=
 ⟨λ_ _ e=>e,λa Y h=>e.ZF h,λa Y Z h=>⟨Z,e _ _ h⟩,λa o Y Z h=>⟨Z,e _ _ h⟩,λa X Z h=>⟨Z,e _ _ h⟩⟩
theorem aL.same (S:aL K w) (e:lH w.H H'):aL K (w.same H') where
 len:=S.len
 nd:=S.nd
 there:=λk a q=>by
  have h:=S.there k a q;show H' a≠none
  cases Z:w.H a with
  |none=>exact absurd Z h
  |some o=>rw[e _ _ Z];intro z;cases z
 cell:=λk a c e1 e2=>(S.cell k a c e1 e2).le (Fw.same e).le λ_=>by
  have h:=S.there k a e1;show H' a=w.H a
  cases Z:w.H a with
  |none=>exact absurd Z h
  |some o=>exact e _ _ Z
def Wd.put (w:Wd) (k:Nat) (a:â) (o:HO) (c:Cell):Wd:=⟨w.ρ,w.aA.set k c,upd w.H a o⟩
def Hq {α:Type} {l:List α} (nd:l.Nodup) {i j:Nat} {a:α} (h1:l[i]?=some a) (h2:l[j]?=some a):i=j:=by
 exact(List.getElem?_inj (Å.mp h1).1 nd).mp (h1.trans h2.symm)
def Wd.D4 (h0:w.ρ[k]?=some a) (h1:w.aA[k]?=some c0) (h2:c0≠.dead) (h:(w.put k a o c).Z b):w.Z b:=by
 obtain⟨j,Y,e1,e2,W⟩:=h;have e1:w.ρ[j]?=some b:=e1;have e2:(w.aA.set k c)[j]?=some Y:=e2;by_cases X:k=j
 ·subst X
  exact⟨k,c0,e1,h1,h2⟩
 ·rw[Ý X] at e2
  exact⟨j,Y,e1,e2,W⟩
theorem Fw.put (S:aL K w) (h0:w.ρ[k]?=some a) (h1:w.aA[k]?=some c0) (h2:c0≠.dead):Fw K w (w.put k a o c):=by
 have W:w.Z a:=⟨k,c0,h0,h1,h2⟩;have T:∀X,¬ Rd w.H a (.tup X):=λX h=>by
  have q:=S.cell k a c0 h0 h1
  cases c0 with
  |dead=>exact h2 rfl
  |lst Q=>obtain⟨V,e,_⟩:=q;rcases h with h | ⟨_,h⟩<;>(rw[e] at h;cases h)
  |dK R=>obtain⟨V,e,_⟩:=q;rcases h with h | ⟨_,h⟩<;>(rw[e] at h;cases h)
  |dT R=>obtain⟨V,e,_⟩:=q;rcases h with h | ⟨_,h⟩<;>(rw[e] at h;cases h)
 refine⟨λ_ _ e=>e,λb X h=>?_,λb X Y h=>⟨λz=>Y (Wd.D4 h0 h1 h2 z),?_⟩,λb U X Y h=>⟨λz=>Y (Wd.D4 h0 h1 h2 z),?_⟩,λb P Y h=>⟨λz=>Y (Wd.D4 h0 h1 h2 z),?_⟩⟩
 ·rcases h with h|h
  ·have ne:b≠a:=λe=>by subst e;exact T X h
   refine .inl ?_
   rcases h with h | ⟨U,h⟩
   ·exact .inl (by show upd w.H a o b=_;rw[bK ne];exact h)
   ·exact .inr ⟨U,by show upd w.H a o b=_;rw[bK ne];exact h⟩
  ·exact .inr h
 ·have ne:b≠a:=λe=>by subst e;exact Y W
  show upd w.H a o b=_;rw[bK ne];exact h
 ·have ne:b≠a:=λe=>by subst e;exact Y W
  show upd w.H a o b=_;rw[bK ne];exact h
 ·have ne:b≠a:=λe=>by subst e;exact Y W
  show upd w.H a o b=_;rw[bK ne];exact h
def aL.EU {k:Nat} {a:â} {o:HO} {c c0:Cell} (S:aL K w) (h0:w.ρ[k]?=some a) (h1:w.aA[k]?=some c0) (h2:c0≠.dead) (hc:tB K (w.put k a o c) a c):aL K (w.put k a o c) where
 len:=by show w.ρ.length=(w.aA.set k c).length;rw[Ģ];exact S.len
 nd:=S.nd
 there:=λj b e=>by
  show upd w.H a o b≠none;unfold upd;split
  ·intro z;cases z
  ·exact S.there j b e
 cell:=λj b Z e1 e2=>by
  have e1:w.ρ[j]?=some b:=e1;have e2:(w.aA.set k c)[j]?=some Z:=e2;by_cases Y:k=j
  ·subst Y
   rw[h0] at e1;have e1:a=b:=acs e1;rw[ç (Å.mp h1).1] at e2;have e2:c=Z:=acs e2;subst e1 e2;exact hc
  ·rw[Ý Y] at e2
   refine(S.cell j b Z e1 e2).le (Fw.put S h0 h1 h2).le λ_=>?_;show upd w.H a o b=w.H b;rw[bK];intro z;subst z;exact Y (Hq S.nd h0 e1)
noncomputable def Wd.freeze (w:Wd) (k:Nat):Wd:={ w with aA:=w.aA.set k .dead }
def Wd.BY (h:(w.freeze k).Z b):w.Z b:=by
 obtain⟨j,Y,e1,e2,X⟩:=h;have e2:(w.aA.set k .dead)[j]?=some Y:=e2;by_cases W:k=j
 ·subst W
  have V:=(Å.mp e2).1;rw[Ģ] at V;rw[ç V] at e2;exact absurd (acs e2).symm X
 ·rw[Ý W] at e2
  exact⟨j,Y,e1,e2,X⟩
theorem Fw.freeze:Fw K w (w.freeze k) :=
 ⟨λ_ _ e=>e,λ_ _ h=>h,λ_ _ Z h=>⟨λz=>Z (Wd.BY z),h⟩,λ_ _ _ Z h=>⟨λz=>Z (Wd.BY z),h⟩,λ_ _ Z h=>⟨λz=>Z (Wd.BY z),h⟩⟩
theorem aL.freeze (S:aL K w):aL K (w.freeze k) where
 len:=by show w.ρ.length=(w.aA.set k .dead).length;rw[Ģ];exact S.len
 nd:=S.nd
 there:=S.there
 cell:=λj b Z e1 e2=>by
  have e2:(w.aA.set k .dead)[j]?=some Z:=e2;by_cases Y:k=j
  ·subst Y
   have X:=(Å.mp e2).1;rw[Ģ] at X;rw[ç X] at e2;rw[<- acs e2];trivial
  ·rw[Ý Y] at e2
   exact(S.cell j b Z e1 e2).le Fw.freeze.le λ_=>rfl
def Wd.QI {k:Nat} {a:â} (S:aL K w) (h:w.ρ[k]?=some a):¬ (w.freeze k).Z a:=by
 rintro ⟨j,X,e1,e2,W⟩;have e1:w.ρ[j]?=some a:=e1;have e2:(w.aA.set k .dead)[j]?=some X:=e2;have V:=Hq S.nd h e1;subst V;have Y:=(Å.mp e2).1;rw[Ģ] at Y;rw[ç Y] at e2;exact W (acs e2).symm
end
structure cj (K:ļ) (w:Wd) (env:Env) (σ:St):Prop where
 len:env.length=σ.length
 val:∀(i:Nat) d,env[i]?=some (some d)->∃v,σ[i]?=some (some v)/\DV K w d v
theorem cj.le (h:cj K w env σ) (le:Le K w w'):cj K w' env σ :=
 ⟨h.len,λi d e=>by obtain⟨v,e1,e2⟩:=h.val i d e;exact⟨v,e1,le d v e2⟩⟩
theorem cj.set (h:cj K w env σ) (hd:DV K w d v) (i:Nat):cj K w (env.set i (some d)) (σ.set i (some v)):=by
 refine⟨by rw[Ģ,Ģ];exact h.len,λj X e=>?_⟩;by_cases Z:i=j
 ·subst Z
  have Y:=(Å.mp e).1;rw[Ģ] at Y;rw[ç Y] at e;have e:d=X:=acs (acs e);subst e;exact⟨v,by rw[ç (by rw[<- h.len];exact Y)],hd⟩
 ·rw[Ý Z] at e
  rw[Ý Z];exact h.val j X e
def Out (K:ļ) (Ξ:Wd->bt->Prop) (w:Wd) {α:Type} (r:Res α) (k:Wd->α->Prop):Prop:=match r with
 |none=>False
 |some (.ok a,s)=>∀Z,Le K w Z->aL K Z->Z.aA=s->k Z a
 |some (.error x,s)=>∀Z,Le K w Z->aL K Z->Z.aA=s->Ξ Z x
section
variable {K:ļ} {Ξ:Wd->bt->Prop} {w w':Wd} {α β:Type} {r:Res α} {k k':Wd->α->Prop}
def Out.from (h:Out K Ξ w r k) (le:Le K w w'):Out K Ξ w' r k:=by
 unfold Out at h |-
 split<;>simp only at h
 ·exact λZ Y X e2=>h Z (le.trans Y) X e2
 ·exact λZ Y X e2=>h Z (le.trans Y) X e2
def Out.mono (h:Out K Ξ w r k) (hk:∀w2 a,Le K w w2->aL K w2->k w2 a->k' w2 a):Out K Ξ w r k':=by
 unfold Out at h |-
 split<;>simp only at h
 ·exact λw2 Z Y e2=>hk w2 _ Z Y (h w2 Z Y e2)
 ·exact h
theorem Out.ao {q:Wd->β->Prop} (h:Out K Ξ w (DI.ao r g) q):Out K Ξ w r (λw2 a=>Out K Ξ w2 (g a w2.aA) q):=by
 match r,h with
 |some (.ok a,s),h =>
  intro w2 Z Y e2;rw[e2];exact Out.from h Z
 |some (.error x,s),h=>exact h
def Out.done (h:Out K Ξ w (some (.ok a,w.aA)) k) (S:aL K w):k w a:=h w (Le.refl w) S rfl
end
end DI
namespace DI
open PySem L2
def tE (K:ļ) (Ξ:Wd->bt->Prop) (f:acn D):TE:=fun σ H Q=>∃w env,w.H=H/\aL K w/\cj K w env σ/\Out K Ξ w (f env w.aA) λZ d=>∀v,DV K Z d v->Q v Z.H
def tT (K:ļ) (Ξ:Wd->bt->Prop) (f:acn Bool):TT:=fun σ H Q=>∃w env,w.H=H/\aL K w/\cj K w env σ/\Out K Ξ w (f env w.aA) λZ b=>Q b Z.H
def tA (K:ļ) (Ξ:Wd->bt->Prop) (f:acn (List D)):TA:=fun σ H Q=>∃w env,w.H=H/\aL K w/\cj K w env σ/\Out K Ξ w (f env w.aA) λZ X=>∀Y,ar K Z X Y->Q Y Z.H
def rO (K:ļ) (Ξ:Wd->bt->Prop) (o:D->D->ag->Res D):R2:=λx y H Q=>∃w Z Y,w.H=H/\aL K w/\DV K w Z x/\DV K w Y y/\Out K Ξ w (o Z Y w.aA) λX d=>∀v,DV K X d v->Q v X.H
def rU (K:ļ) (Ξ:Wd->bt->Prop) (o:D->ag->Res D):V->Hp->VK->Prop:=λx H Q=>∃w Z,w.H=H/\aL K w/\DV K w Z x/\Out K Ξ w (o Z w.aA) λY d=>∀v,DV K Y d v->Q v Y.H
def rC (K:ļ) (Ξ:Wd->bt->Prop) (o:List D->ag->Res D):List V->Hp->VK->Prop:=λX H Q=>∃w Z,w.H=H/\aL K w/\ar K w Z X/\Out K Ξ w (o Z w.aA) λY d=>∀v,DV K Y d v->Q v Y.H
def aa (i:Nat):acn D:=λenv s=>match env[i]? with
 |some (some d)=>ok d s
 |_=>none
def eC (d:D):acn D:=λ_ s=>ok d s
def e1 (o:D->ag->Res D) (f:acn D):acn D:=λenv s=>ao (f env s) λx s=>o x s
def e2 (o:D->D->ag->Res D) (f g:acn D):acn D:=λenv s=>ao (f env s) λx s=>ao (g env s) λy s=>o x y s
def ah:acn (List D):=λ_ s=>ok [] s
def ae (f:acn D) (g:acn (List D)):acn (List D):=λenv s=>ao (f env s) λx s=>ao (g env s) λZ s=>ok (x::Z) s
def eB (o:List D->ag->Res D) (f:acn (List D)):acn D:=λenv s=>ao (f env s) λZ s=>o Z s
def jc {α:Type} (ds:List D) (r:Res α):Res α:=if ds.length<=Õ then r else none
def bO (f:acn (List D)):acn D:=λenv s=>ao (f env s) λZ s=>jc Z (ok (.tup Z) s)
def lK (f:acn (List D)):acn D:=λenv s=>ao (f env s) λZ s=>jc Z (ok (.lst Z) s)
def eNew (f:acn (List D)):acn D:=λenv s=>ao (f env s) λZ s=>jc Z (ok (.ai s.length) (s++[.lst Z]))
def dw:D->ag->Res D:=λd s=>match d with
 | .ai k=>match s[k]? with
  |some (.lst Z)=>ok (.lst Z) (s.set k .dead)
  |_=>none
 |_=>none
def kG (f:acn D):acn D:=λenv s=>ao (f env s) dw
def ij (d:D) (s:ag):Res Bool:=match d with
 | .bl b=>ok b s
 |_=>none
def aC (f:acn D):acn Bool:=λenv s=>ao (f env s) ij
def truth (d:D) (s:ag):Res Bool:=match d with
 | .au=>ok false s
 | .bl b=>ok b s
 | .int i=>ok (i != 0) s
 | .str x=>if x.length<=Õ then ok ((x.length:Int) != 0) s else none
 | .tup Z=>ok (!Z.isEmpty) s
 | .lst Z=>ok (!Z.isEmpty) s
 | .bJ Y=>ok (!Y.isEmpty) s
 | .ai k=>match s[k]? with
  |some (.lst Z)=>ok (!Z.isEmpty) s
  |some (.dK Y)=>ok (!Y.isEmpty) s
  |_=>none
 | .ty _=>none
 | .bQ _=>none
def dZ (f:acn D):acn Bool:=λenv s=>ao (f env s) truth
def dh (f g:acn Bool):acn Bool:=λenv s=>ao (f env s) λb s=>if b=true then g env s else ok false s
def iW (f g:acn Bool):acn Bool:=λenv s=>ao (f env s) λb s=>if b=true then ok true s else g env s
def ig (f:acn Bool):acn Bool:=λenv s=>ao (f env s) λb s=>ok (!b) s
def dj (f g:acn D):acn D:=λenv s=>ao (f env s) λx s=>ao (ij x s) λb s=>if b=true then g env s else ok (.bl false) s
def ma (f g:acn D):acn D:=λenv s=>ao (f env s) λx s=>ao (ij x s) λb s=>if b=true then ok (.bl true) s else g env s
def rj (f:acn D):acn D:=λenv s=>ao (f env s) λx s=>ao (ij x s) λb s=>ok (.bl (!b)) s
def rW (c:acn Bool) (f g:acn D):acn D:=λenv s=>ao (c env s) λb s=>if b=true then f env s else g env s
def pO (o o':D->D->ag->Res D) (f g h:acn D):acn D:=λenv s=>ao (f env s) λx s=>ao (g env s) λy s=>ao (o x y s) λz s=>ao (ij z s) λb s =>
 if b=true then ao (h env s) λu s=>o' y u s else ok (.bl false) s
section
variable {X:Cx} {Ξ:Wd->bt->Prop} {e a b c:Ņ} {es rest:List Ņ} {pos:Pos} {f g h:acn D} {fa:acn (List D)} {ft gt:acn Bool}
def dg {t t':TE} (h:PE X e t) (i:∀ σ H Q,t' σ H Q->t σ H Q):PE X e t':=λZ s σ H Q I Y=>h Z s σ H Q I (i σ H Q Y)
def zw {t t':TT} (h:PT X e t) (i:∀ σ H Q,t' σ H Q->t σ H Q):PT X e t':=λZ s σ H Q I Y=>h Z s σ H Q I (i σ H Q Y)
def K4 {t t':TT} (h:PW X e t) (i:∀ σ H Q,t' σ H Q->t σ H Q):PW X e t':=λZ Y s σ H Q I W=>h Z Y s σ H Q I (i σ H Q W)
def K5 {t t':TA} (h:PA X es t) (i:∀ σ H Q,t' σ H Q->t σ H Q):PA X es t':=λp Z s σ H Q I Y=>h p Z s σ H Q I (i σ H Q Y)
def kg (h:PS X st t) (i:∀D σ H,t' D σ H->t D σ H):PS X st t':=λZ s σ H D I Y=>h Z s σ H D I (i D σ H Y)
def J2 (h:fx X st t) (i:∀D σ H,t' D σ H->t D σ H):fx X st t':=λZ s σ H D I Y=>h Z s σ H D I (i D σ H Y)
def aF {α:Type} {K:ļ} {w:Wd} {a:α} {k:Wd->α->Prop} (S:aL K w) (h:Out K Ξ w (ok a w.aA) k):k w a:=h w (Le.refl w) S rfl
def af (i:Nat) {x:Str} (hN:X.N[i]?=some x:=by rfl) (hv:w6 X.env.scope x:=by first|exact Ş rfl|exact ack (Ş rfl)|exact ack (ack rfl)) (hd:(x==("__debug__":Str))=false:=by decide)
  (lR:(x==("__classdict__":Str))=false:=by decide):PE X (.Name x pos) (tE X.K Ξ (aa i)):=dg (VG hN hv hd lR) fun σ H Q Z=>by
 obtain⟨w,env,Y,S,W,h⟩:=Z;unfold aa at h;split at h
 ·rename_i d V
  obtain⟨v,e1,e2⟩:=W.val i d V;subst Y;exact⟨v,e1,aF S h v e2⟩
 ·exact h.elim
def tV {d:D} {v:V} (h:PE X e (tC v)) (hd:∀w,DV X.K w d v):PE X e (tE X.K Ξ (eC d)):=dg h fun σ H Q Z=>by
 obtain⟨w,env,Y,S,W,h⟩:=Z;subst Y;exact aF S h v (hd w)
def ay {i j}:PE X (.Constant (.int i) j pos) (tE X.K Ξ (eC (.int i))):=tV KO λ_=>rfl
def fG {b j}:PE X (.Constant (.bool b) j pos) (tE X.K Ξ (eC (.bl b))):=tV Xb λ_=>rfl
def zZ {j}:PE X (.Constant .none j pos) (tE X.K Ξ (eC .au)):=tV KP λ_=>rfl
def nV {x j}:PE X (.Constant (.str x) j pos) (tE X.K Ξ (eC (.str x))):=tV VH λ_=>rfl
def za (σ:St) (H:Hp) (Q:VK):tE K Ξ (e2 o f g) σ H Q->xi (rO K Ξ o) (tE K Ξ f) (tE K Ξ g) σ H Q:=by
 rintro ⟨w,env,rfl,S,Z,h⟩;exact⟨w,env,rfl,S,Z,(Out.ao h).mono λY x X W V v1 U=>⟨Y,env,rfl,W,Z.le X,(Out.ao V).mono λT y R P O v2 N=>⟨T,x,y,rfl,P,R _ _ U,N,O⟩⟩⟩
def cq (ho:aZ X (ř op) (rO X.K Ξ o)) (ha:PE X a (tE X.K Ξ f)) (hb:PE X b (tE X.K Ξ g)):PE X (.BinOp a op b pos) (tE X.K Ξ (e2 o f g)):=dg (Xl ho ha hb) za
def fE (ho:aZ X (Č op) (rO X.K Ξ o)) (ha:PE X a (tE X.K Ξ f)) (hb:PE X b (tE X.K Ξ g)) (hm:aaW op b=false):PE X (.Compare a [op] [b] pos) (tE X.K Ξ (e2 o f g)):=dg (T7 ho ha hb hm) za
def K6 {K:ļ} (σ:St) (H:Hp) (Q:Bool->Hp->Prop):tT K Ξ (aC f) σ H Q->vV (tE K Ξ f) σ H Q:=by
 rintro ⟨w,env,rfl,S,Y,h⟩;refine⟨w,env,rfl,S,Y,(Out.ao h).mono λV x U X Z v1 W=>?_⟩
 cases x with
 |bl b =>
  have e:v1=.bl b:=W;exact⟨b,e,aF X Z⟩
 |_=>exact Z.elim
def HK (i:∀ σ H Q,t' σ H Q->t σ H Q) (σ:St) (H:Hp) (Q:Bool->Hp->Prop):vV t' σ H Q->vV t σ H Q:=λh=>i _ _ _ h
def bp (ho:aZ X (Č op) (rO X.K Ξ o)) (ha:PE X a (tE X.K Ξ f)) (hb:PE X b (tE X.K Ξ g)) (hm:aaW op b=false):PT X (.Compare a [op] [b] pos) (tT X.K Ξ (aC (e2 o f g))) :=
 zw (T8 ho ha hb hm) fun σ H Q h=>HK za σ H Q (K6 σ H Q h)
def K7 {K:ļ} {o o':D->D->ag->Res D} (σ:St) (H:Hp) (Q:VK):tE K Ξ (pO o o' f g h) σ H Q->De (rO K Ξ o) (rO K Ξ o') (tE K Ξ f) (tE K Ξ g) (tE K Ξ h) σ H Q:=by
 rintro ⟨w,env,rfl,S,Y,h⟩;refine⟨w,env,rfl,S,Y,(Out.ao h).mono λP x W O N v1 M=>⟨P,env,rfl,O,Y.le W,(Out.ao N).mono λL y V J I v2 U=>⟨L,x,y,rfl,J,V _ _ M,U,(Out.ao I).mono λG z T X F E C=>?_⟩⟩⟩;have R:=Out.ao F
 cases z with
 |bl b =>
  have e:E=.bl b:=C;have Z:=aF X R;refine⟨b,e,?_⟩
  cases b with
  |true =>
   rw[ß rfl] at Z |-;exact⟨G,env,rfl,X,Y.le (W.trans (V.trans T)),(Out.ao Z).mono λB u A v t v4 s=>⟨B,y,u,rfl,v,(T.trans A) _ _ U,s,t⟩⟩
  |false =>
   rw[æ Í] at Z |-;exact aF X Z _ rfl
 |_=>exact R.elim
def J3 (ho:aZ X (Č op) (rO X.K Ξ o)) (eQ:aZ X (Č jZ) (rO X.K Ξ o')) (ha:PE X a (tE X.K Ξ f)) (hb:PE X b (tE X.K Ξ g)) (hc:PE X c (tE X.K Ξ h))
 (hm:lastMarks [op,jZ] [b,c]=false:=by with_unfolding_all rfl):PE X (.Compare a [op,jZ] [b,c] pos) (tE X.K Ξ (pO o o' f g h)):=dg (RN ho eQ ha hb hc hm) K7
def UC (ho:aZ X (Č op) (rO X.K Ξ o)) (eQ:aZ X (Č jZ) (rO X.K Ξ o')) (ha:PE X a (tE X.K Ξ f)) (hb:PE X b (tE X.K Ξ g)) (hc:PE X c (tE X.K Ξ h))
 (hm:lastMarks [op,jZ] [b,c]=false:=by with_unfolding_all rfl):PT X (.Compare a [op,jZ] [b,c] pos) (tT X.K Ξ (aC (pO o o' f g h))):=zw (RO ho eQ ha hb hc hm) fun σ H Q h=>HK K7 σ H Q (K6 σ H Q h)
def EV (ho:xh X (unaryOp op) (rU X.K Ξ o)) (ha:PE X a (tE X.K Ξ f)):PE X (.UnaryOp op a pos) (tE X.K Ξ (e1 o f)):=dg (LN ho ha) fun σ H Q Z=>by
 obtain⟨w,env,Y,S,W,h⟩:=Z;subst Y;exact⟨w,env,rfl,S,W,(Out.ao h).mono λV x P U T v1 R=>⟨V,x,rfl,U,R,T⟩⟩
def dD:PA X [] (tA X.K Ξ ah):=K5 nM fun σ H Q Z=>by
 obtain⟨w,env,Y,S,W,h⟩:=Z;subst Y;exact aF S h _ rfl
def bg (ha:PE X e (tE X.K Ξ f)) (hr:PA X es (tA X.K Ξ fa)) (hs:Þ (e::es) X.env=(false,ś e X.env)::Þ es X.env:=by rfl):PA X (e::es) (tA X.K Ξ (ae f fa)):=K5 (kY ha hr hs) fun σ H Q Y=>by
 obtain⟨w,env,W,S,Z,h⟩:=Y;subst W;exact⟨w,env,rfl,S,Z,(Out.ao h).mono λV x U T R v1 P=>⟨V,env,rfl,T,Z.le U,(Out.ao R).mono λI G O N M L J=>aF N M _ ⟨v1,L,rfl,O _ _ P,J⟩⟩⟩
def qa {α:Type} {K:ļ} {w:Wd} {ds:List D} {r:Res α} {k:Wd->α->Prop} (h:Out K Ξ w (jc ds r) k):ds.length<=Õ/\Out K Ξ w r k:=by
 unfold jc at h;split at h
 ·exact⟨by assumption,h⟩
 ·exact h.elim
def dY {x1} (ha:PA X es (tA X.K Ξ fa)):PE X (.Tuple es x1 pos) (tE X.K Ξ (bO fa)):=dg (V0 ha) fun σ H Q V=>by
 obtain⟨w,env,U,S,T,h⟩:=V;subst U;refine⟨w,env,rfl,S,T,(Out.ao h).mono λR L J P O Y W=>?_⟩;obtain⟨N,M⟩:=qa O;refine⟨by rw[<- W.length];exact N,λp Z=>?_⟩;exact M (R.grow p (.tup Y)) (Fw.grow Z).le (P.grow Z) rfl (.ref p) ⟨p,Y,rfl,bo.of eT,(Fw.grow Z).le.all W⟩
def qr {K:ļ} {w:Wd} {p:â} (S:aL K w) (hp:w.H p=none):¬ w.Z p:=λ⟨k,c,e1,_,_⟩=>S.there k p e1 hp
def oS (ha:PA X es (tA X.K Ξ fa)):PE X (.List es pos) (tE X.K Ξ (lK fa)):=dg (KW ha) fun σ H Q R=>by
 obtain⟨w,env,P,S,O,h⟩:=R;subst P;refine⟨w,env,rfl,S,O,(Out.ao h).mono λW J I V N U T=>?_⟩;obtain⟨M,L⟩:=qa N;refine⟨by rw[<- T.length];exact M,λp Y=>?_⟩;exact L (W.grow p (.lst U)) (Fw.grow Y).le (V.grow Y) rfl (.ref p) ⟨p,U,rfl,⟨(show ¬ W.Z p from qr V Y),eT⟩,(Fw.grow Y).le.all T⟩
def nW (ha:PA X es (tA X.K Ξ fa)):PE X (.List es pos) (tE X.K Ξ (eNew fa)):=dg (KW ha) fun σ H Q R=>by
 obtain⟨w,env,P,S,O,h⟩:=R;subst P;refine⟨w,env,rfl,S,O,(Out.ao h).mono λZ V J Y N W U=>?_⟩;obtain⟨M,L⟩:=qa N;refine⟨by rw[<- U.length];exact M,λp T=>?_⟩;have le:=(Fw.cell (o:=.lst W) (c:=.lst V) Y T).le;refine L (Z.cell p (.lst W) (.lst V)) le (Y.zY T ⟨W,eT,le.all U⟩) rfl (.ref p) ⟨p,?_,rfl⟩;show (Z.ρ++[p])[Z.aA.length]?=some p;rw[<- Y.len];simp
def tW (ha:PE X a (tE X.K Ξ f)):PE X a (tE X.K Ξ (kG f)):=dg ha fun σ H Q W=>by
 obtain⟨w,env,V,S,U,h⟩:=W;subst V;refine⟨w,env,rfl,S,U,(Out.ao h).mono λT x L Y Z v1 R=>?_⟩;unfold dw at Z;split at Z
 ·rename_i k
  split at Z
  ·rename_i J P
   obtain⟨p,e1,e2⟩:=R;obtain⟨O,N,M⟩:=Y.cell k p _ e1 P;exact Z (T.freeze k) Fw.freeze.le Y.freeze rfl v1 ⟨p,O,e2,⟨Wd.QI Y e1,N⟩,Fw.freeze.le.all M⟩
  ·exact Z.elim
 ·exact Z.elim
theorem qZ.of {K:ļ} {w:Wd} {d:D} {v:V} {k:Wd->Bool->Prop} (S:aL K w) (hd:DV K w d v) (h:Out K Ξ w (truth d w.aA) k):∃b,qZ K v w.H b/\k w b:=by
 cases d with
 |au=>have e:v=.au:=hd;subst e;exact⟨_,rfl,aF S h⟩
 |bl b=>have e:v=.bl b:=hd;subst e;exact⟨_,rfl,aF S h⟩
 |int i=>have e:v=.int i:=hd;subst e;exact⟨_,rfl,aF S h⟩
 |str x =>
  have e:v=.str x:=hd;subst e;unfold truth at h
  split at h<;>first|contradiction|skip
  all_goals (rename_i e;cases e)
  split at h
  ·exact⟨_,⟨by assumption,rfl⟩,aF S h⟩
  ·exact h.elim
 |tup Y =>
  simp only[DV] at hd;obtain⟨a,Z,rfl,X,r⟩:=hd;refine⟨_,.inr (.inl ⟨Z,X,?_⟩),aF S h⟩;have e:=r.length
  cases Y<;>cases Z<;>first|rfl|cases e
 |lst Y =>
  simp only[DV] at hd;obtain⟨a,Z,rfl,X,r⟩:=hd;refine⟨_,.inl ⟨Z,X.sq,?_⟩,aF S h⟩;have e:=r.length
  cases Y<;>cases Z<;>first|rfl|cases e
 |bJ W =>
  simp only[DV] at hd;obtain⟨a,rfl,_,X⟩:=hd;refine⟨_,.inr (.inr ⟨_,X,?_⟩),aF S h⟩
  cases W<;>rfl
 |ai j =>
  simp only[DV] at hd;obtain⟨a,e1,rfl⟩:=hd;simp only[truth] at h;split at h
  ·rename_i Y U
   obtain⟨Z,T,R⟩:=S.cell j a _ e1 U;refine⟨_,.inl ⟨Z,bq.of T,?_⟩,aF S h⟩;have e:=R.length
   cases Y<;>cases Z<;>first|rfl|cases e
  ·rename_i W U
   obtain⟨es,T,R,Q⟩:=S.cell j a _ e1 U;refine⟨_,.inr (.inr ⟨es,T,?_⟩),aF S h⟩;have e:=Ŀ List.length R
   cases W<;>cases es<;>first|rfl|simp at e
  ·exact h.elim
 |ty n=>exact h.elim
 |bQ P=>exact h.elim
def fO (ha:PE X a (tE X.K Ξ f)) (he:∀whole,aci a X.env whole=(do let v <- whole;aak a.pos;aaj [v] (truthy v)):=by intro _;rfl):PT X a (tT X.K Ξ (dZ f)):=zw (RP ha he) fun σ H Q Z=>by
 obtain⟨w,env,Y,S,W,h⟩:=Z;subst Y;exact⟨w,env,rfl,S,W,(Out.ao h).mono λR x P V U v1 T=>qZ.of V T U⟩
def ku (ha:PT X a (tT X.K Ξ ft)):PT X (.UnaryOp .Not a pos) (tT X.K Ξ (ig ft)):=zw (VL ha) fun σ H Q Z=>by
 obtain⟨w,env,Y,S,W,h⟩:=Z;subst Y;exact⟨w,env,rfl,S,W,(Out.ao h).mono λT b R V U=>aF V U⟩
def qt (ha:PT X a (tT X.K Ξ ft)):PW X (.BoolOp .And [a] pos) (tT X.K Ξ ft):=TX ha
def nX (ha:PT X a (tT X.K Ξ ft)):PW X (.BoolOp .Or [a] pos) (tT X.K Ξ ft):=VI ha
def w_and (ha:PT X a (tT X.K Ξ ft)) (hb:PW X (.BoolOp .And (b::rest) pos) (tT X.K Ξ gt)):PW X (.BoolOp .And (a::b::rest) pos) (tT X.K Ξ (dh ft gt)):=K4 (VJ ha hb) fun σ H Q V=>by
 obtain⟨w,env,U,S,Z,h⟩:=V;subst U;refine⟨w,env,rfl,S,Z,(Out.ao h).mono λT b R Y W=>?_⟩
 cases b with
 |true=>exact⟨T,env,rfl,Y,Z.le R,W⟩
 |false=>exact aF Y W
def w_or (ha:PT X a (tT X.K Ξ ft)) (hb:PW X (.BoolOp .Or (b::rest) pos) (tT X.K Ξ gt)):PW X (.BoolOp .Or (a::b::rest) pos) (tT X.K Ξ (iW ft gt)):=K4 (Xc ha hb) fun σ H Q V=>by
 obtain⟨w,env,U,S,Z,h⟩:=V;subst U;refine⟨w,env,rfl,S,Z,(Out.ao h).mono λT b R Y W=>?_⟩
 cases b with
 |false=>exact⟨T,env,rfl,Y,Z.le R,W⟩
 |true=>exact aF Y W
def eV {op} (ha:PE X a (tE X.K Ξ f)):PE X (.BoolOp op [a] pos) (tE X.K Ξ f):=VM ha
def CM {K:ļ} {w:Wd} {d:D} {v:V} {k:Wd->Bool->Prop} (S:aL K w) (hd:DV K w d v) (h:Out K Ξ w (ij d w.aA) k):∃b,v=.bl b/\k w b:=by
 cases d with
 |bl b=>exact⟨b,hd,aF S h⟩
 |_=>exact h.elim
def fq (ha:PE X a (tE X.K Ξ f)) (hb:PE X (.BoolOp .And (b::rest) pos) (tE X.K Ξ g)):PE X (.BoolOp .And (a::b::rest) pos) (tE X.K Ξ (dj f g)):=dg (VN ha hb) fun σ H Q V=>by
 obtain⟨w,env,U,S,Y,h⟩:=V;subst U;refine⟨w,env,rfl,S,Y,(Out.ao h).mono λT x R Z P v1 O=>?_⟩;obtain⟨b,e,W⟩:=CM Z O (Out.ao P);refine⟨b,e,?_⟩
 cases b with
 |true=>exact⟨T,env,rfl,Z,Y.le R,W⟩
 |false=>exact aF Z W _ rfl
def rl (ha:PE X a (tE X.K Ξ f)) (hb:PE X (.BoolOp .Or (b::rest) pos) (tE X.K Ξ g)):PE X (.BoolOp .Or (a::b::rest) pos) (tE X.K Ξ (ma f g)):=dg (Xf ha hb) fun σ H Q V=>by
 obtain⟨w,env,U,S,Y,h⟩:=V;subst U;refine⟨w,env,rfl,S,Y,(Out.ao h).mono λT x R Z P v1 O=>?_⟩;obtain⟨b,e,W⟩:=CM Z O (Out.ao P);refine⟨b,e,?_⟩
 cases b with
 |false=>exact⟨T,env,rfl,Z,Y.le R,W⟩
 |true=>exact aF Z W _ rfl
def z0 (ha:PE X a (tE X.K Ξ f)):PE X (.UnaryOp .Not a pos) (tE X.K Ξ (rj f)):=dg (VO ha) fun σ H Q Y=>by
 obtain⟨w,env,W,S,V,h⟩:=Y;subst W;refine⟨w,env,rfl,S,V,(Out.ao h).mono λP x O Z U v1 T=>?_⟩;obtain⟨b,e,R⟩:=CM Z T (Out.ao U);exact⟨b,e,aF Z R _ rfl⟩
def Az (hc:PT X c (tT X.K Ξ ft)) (ha:PE X a (tE X.K Ξ f)) (hb:PE X b (tE X.K Ξ g)):PE X (.IfExp c a b pos) (tE X.K Ξ (rW ft f g)):=dg (RL hc ha hb) fun σ H Q T=>by
 obtain⟨w,env,R,S,Z,h⟩:=T;subst R;refine⟨w,env,rfl,S,Z,(Out.ao h).mono λY b W V U=>?_⟩
 cases b with
 |true=>exact⟨Y,env,rfl,V,Z.le W,U⟩
 |false=>exact⟨Y,env,rfl,V,Z.le W,U⟩
def K8 (σ:St) (H:Hp) (Q:VK):tE K Ξ (eB o fa) σ H Q->Fp (rC K Ξ o) (tA K Ξ fa) σ H Q:=by
 rintro ⟨w,env,rfl,S,Z,h⟩;exact⟨w,env,rfl,S,Z,(Out.ao h).mono λY X T W V R U=>⟨Y,X,rfl,W,U,V⟩⟩
def bF {x:Str} {p:Pos} {id:String} {o:List D->ag->Res D} (hc:cB X (.builtin id) (rC X.K Ξ o)) (hg:Gl X x) (hm:X.mg x=none) (hv:Ă x=some (.builtin id)) (ha:PA X (e::es) (tA X.K Ξ fa)) (hn:x≠"__name__":=by decide) (j3:(x==("__debug__":Str))=false:=by decide)
  (he:Þ (e::es) X.env=(false,ś e X.env)::Þ es X.env:=by rfl) (dA:(χ pos (Þ es X.env)).any (·.1)=false:=by rfl):PE X (.Call (.Name x p) (e::es) [] pos) (tE X.K Ξ (eB o fa)):=dg (yM hc hg hm hv ha hn j3 he dA) K8
def kX {x:Str} {p:Pos} {T:String} {o:List D->ag->Res D} (hc:cB X (.type T) (rC X.K Ξ o)) (hg:Gl X x) (hm:X.mg x=none) (hv:Ă x=some (.type T)) (ha:PA X (e::es) (tA X.K Ξ fa)) (hn:x≠"__name__":=by decide) (j3:(x==("__debug__":Str))=false:=by decide)
  (he:Þ (e::es) X.env=(false,ś e X.env)::Þ es X.env:=by rfl) (dA:(χ pos (Þ es X.env)).any (·.1)=false:=by rfl):PE X (.Call (.Name x p) (e::es) [] pos) (tE X.K Ξ (eB o fa)):=dg (BM hc hg hm hv ha hn j3 he dA) K8
end
set_option genInjectivity true in
inductive Fl where
 |nx (env:Env)|rt (d:D)|bk (env:Env)|ct (env:Env)
def EW (K:ļ) (D:Ends) (w:Wd):Fl->Prop
 | .nx env=>∀ σ,cj K w env σ->D.nx σ w.H
 | .rt d=>∀v,DV K w d v->D.rt v w.H
 | .bk env=>∀ σ,cj K w env σ->D.bk σ w.H
 | .ct env=>∀ σ,cj K w env σ->D.ct σ w.H
def tS (K:ļ) (Ξ:Wd->bt->Prop) (f:acn Fl):TS:=λD σ H=>∃w env,w.H=H/\aL K w/\cj K w env σ/\Out K Ξ w (f env w.aA) (EW K D)
def cK:acn Fl:=λenv s=>ok (.nx env) s
def aw (f g:acn Fl):acn Fl:=λenv s=>ao (f env s) λfl s=>match fl with
 | .nx env=>g env s
 |fl=>ok fl s
def aQ (f:acn D):acn Fl:=λenv s=>ao (f env s) λd s=>ok (.rt d) s
def fF (f:acn D):acn Fl:=λenv s=>ao (f env s) λ_ s=>ok (.nx env) s
def cG (c:acn Bool) (f g:acn Fl):acn Fl:=λenv s=>ao (c env s) λb s=>if b=true then f env s else g env s
def LS:acn Fl:=λenv s=>ok (.ct env) s
def aK (f:acn D) (g:D->Env->Option Env):acn Fl:=λenv s=>ao (f env s) λd s=>match g d env with
 |some Z=>ok (.nx Z) s
 |none=>none
def gN (i:Nat):D->Env->Option Env:=λd env=>some (env.set i (some d))
def iS:List (D->Env->Option Env)->List D->Env->Option Env
 | [],[],env=>some env
 |g::Y,d::X,env=>match g d env with
  |some Z=>iS Y X Z
  |none=>none
 |_,_,_=>none
def gT (gs:List (D->Env->Option Env)):D->Env->Option Env:=λd env=>match d with
 | .tup Z=>iS gs Z env
 |_=>none
def mP (g:D->Env->Option Env) (b:acn Fl):List D->acn Fl
 | [],env,s=>ok (.nx env) s
 |d::Y,env,s=>match g d env with
  |none=>none
  |some Z=>ao (b Z s) λX s=>match X with
   | .nx e=>mP g b Y e s
   | .ct e=>mP g b Y e s
   | .bk e=>ok (.nx e) s
   | .rt d=>ok (.rt d) s
def ef (it:acn (List D)) (g:D->Env->Option Env) (b:acn Fl):acn Fl:=λenv s=>ao (it env s) λZ s=>mP g b Z env s
def ne {α:Type} (r:Res α):Res α:=match r with
 |some (.ok a,s)=>some (.ok a,s)
 |_=>none
@[simp] theorem jK {α:Type} {a:α} {s:ag}:ne (some (.ok a,s))=some (.ok a,s):=rfl
def cX (cap:List Nat) (env:Env):Env:=cap.map λj=>(env[j]?).getD none
def bY (nt:Nat) (caps:Env) (g:D->Env->Option Env) (t:acn Bool) (f:acn D):List D->ag->Res (List D)
 | [],s=>ok [] s
 |d::Z,s=>match g d (Ñ nt none++caps) with
  |none=>none
  |some env=>ao (ne (t env s)) λb s=>if b=true then ao (ne (f env s)) λx s=>ao (bY nt caps g t f Z s) λY s=>ok (x::Y) s
   else bY nt caps g t f Z s
def aM (nt:Nat) (cap:List Nat) (it:acn (List D)) (g:D->Env->Option Env) (t:acn Bool) (f:acn D):acn D:=λenv s =>
 ao (it env s) λZ s=>jc Z (ao (bY nt (cX cap env) g t f Z s) λY s=>ok (.lst Y) s)
def oK (nt:Nat) (cap:List Nat) (it:acn (List D)) (g:D->Env->Option Env) (t:acn Bool) (f:acn D):acn D:=λenv s =>
 ao (it env s) λZ s=>jc Z (ao (bY nt (cX cap env) g t f Z s) λY s=>ok (.ai s.length) (s++[.lst Y]))
def ba:acn Bool:=λ_ s=>ok true s
def aW (np ns:Nat) (b:acn Fl):List D->ag->Res D:=λZ s=>if Z.length=np then ao (b (Z.map some++Ñ (ns-np) none) s) λY s=>match Y with
 | .rt d=>ok d s
 | .nx _=>ok .au s
 |_=>none else none
abbrev bj:Wd->bt->Prop:=λ_ _=>False
def nq (K:ļ) (f:List D->ag->Res D):Sp:=λX H Q _=>∃w Z,w.H=H/\aL K w/\ar K w Z X/\Out K bj w (f Z w.aA) λY d=>∀v,DV K Y d v->Q v Y.H
section
variable {X:Cx} {Ξ:Wd->bt->Prop} {e a b c tg:Ņ} {es rest:List Ņ} {pos:Pos} {f g h:acn D} {fa:acn (List D)} {ft gt:acn Bool} {st:Stmt} {pP EX:List Stmt} {fs gs:acn Fl}
def fP:fx X [] (tS X.K Ξ cK):=J2 TY λD σ H Z=>by
 obtain⟨w,env,Y,S,W,h⟩:=Z;subst Y;exact aF S h σ W
def aB (h1:PS X st (tS X.K Ξ fs)) (h2:fx X pP (tS X.K Ξ gs)):fx X (st::pP) (tS X.K Ξ (aw fs gs)):=J2 (RM h1 h2) λD σ H W=>by
 obtain⟨w,env,V,S,U,h⟩:=W;subst V;refine⟨w,env,rfl,S,U,(Out.ao h).mono λT R P Y h1=>?_⟩
 cases R with
 |nx Z=>exact fun O Q=>⟨T,Z,rfl,Y,Q,h1⟩
 |rt d=>have q:=aF Y h1;exact q
 |bk Z=>have q:=aF Y h1;exact q
 |ct Z=>have q:=aF Y h1;exact q
def aI (h1:PS X st (tS X.K Ξ fs)):fx X [st] (tS X.K Ξ fs):=TZ h1
def aY (he:PE X e (tE X.K Ξ f)):PS X (.Return (some e) pos) (tS X.K Ξ (aQ f)):=kg (VP he) λD σ H Z=>by
 obtain⟨w,env,Y,S,W,h⟩:=Z;subst Y;exact⟨w,env,rfl,S,W,(Out.ao h).mono λT d R V U=>aF V U⟩
def jx (he:PE X e (tE X.K Ξ f)) (hs:abL e none pos.line X.env=pure false:=by rfl):PS X (.Expr e pos) (tS X.K Ξ (fF f)):=kg (T4 he hs) λD σ H Y=>by
 obtain⟨w,env,W,S,Z,h⟩:=Y;subst W;exact⟨w,env,rfl,S,Z,(Out.ao h).mono λR d V U T _ _=>aF U T σ (Z.le V)⟩
def fQ (hc:PT X c (tT X.K Ξ ft)) (ha:fx X pP (tS X.K Ξ fs)) (hb:fx X EX (tS X.K Ξ gs)):PS X (.If c pP EX pos) (tS X.K Ξ (cG ft fs gs)):=kg (Xi hc ha hb) λD σ H T=>by
 obtain⟨w,env,R,S,Z,h⟩:=T;subst R;refine⟨w,env,rfl,S,Z,(Out.ao h).mono λY b W V U=>?_⟩
 cases b with
 |true=>exact⟨Y,env,rfl,V,Z.le W,U⟩
 |false=>exact⟨Y,env,rfl,V,Z.le W,U⟩
def A6:acn Fl:=λ_ _=>none
def BZ:fx X pP (tS X.K Ξ A6):=λ_ _ _ _ _ _ h=>by obtain⟨w,env,_,_,_,h⟩:=h;exact h.elim
def gD (K:ļ) (g:D->Env->Option Env):TG:=λv σ H Q=>∃w env d Z,w.H=H/\aL K w/\cj K w env σ/\DV K w d v/\g d env=some Z/\∀ Y,cj K w Z Y->Q Y H
def xC (K:ļ) (g:List D->Env->Option Env):lS:=λW σ H Q=>∃w env Y Z,w.H=H/\aL K w/\cj K w env σ/\ar K w Y W/\g Y env=some Z/\∀ X,cj K w Z X->Q X H
def K9 {t t':TG} (h:PG X e t) (i:∀v σ H Q,t' v σ H Q->t v σ H Q):PG X e t':=λZ s σ H v u Q I r Y=>h Z s σ H v u Q I r (i v σ H Q Y)
def J4 {t t':lS} (h:ng X es t) (i:∀v σ H Q,t' v σ H Q->t v σ H Q):ng X es t':=λZ s σ H v u Q I r Y=>h Z s σ H v u Q I r (i v σ H Q Y)
def bR (i:Nat) {x:Str} (hN:X.N.Nodup) (hi:X.N[i]?=some x:=by rfl) (hx:Loc X.env.scope x:=by first|exact Ş rfl|exact ack rfl) (hf:X.fn x=true\/X.env.scope.names.lookup x=some .local:=by first|exact .inl rfl|exact .inr rfl):PG X (.Name x pos) (gD X.K (gN i)) :=
 K9 (cm hN hi hx hf) λv σ H Q Y=>by
  obtain⟨w,env,d,Z,T,S,W,V,U,k⟩:=Y;have e:env.set i (some d)=Z:=acs U;subst e;exact k _ (W.set V i)
def mM:ng X [] (xC X.K (iS [])):=J4 oE λR σ H Q V=>by
 obtain⟨w,env,Y,Z,P,S,U,T,W,k⟩:=V
 cases Y with
 |nil =>
  have e:env=Z:=acs W;subst e;exact⟨T,k _ U⟩
 |cons d Y=>cases W
def fB {g:D->Env->Option Env} {gl:List (D->Env->Option Env)} (h1:PG X e (gD X.K g)) (h2:ng X es (xC X.K (iS gl)))
  (hs:(ų (e::es) X.env).map (·.2)=aai e X.env::(ų es X.env).map (·.2):=by rfl):ng X (e::es) (xC X.K (iS (g::gl))):=J4 (i6 h1 h2 hs) λL σ H Q R=>by
 obtain⟨w,env,W,Y,U,S,P,O,Z,k⟩:=R
 cases W with
 |nil=>cases Z
 |cons d W =>
  obtain⟨v,r,rfl,N,dr⟩:=O;simp only[iS] at Z
  cases V:g d env with
  |none=>rw[V] at Z;cases Z
  |some T =>
   rw[V] at Z;refine⟨v,r,rfl,w,env,d,T,U,S,P,N,V,fun J M=>⟨w,T,W,Y,U,S,M,dr,Z,k⟩⟩
theorem B0:∀{gl:List (D->Env->Option Env)} {ds:List D} {env env':Env},iS gl ds env=some env'->ds.length=gl.length
 | [],[],_,_,_=>rfl
 |g::gl,d::ds,env,env',h=>by
  simp only[iS] at h
  cases Z:g d env with
  |none=>rw[Z] at h;cases h
  |some e1=>rw[Z] at h;simp[B0 h]
 | [],_::_,_,_,h=>by cases h
 |_::_,[],_,_,h=>by cases h
def mQ {gl:List (D->Env->Option Env)} {k:Nat} (hc:X.calm=true) (h:ng X es (xC X.K (iS gl))) (hn:(ų es X.env).length=gl.length:=by rfl) (rN:(ų es X.env).findIdx? (·.1)=none:=by rfl):PG X (.Tuple es k pos) (gD X.K (gT gl)) :=
 K9 (ke hc h hn rN) λv σ H Q U=>by
  obtain⟨w,env,d,Z,T,S,R,W,Y,k⟩:=U
  cases d with
  |tup P =>
   simp only[DV] at W;obtain⟨p,O,e1,N,V⟩:=W;subst T;exact⟨p,O,e1,N,by rw[<- V.length];exact B0 Y,w,env,P,Z,rfl,S,R,V,Y,k⟩
  |_=>cases Y
def zb {K:ļ} {g:D->Env->Option Env} (D:Ends) (σ:St) (H:Hp):tS K Ξ (aK f g) D σ H->qY (tE K Ξ f) (gD K g) D σ H:=by
 rintro ⟨w,env,rfl,S,W,h⟩;refine⟨w,env,rfl,S,W,(Out.ao h).mono λU d T V Y v R=>?_⟩
 cases X:g d env with
 |none=>rw[X] at Y;exact Y.elim
 |some Z =>
  rw[X] at Y;exact⟨U,env,d,Z,rfl,V,W.le T,R,X,aF V Y⟩
def mR {g:D->Env->Option Env} (he:PE X e (tE X.K Ξ f)) (hg:PG X tg (gD X.K g)) (hs:θ [tg] e pos.line X.env=pure false:=by rfl) (hw:ι [tg] e X.env=pure none:=by rfl)
  (h1:(ų [tg] X.env).map (·.2)=[aai tg X.env]:=by rfl):PS X (.Assign [tg] e pos) (tS X.K Ξ (aK f g)):=kg (Dd he hg hs hw h1) zb
def BO {K:ļ} {te:TE} {i:Nat} (D:Ends) (σ:St) (H:Hp):qY (tE K Ξ f) (gD K (gN i)) D σ H->qY (tE K Ξ f) (lp i) D σ H:=by
 rintro ⟨w,env,rfl,S,Y,h⟩;refine⟨w,env,rfl,S,Y,h.mono λP d O N X v W=>?_⟩;obtain⟨M,V,U,Z,L,J,T,R,Q,k⟩:=X v W;have e:V.set i (some U)=Z:=acs Q;subst e;exact k _ (T.set R i)
def bC (i:Nat) {x:Str} {pos':Pos} (hN:X.N.Nodup) (he:PE X e (tE X.K Ξ f)) (hi:X.N[i]?=some x:=by rfl) (hx:Loc X.env.scope x:=by first|exact Ş rfl|exact ack rfl) (hs:abL e (some (.Name x pos')) pos.line X.env=pure false:=by rfl) (hf:X.fn x=true\/X.env.scope.names.lookup x=some .local:=by first|exact .inl rfl|exact .inr rfl) :
  PS X (.Assign [.Name x pos'] e pos) (tS X.K Ξ (aK f (gN i))):=kg (VQ hN hi hx he hs hf) λD σ H h=>BO (te:=tE X.K Ξ f) D σ H (zb D σ H h)
def mi (K:ļ) (w:Wd) (J:It) (ds:List D):Prop:=∀Z,Le K w Z->aL K Z->∀i,
 (∀d,ds[i]?=some d->J.go i Z.H/\∀x X,J.uF i Z.H x X->∃Y,Y.H=X/\Le K Z Y/\aL K Y/\Y.aA=Z.aA/\DV K Y d x)/\(ds.length<=i->J.stop i Z.H)
def dC (K:ļ) (Ξ:Wd->bt->Prop) (f:acn (List D)):TI:=fun σ H R=>∃w env,w.H=H/\aL K w/\cj K w env σ/\Out K Ξ w (f env w.aA) λZ Y=>∀J,mi K Z J Y->R J Z.H
def tD {t t':TI} (h:PI X tg e t) (i:∀ σ H R,t' σ H R->t σ H R):PI X tg e t':=λZ s σ H R I Y=>h Z s σ H R I (i σ H R Y)
def UD {K:ļ} {it:acn (List D)} {g:D->Env->Option Env} (D0:Ends) (σ:St) (H:Hp):tS K Ξ (ef it g fs) D0 σ H->MF (dC K Ξ it) (gD K g) (tS K Ξ fs) D0 σ H:=by
 rintro ⟨w,env,rfl,S,B,h⟩;refine⟨w,env,rfl,S,B,(Out.ao h).mono λM X p o n J A=>?_⟩;refine⟨λi m L z=>m=X.length-i/\i<=X.length/\∃W Z,W.H=z/\Le K M W/\aL K W/\cj K W Z L/\Out K Ξ W (mP g fs (X.drop i) Z W.aA) (EW K D0),
  ⟨X.length,rfl,ē _,M,env,rfl,Le.refl _,o,B.le p,n⟩,?_⟩
 rintro i m L z ⟨rfl,hi,W,Z,rfl,U,I,v,V⟩;by_cases G:i<X.length
 ·right
  obtain⟨l,k⟩:=(A W U I i).1 _ (Ë G);rw[Ś G] at V;simp only[mP] at V
  cases F:g X[i] Z with
  |none=>rw[F] at V;exact V.elim
  |some u =>
   rw[F] at V;refine⟨l,fun E T=>∃Y R,Y.H=T/\Le K M Y/\aL K Y/\cj K Y R E/\Out K Ξ Y (mP g fs (X.drop (i+1)) R Y.aA) (EW K D0),fun E T ⟨Y,R,q⟩=>⟨X.length-(i+1),by omega,rfl,G,Y,R,q⟩,λx T y=>?_⟩;obtain⟨Y,rfl,Q,t,es,j⟩:=k x T y;refine⟨Y,Z,X[i],u,rfl,t,v.le Q,j,F,fun E f=>⟨Y,u,rfl,t,f,?_⟩⟩;rw[<- es] at V;refine(Out.ao (V.from Q)).mono λs c r P O=>?_
   cases c with
   |nx N=>exact fun b C=>⟨s,N,rfl,U.trans (Q.trans r),P,C,O⟩
   |ct N=>exact fun b C=>⟨s,N,rfl,U.trans (Q.trans r),P,C,O⟩
   |bk N=>have q:=aF P O;exact q
   |rt d=>have q:=aF P O;exact q
 ·left
  have e:i=X.length:=by omega
  subst e;rw[aaM] at V;exact⟨(A W U I _).2 (acr _),aF I V L v⟩
def gu {iter:Ņ} {it:acn (List D)} {g:D->Env->Option Env} (hp:PassesOwn (í X.prog X.w) X.A X.env X.xe) (hc:X.calm=true) (hi:PI X tg iter (dC X.K Ξ it)) (hg:PG X tg (gD X.K g)) (hb:fx X pP (tS X.K Ξ fs))
  (hs:∀x,ï iter X.env x=pure x:=by intro _;rfl):PS X (.For tg iter pP [] pos) (tS X.K Ξ (ef it g fs)):=kg (VT hp hc hi hg hb hs) UD
theorem Out.ne {α:Type} {K:ļ} {w:Wd} {r:Res α} {k:Wd->α->Prop} (h:Out K Ξ w (DI.ne r) k):Out K bj w r k:=by
 match r,h with
 |some (.ok a,s),h=>exact h
def cj.block {K:ļ} {w:Wd} {env:Env} {σ:St} (h:cj K w env σ) (nt:Nat) (cap:List Nat) (o:St) (ho:o.length=nt):cj K w (Ñ nt none++cX cap env) (o++lq cap σ):=by
 refine⟨by simp[cX,lq,ho],λi d e=>?_⟩;by_cases hi:i<nt
 ·rw[ã (by simpa using hi),Ĵ,ß hi] at e
  cases e
 ·rw[þ (by simpa using ψ hi)] at e
  rw[þ (by omega),ho];simp only[aan] at e;unfold cX at e;unfold lq;rw[á] at e |-
  cases Z:cap[i-nt]? with
  |none=>rw[Z] at e;cases e
  |some j =>
   rw[Z] at e;have ev:(env[j]?).getD none=some d:=acs e;have Y:env[j]?=some (some d):=by
    cases q:env[j]? with
    |none=>rw[q] at ev;cases ev
    |some z=>rw[q] at ev;exact Ŀ some ev
   obtain⟨v,e1,e2⟩:=h.val j d Y;exact⟨v,by rw[Ŭ,e1];rfl,e2⟩
def Iq {K:ļ} {nt:Nat} {cap:List Nat} {it:acn (List D)} {g:D->Env->Option Env} {fin:List D->ag->Res D} (σ:St) (H:Hp) (Q:VK)
  (rm:∀(w2:Wd) (xs:List D) (vs:List V),aL K w2->ar K w2 xs vs->Out K Ξ w2 (fin xs w2.aA) (λw' d=>∀v,DV K w' d v->Q v w'.H)->∀p,w2.H p=none->Q (.ref p) (upd w2.H p (.lst vs))) :
  tE K Ξ (λenv s=>ao (it env s) λds s=>jc ds (ao (bY nt (cX cap env) g ft f ds s) fin)) σ H Q->nU (dC K Ξ it) nt cap (gD K g) (tT K bj ft) (tE K bj f) σ H Q:=by
 rintro ⟨w,env,rfl,S,B,h⟩;refine⟨w,env,rfl,S,B,(Out.ao h).mono λN ds j c M J A=>?_⟩;obtain⟨hz,M⟩:=qa M;refine⟨λi m Y z=>m=ds.length-i/\i<=ds.length/\Y.length<=i/\∃w' Z,w'.H=z/\Le K N w'/\aL K w'/\ar K w' Z Y/\Out K Ξ w' (bY nt (cX cap env) g ft f (ds.drop i) w'.aA) λw2 xs=>∀vs,ar K w2 (Z++xs) vs->∀p,w2.H p=none->Q (.ref p) (upd w2.H p (.lst vs)),
  ⟨ds.length,rfl,ē _,ē _,N,[],rfl,Le.refl _,c,rfl,(Out.ao M).mono λw2 xs W P a vs O p U=>?_⟩,?_⟩
 ·exact rm w2 xs vs P O a p U
 rintro i m Y z ⟨rfl,hi,ha,w',Z,rfl,T,L,I,X⟩;by_cases G:i<ds.length
 ·right
  obtain⟨ff,hy⟩:=(A w' T L i).1 _ (Ë G);rw[Ś G] at X;simp only[bY] at X
  cases F:g ds[i] (Ñ nt none++cX cap env) with
  |none=>rw[F] at X;exact X.elim
  |some E =>
   rw[F] at X;refine⟨ff,by omega,λC u=>C.length<=i+1/\∃w' Z,w'.H=u/\Le K N w'/\aL K w'/\ar K w' Z C/\Out K Ξ w' (bY nt (cX cap env) g ft f (ds.drop (i+1)) w'.aA) λw2 xs=>∀vs,ar K w2 (Z++xs) vs->∀p,w2.H p=none->Q (.ref p) (upd w2.H p (.lst vs)),
    λC u ⟨FT,q⟩=>⟨ds.length-(i+1),by omega,rfl,G,FT,q⟩,λo x H3 ho y=>?_⟩
   obtain⟨w2,rfl,W,P,es,dv⟩:=hy x H3 y;refine⟨w2,_,ds[i],E,rfl,P,(B.le (j.trans (T.trans W))).block nt cap o ho,dv,F,fun lT t=>?_⟩;rw[<- es] at X;refine⟨w2,E,rfl,P,t,(Out.ao (X.from W)).ne.mono λr b R n l=>?_⟩
   cases b with
   |true =>
    refine⟨r,E,rfl,n,t.le R,(Out.ao l).ne.mono λw4 d k S4 h4 v rX=>⟨by rw[é];simp;omega,w4,Z++[d],rfl,T.trans (W.trans (R.trans k)),S4,ar.append ((W.trans (R.trans k)).all I) (ar.one rX),(Out.ao h4).mono λw5 xs l5 S5 h5 vs O p U=>?_⟩⟩;exact aF S5 h5 vs (by rw[ę] at O;exact O) p U
   |false =>
    exact⟨by omega,r,Z,rfl,T.trans (W.trans R),n,(W.trans R).all I,l⟩
 ·left
  have e:i=ds.length:=by omega
  subst e;rw[aaM] at X;refine⟨(A w' T L _).2 (acr _),by omega,λp U=>aF L X Y (by rw[Ķ];exact I) p U⟩
def Jc {K:ļ} {nt:Nat} {cap:List Nat} {it:acn (List D)} {g:D->Env->Option Env} (σ:St) (H:Hp) (Q:VK) :
  tE K Ξ (aM nt cap it g ft f) σ H Q->nU (dC K Ξ it) nt cap (gD K g) (tT K bj ft) (tE K bj f) σ H Q :=
 Iq σ H Q λX S W V U T p Y=>T (X.grow p (.lst W)) (Fw.grow Y).le (V.grow Y) rfl (.ref p) ⟨p,W,rfl,⟨(show ¬ X.Z p from qr V Y),eT⟩,(Fw.grow Y).le.all U⟩
def QJ {K:ļ} {nt:Nat} {cap:List Nat} {it:acn (List D)} {g:D->Env->Option Env} (σ:St) (H:Hp) (Q:VK) :
  tE K Ξ (oK nt cap it g ft f) σ H Q->nU (dC K Ξ it) nt cap (gD K g) (tT K bj ft) (tE K bj f) σ H Q :=
 Iq σ H Q λZ W Y X U T p V=>by
  have le:=(Fw.cell (o:=.lst Y) (c:=.lst W) X V).le;refine T (Z.cell p (.lst Y) (.lst W)) le (X.zY V ⟨Y,eT,le.all U⟩) rfl (.ref p) ⟨p,?_,rfl⟩;show (Z.ρ++[p])[Z.aA.length]?=some p;rw[<- X.len];simp
end
def J5 {o caps:St} {v:V} {i nt:Nat} (ho:o.length=nt) (hi:i<nt):(o++caps).set i (some v)=o.set i (some v)++caps:=by
 rw[List.set_append_left _ _ (by omega)]
def QK {i nt:Nat} (hi:i<nt):lX (lp i) nt:=by
 intro x o Z H R Y h;exact⟨⟨o.set i (some x),by rw[Ģ];exact Y,J5 Y hi⟩,h⟩
def wC (g:lS) (nt:Nat):Prop:=∀(Y:List V) (o Z:St) (H:Hp) (R:St->Hp->Prop),o.length=nt->g Y (o++Z) H R->g Y (o++Z) H fun X U=>(∃W:St,W.length=nt/\X=W++Z)/\R X U
def Sg:wC EF nt:=λX o Z H R Y h=>⟨h.1,⟨o,Y,rfl⟩,h.2⟩
def QM {i nt:Nat} {g:lS} (hi:i<nt) (hg:wC g nt):wC (DT (lp i) g) nt:=by
 rintro X o Z H R Y ⟨v,r,e,h⟩;refine⟨v,r,e,?_⟩;have h:g r ((o++Z).set i (some v)) H R:=h;show g r ((o++Z).set i (some v)) H _;rw[J5 Y hi] at h |-;exact hg r _ Z H R (by rw[Ģ];exact Y) h
def Sh (hg:wC g nt):lX (EG K n g) nt:=by
 rintro x o Z H R X ⟨a,Y,e,W,V,h⟩;exact⟨a,Y,e,W,V,hg Y o Z H R X h⟩
structure Tg (K:ļ) (g0:TG) (g:D->Env->Option Env) (nt:Nat):Prop where
 jj:lX g0 nt
 imp:∀v σ H Q,gD K g v σ H Q->g0 v σ H Q
structure A7 (K:ļ) (g0:lS) (g:List (D->Env->Option Env)) (nt:Nat):Prop where
 jj:wC g0 nt
 imp:∀v σ H Q,xC K (iS g) v σ H Q->g0 v σ H Q
def fY (i:Nat) (hi:i<nt:=by decide):Tg K (lp i) (gN i) nt:=⟨QK hi,λv σ H Q Y=>by
 obtain⟨w,env,d,Z,U,S,X,W,V,k⟩:=Y;have e:env.set i (some d)=Z:=acs V;subst e;exact k _ (X.set W i)⟩
def qi:A7 K EF [] nt:=⟨Sg,λT σ H Q W=>by
 obtain⟨w,env,Y,Z,R,S,V,U,X,k⟩:=W
 cases Y with
 |nil =>
  have e:env=Z:=acs X;subst e;exact⟨U,k _ V⟩
 |cons d Y=>cases X⟩
def jv (i:Nat) (h:A7 K g0 gl nt) (hi:i<nt:=by decide):A7 K (DT (lp i) g0) (gN i::gl) nt:=⟨QM hi h.jj,λP σ H Q W=>by
 obtain⟨w,env,Y,Z,V,S,U,T,X,k⟩:=W
 cases Y with
 |nil=>cases X
 |cons d Y =>
  obtain⟨v,r,rfl,R,dr⟩:=T;exact⟨v,r,rfl,h.imp _ _ _ _ ⟨w,_,Y,Z,V,S,U.set R i,dr,X,k⟩⟩⟩
def qu (h:A7 K g0 gl nt) (hn:gl.length=n:=by rfl):Tg K (EG K n g0) (gT gl) nt:=⟨Sh h.jj,λv σ H Q V=>by
 obtain⟨w,env,d,Z,U,S,T,X,Y,k⟩:=V
 cases d with
 |tup R =>
  simp only[DV] at X;obtain⟨p,P,e1,O,W⟩:=X;subst U;exact⟨p,P,e1,O,by rw[<- W.length,B0 Y];exact hn,h.imp _ _ _ _ ⟨w,env,R,Z,rfl,S,T,W,Y,k⟩⟩
 |_=>cases Y⟩
section
variable {X:Cx} {Ξ:Wd->bt->Prop} {e a b c tg el src:Ņ} {es rest tests:List Ņ} {pos:Pos} {f g h:acn D} {fa:acn (List D)} {ft gt:acn Bool} {st:Stmt} {pP EX:List Stmt} {fs gs:acn Fl}
def Wm (h:PF X tests t) (i:∀ σ H Q,t' σ H Q->t σ H Q):PF X tests t':=λZ s σ H Q I Y=>h Z s σ H Q I (i σ H Q Y)
def cC:PF X [] (tT K Ξ ba):=Wm Wa fun σ H Q Z=>by
 obtain⟨w,env,Y,S,W,h⟩:=Z;subst Y;exact aF S h
def dM (h:PT X c (tT K Ξ ft)):PF X [c] (tT K Ξ ft):=Wb h
def yB (i_:∀v σ H Q,g1 v σ H Q->g0 v σ H Q) (wm:∀R R':It->Hp->Prop,(∀J H',R J H'->R' J H')->wi σ H R->wi σ H R') (h:nU wi nt cap g1 tf te σ H Q):nU wi nt cap g0 tf te σ H Q:=by
 refine wm _ _ (λJ H' Y=>?_) h;obtain⟨W,X,step⟩:=Y;refine⟨W,X,λi m Z V hw=>?_⟩
 rcases step i m Z V hw with q | ⟨U,T,N,S,P⟩
 ·exact .inl q
 ·exact .inr ⟨U,T,N,S,λo x O M y=>i_ _ _ _ _ (P o x O M y)⟩
def vw (R R':It->Hp->Prop) (i:∀J H',R J H'->R' J H') (h:dC K Ξ it σ H R):dC K Ξ it σ H R':=by
 obtain⟨w,env,Z,S,Y,h⟩:=h;exact⟨w,env,Z,S,Y,h.mono λV U _ _ X J W=>i J _ (X J W)⟩
def aR (f:acn D):acn (List D):=λenv s=>ao (f env s) λd s=>match d with
 | .lst Z=>ok Z s
 | .tup Z=>ok Z s
 |_=>none
def Si {K:ļ} {w:Wd} {a:â} {ds:List D} (h:DV K w (.lst ds) (.ref a)):mi K w (Fm K a) ds:=λV U T i=>by
 have X:=U _ _ h;simp only[DV] at X;obtain⟨p,Z,e,Y,W⟩:=X;cases e;refine⟨λd S=>?_,λR=>⟨Z,Y.sq,by rw[<- W.length];exact R⟩⟩;obtain⟨v,ev,Q⟩:=W.get' i d S;exact⟨⟨Z,v,Y.sq,ev⟩,λx P ⟨e1,e2⟩=>⟨V,e1.symm,Le.refl _,T,rfl,by
  have q:=e2 Z Y.sq;rw[ev] at q;cases q;exact Q⟩⟩
def UE {K:ļ} {w:Wd} {a:â} {ds:List D} (h:DV K w (.tup ds) (.ref a)):mi K w (Fn K a) ds:=λV U T i=>by
 have X:=U _ _ h;simp only[DV] at X;obtain⟨p,Z,e,Y,W⟩:=X;cases e;refine⟨λd S=>?_,λR=>⟨Z,Y,by rw[<- W.length];exact R⟩⟩;obtain⟨v,ev,Q⟩:=W.get' i d S;exact⟨⟨Z,v,Y,ev⟩,λx P ⟨e1,e2⟩=>⟨V,e1.symm,Le.refl _,T,rfl,by
  have q:=e2 Z Y;rw[ev] at q;cases q;exact Q⟩⟩
def bT (hl:PE X a (tE X.K Ξ f)):PI X tg a (dC X.K Ξ (aR f)):=by
 have both:PI X tg a (fun σ H R=>LM X.K (tE X.K Ξ f) σ H R\/ME X.K (tE X.K Ξ f) σ H R):=λN s σ H R I h=>h.elim (T5 hl N s σ H R I) (VS hl N s σ H R I);refine tD both fun σ H R ⟨w,env,M,S,W,h⟩=>?_;subst M;simp only[aR] at h
 cases Y:f env w.aA with
 |none=>rw[Y] at h;exact h.elim
 |some r =>
  obtain⟨r,s⟩:=r;rw[Y] at h
  cases r with
  |error x=>exact .inl ⟨w,env,rfl,S,W,by rw[Y];exact h⟩
  |ok d =>
   rw[dW] at h
   cases d with
   |lst L =>
    refine .inl ⟨w,env,rfl,S,W,?_⟩;rw[Y];intro V U T e1 v Z;have Q:=Z;simp only[DV] at Z;obtain⟨p,P,rfl,O,J⟩:=Z;exact⟨p,rfl,⟨P,O.sq⟩,h V U T e1 _ (Si Q)⟩
   |tup L =>
    refine .inr ⟨w,env,rfl,S,W,?_⟩;rw[Y];intro V U T e1 v Z;have Q:=Z;simp only[DV] at Z;obtain⟨p,P,rfl,O,J⟩:=Z;exact⟨p,rfl,⟨P,O⟩,h V U T e1 _ (UE Q)⟩
   |_=>exact h.elim
noncomputable def bS (lo:Int) (n:Nat):List D:=(Ø n).map λ(i:Nat)=>D.int (lo+(i:Int))
def fZ:(bS lo n)[i]?=if i<n then some (.int (lo+i)) else none:=by
 unfold bS;rw[á];by_cases h:i<n
 ·rw[č h,ß h];rfl
 ·rw[ú (by simp;omega),æ h];rfl
def bX:(bS lo n).length=n:=by simp[bS]
def J6:mi K w (xc lo n) (bS lo n):=λX V W i=>by
 refine⟨λd Z=>?_,λY=>by rw[bX] at Y;exact Y⟩;rw[fZ] at Z;split at Z
 ·cases Z
  exact⟨by assumption,λx U ⟨e1,e2⟩=>⟨X,e1.symm,Le.refl _,W,rfl,e2⟩⟩
 ·cases Z
noncomputable def kz (j:Int):Bool:=decide (-(2 ^ 62)<=j)&&decide (j<2 ^ 62)
def bL (fa:acn (List D)):acn (List D):=λenv s=>ao (fa env s) λZ s=>match Z with
 | [.int j]=>if kz j=true then ok (bS 0 j.toNat) s else none
 |_=>none
def rZ (fa:acn (List D)):acn (List D):=λenv s=>ao (fa env s) λZ s=>match Z with
 | [.int i,.int j]=>if (kz i&&kz j)=true then ok (bS i (j-i).toNat) s else none
 |_=>none
def cP (hg:Gl X "range") (hm:X.mg "range"=none) (ha:PA X [a] (tA X.K Ξ fa)) (hs:Þ [a] X.env=[(false,ś a X.env)]:=by rfl):PI X tg (.Call (.Name "range" p) [a] [] pos) (dC X.K Ξ (bL fa)) :=
 tD (Qr hg hm ha hs) fun σ H R W=>by
  obtain⟨w,env,V,S,U,h⟩:=W;subst V;refine⟨w,env,rfl,S,U,(Out.ao h).mono λO N M T Z L Q=>?_⟩;split at Z
  ·rename_i j
   split at Z
   ·rename_i Y
    simp only[kz,Ê,È] at Y;obtain⟨v,r,rfl,P,dr⟩:=Q;have e1:v=.int j:=P;have e2:r=[]:=dr;subst e1 e2;exact⟨j,rfl,Y.1,Y.2,aF T Z _ J6⟩
   ·exact Z.elim
  ·exact Z.elim
def Dl {p:Pos} (hg:Gl X "range") (hm:X.mg "range"=none) (ha:PA X [a,b] (tA X.K Ξ fa)) (hs:Þ [a,b] X.env=[(false,ś a X.env),(false,ś b X.env)]:=by rfl) (bU:Þ [b] X.env=[(false,ś b X.env)]:=by rfl):PI X tg (.Call (.Name "range" p) [a,b] [] pos) (dC X.K Ξ (rZ fa)) :=
 tD (Qs hg hm ha hs bU) fun σ H R W=>by
  obtain⟨w,env,V,S,U,h⟩:=W;subst V;refine⟨w,env,rfl,S,U,(Out.ao h).mono λL J I T Z G Q=>?_⟩;split at Z
  ·rename_i i j
   split at Z
   ·rename_i Y
    simp only[kz,Ê,È] at Y;obtain⟨v,r,rfl,P,v2,O,rfl,N,dr⟩:=Q;have e1:v=.int i:=P;have e2:v2=.int j:=N;have M:O=[]:=dr;subst e1 e2 M;exact⟨i,j,rfl,⟨Y.1.1,Y.1.2,Y.2.1,Y.2.2⟩,aF T Z _ J6⟩
   ·exact Z.elim
  ·exact Z.elim
noncomputable def cT (xs ys:List D):List D:=(xs.zip ys).map λp=>.tup [p.1,p.2]
def Jd {i:Nat} (h:(cT xs ys)[i]?=some d):∃x y,xs[i]?=some x/\ys[i]?=some y/\d=.tup [x,y]:=by
 unfold cT at h;rw[á] at h
 cases Z:(xs.zip ys)[i]? with
 |none=>rw[Z] at h;cases h
 |some p =>
  rw[Z] at h;obtain⟨Y,X⟩:=List.getElem?_zip_eq_some.mp Z;exact⟨p.1,p.2,Y,X,(acs h).symm⟩
def qb:(cT xs ys).length=min xs.length ys.length:=by simp[cT]
def Ir (S':aL K w') (hp:w'.H p=none) (h1:DV K w' d x) (h2:DV K w' d2 y) :
  ∃w2,w2.H=upd w'.H p (.tup [x,y])/\Le K w' w2/\aL K w2/\w2.aA=w'.aA/\DV K w2 (.tup [d,d2]) (.ref p) :=
 ⟨w'.grow p (.tup [x,y]),rfl,(Fw.grow hp).le,S'.grow hp,rfl,p,[x,y],rfl,bo.of eT,(Fw.grow hp).le.all (ar.two h1 h2)⟩
@[reducible] noncomputable def j5:Bool->List D->D
 |true=>.tup
 |false=>.lst
def z9 {K:ļ} {w:Wd} {a:â} {ds:List D}:∀{k},DV K w (j5 k ds) (.ref a)->∃xs,j4 k K w.H a xs/\ar K w ds xs
 |true,h=>by
  simp only[DV] at h;obtain⟨p,xs,e,Z,Y⟩:=h;cases e;exact⟨xs,Z,Y⟩
 |false,h=>by
  simp only[DV] at h;obtain⟨p,xs,e,Z,Y⟩:=h;cases e;exact⟨xs,Z.sq,Y⟩
def Je {k l:Bool} {K:ļ} {w:Wd} {a b:â} {ds es:List D} (h:DV K w (j5 k ds) (.ref a)) (g:DV K w (j5 l es) (.ref b)):mi K w (wB k l K a b) (cT ds es):=λF V P i=>by
 obtain⟨Z,Y,U⟩:=z9 (V _ _ h);obtain⟨X,W,T⟩:=z9 (V _ _ g);refine⟨λd O=>?_,λN=>⟨Z,X,Y,W,?_⟩⟩
 ·obtain⟨x,y,e1,e2,rfl⟩:=Jd O
  obtain⟨v,ev,M⟩:=U.get' i x e1;obtain⟨u,S,L⟩:=T.get' i y e2;refine⟨⟨Z,X,v,u,Y,W,ev,S⟩,λz E ⟨r,C,y1,J,I,H,G⟩=>?_⟩;obtain⟨R,Q⟩:=G Z X Y W;rw[ev] at R;rw[S] at Q;cases R;cases Q;subst I H;exact Ir P J M L
 ·rw[qb] at N
  have:=U.length;have:=T.length;omega
def Jf {K:ļ} {w:Wd} {a b:â} {ds es:List D} (h:DV K w (.tup ds) (.ref a)) (g:DV K w (.tup es) (.ref b)):mi K w (YW K a b) (cT ds es):=Je (k:=true) (l:=true) h g
def rn (fa:acn (List D)):acn (List D):=λenv s=>ao (fa env s) λZ s=>match Z with
 | [.tup Y,.tup X]=>ok (cT Y X) s
 |_=>none
def XM {p:Pos} {elts:List Ņ} {kk:Nat} {ra:Pos} (hg:Gl X "zip") (hm:X.mg "zip"=none) (ha:PA X [a,b] (tA X.K Ξ fa)) (hs:Þ [a,b] X.env=[(false,ś a X.env),(false,ś b X.env)]:=by rfl) (bU:Þ [b] X.env=[(false,ś b X.env)]:=by rfl) :
  PI X (.Tuple elts kk ra) (.Call (.Name "zip" p) [a,b] [] pos) (dC X.K Ξ (rn fa)):=by
 refine tD (CG hg hm ha hs bU) fun σ H R U=>?_;obtain⟨w,env,T,S,Q,h⟩:=U;subst T;refine⟨w,env,rfl,S,Q,(Out.ao h).mono λF E D P h C O=>?_⟩;split at h
 ·obtain⟨v,r,rfl,Z,v2,N,rfl,Y,dr⟩:=O
  have M:N=[]:=dr;subst M;have W:=Z;have V:=Y;simp only[DV] at W V;obtain⟨p,L,rfl,J,_⟩:=W;obtain⟨q,I,rfl,G,_⟩:=V;exact⟨p,q,L,I,rfl,J,G,aF P h _ (Jf Z Y)⟩
 ·exact h.elim
def ax (fn:List D->ag->Res D) (fa:acn (List D)):acn D:=λenv s=>ao (fa env s) λZ s=>ne (fn Z s)
def vJ {k:Nat} {fA:â} {fd:ť} {Nu:List Str} {fn:List D->ag->Res D} {x:Str} {p:Pos} (F:gf X.prog X.w X.K X.mg X.base iu k fA fd Nu (nq X.K fn)) (hr:bZ k X.A) (hg:Gl X x) (hm:X.mg x=some (.ref fA)) (hk:ź X.K (.ref fA)=true) (hb:Binds X.K fd Nu [])
  (ha:PA X (e::es) (tA X.K Ξ fa)) (j3:(x==("__debug__":Str))=false:=by decide) (he:Þ (e::es) X.env=(false,ś e X.env)::Þ es X.env:=by rfl) (dA:(χ pos (Þ es X.env)).any (·.1)=false:=by rfl) :
  PE X (.Call (.Name x p) (e::es) [] pos) (tE X.K Ξ (ax fn fa)):=dg (Ua F hr hg hm hk hb .nil LO ha j3 he dA) fun σ H Q Y=>by
 obtain⟨w,env,W,S,V,h⟩:=Y;subst W;refine⟨w,env,rfl,S,V,(Out.ao h).mono λZ U N T R P O=>?_⟩;show nq X.K fn (P++[]) Z.H Q E0;rw[Ķ];exact⟨Z,U,rfl,T,O,R.ne⟩
def ar.env (h:ar K w ds vs) (n:Nat):cj K w (ds.map some++Ñ (n-ds.length) none) (vs.map some++Ñ (n-vs.length) none):=by
 have Y:=h.length;refine⟨by simp[Y],λi d e=>?_⟩;by_cases hi:i<ds.length
 ·rw[ã (by simpa using hi),á] at e
  rw[ã (by simp;omega),á]
  cases Z:ds[i]? with
  |none=>rw[Z] at e;cases e
  |some W =>
   rw[Z] at e;cases e;obtain⟨v,ev,X⟩:=h.get' i d Z;exact⟨v,by rw[ev];rfl,X⟩
 ·rw[þ (by simpa using ψ hi),Ĵ] at e
  split at e<;>cases e
end
def LU (F:rR K x qual st f fd) (S:sV N ps (iD st))
 (hb:∀(cF:Ì) (A:Đ) (outer:List PySem.Env) (s:Ç) (H:Hp) (E:XK),bZ k (A.deeper (PyProof.Rows.envOfC qual (iD st) s.heap.objs.size f cF))->fx (oY iu P w K mg base N qual (iD st) f cF A outer s H E).uE (mI st) (tS K bj b)) :
  gf P w K mg base iu (k+1) f fd ps (nq K (aW ps.length N.length b)):=by
 refine F.ok S (λW H Q E h=>?_) (λcF A outer s H W Q E V h=>?_)
 ·obtain⟨w,U,rfl,S,Y,h⟩:=h
  rw[<- Y.length];unfold aW at h;split at h
  ·assumption
  ·exact h.elim
 ·obtain⟨w,U,rfl,S,Y,h⟩:=h
  refine⟨_,hb cF A outer s w.H E V,?_⟩;unfold aW at h;split at h
  ·rename_i T
   rw[<- T] at h;refine⟨w,_,rfl,S,Y.env N.length,(Out.ao h).mono λO R M X Z=>?_⟩
   cases R with
   |nx env=>intro L _;exact aF X Z _ rfl
   |rt d=>have q:=aF X Z;exact q
   |bk env=>exact Z.elim
   |ct env=>exact Z.elim
  ·exact h.elim
mutual
noncomputable def py:D->aaE
 | .au=>.none
 | .bl b=>.bool b
 | .int i=>.int i
 | .str x=>.str x
 | .tup Z=>.tuple (cO Z)
 | .lst Z=>.list (cO Z)
 | .bJ Y=>.dict (Y.map λp=>(ug p.1,PyData.int p.2))
 | .ai _=>.none
 | .ty _=>.none
 | .bQ _=>.none
noncomputable def cO:List D->List aaE
 | []=>[]
 |d::Z=>py d::cO Z
end
mutual
noncomputable def plain:D->Bool
 | .au=>true
 | .bl _=>true
 | .int _=>true
 | .str _=>true
 | .tup Z=>nN Z
 | .lst Z=>nN Z
 | .bJ _=>true
 | .ai _=>false
 | .ty _=>false
 | .bQ _=>false
noncomputable def nN:List D->Bool
 | []=>true
 |d::Z=>plain d&&nN Z
end
mutual
noncomputable def lay:D->Bool
 | .au=>true
 | .bl _=>true
 | .int _=>true
 | .str x=>abx x
 | .tup Z=>dq Z
 | .lst Z=>dq Z
 | .bJ _=>false
 | .ai _=>false
 | .ty _=>false
 | .bQ _=>false
noncomputable def dq:List D->Bool
 | []=>true
 |d::Z=>lay d&&dq Z
end
mutual
noncomputable def dep:D->Nat
 | .tup Z=>cv Z+1
 | .lst Z=>cv Z+1
 | .bJ Y=>1
 | .au=>0
 | .bl _=>0
 | .int _=>0
 | .str _=>0
 | .ai _=>0
 | .ty _=>0
 | .bQ _=>0
noncomputable def cv:List D->Nat
 | []=>0
 |d::Z=>max (dep d) (cv Z)
end
mutual
noncomputable def beq:D->D->Bool
 | .au,.au=>true
 | .bl a,.bl b=>a==b
 | .bl a,.int j=>(if a then 1 else 0)==j
 | .int i,.bl b=>i==(if b then 1 else 0)
 | .int i,.int j=>i==j
 | .str x,.str y=>x==y
 | .tup Z,.tup Y=>ik Z Y
 | .lst Z,.lst Y=>ik Z Y
 |_,_=>false
noncomputable def ik:List D->List D->Bool
 | [],[]=>true
 |x::Z,y::Y=>beq x y&&ik Z Y
 |_,_=>false
end
mutual
theorem p9:∀(d:D),lay d=true->plain d=true
 | .au,_=>rfl
 | .bl _,_=>rfl
 | .int _,_=>rfl
 | .str _,_=>rfl
 | .tup Z,h=>by simp only[lay,plain] at h |-;exact pY Z h
 | .lst Z,h=>by simp only[lay,plain] at h |-;exact pY Z h
 | .bJ _,h=>by simp[lay] at h
 | .ai _,h=>by simp[lay] at h
 | .ty _,h=>by simp[lay] at h
 | .bQ _,h=>by simp[lay] at h
theorem pY:∀(ds:List D),dq ds=true->nN ds=true
 | [],_=>rfl
 |d::ds,h=>by
  simp only[dq,nN,Ê] at h |-;exact⟨p9 d h.1,pY ds h.2⟩
end
mutual
theorem ll:∀(d:D),lay d=true->(py d).canLay0=true/\(py d).depth=dep d
 | .au,_=>⟨rfl,by simp[py,dep,PyData.depth]⟩
 | .bl _,_=>⟨rfl,by simp[py,dep,PyData.depth]⟩
 | .int _,_=>⟨rfl,by simp[py,dep,PyData.depth]⟩
 | .str _,h=>⟨h,by simp[py,dep,PyData.depth]⟩
 | .tup Z,h=>by
  obtain⟨Y,X⟩:=vz Z (by simpa [lay] using h);simp only[py,dep,PyData.depth,PyData.canLay0];exact⟨Y,by rw[X]⟩
 | .lst Z,h=>by
  obtain⟨Y,X⟩:=vz Z (by simpa [lay] using h);simp only[py,dep,PyData.depth,PyData.canLay0];exact⟨Y,by rw[X]⟩
 | .bJ _,h=>by simp[lay] at h
 | .ai _,h=>by simp[lay] at h
 | .ty _,h=>by simp[lay] at h
 | .bQ _,h=>by simp[lay] at h
theorem vz:∀(ds:List D),dq ds=true->PyData.canLayAll0 (cO ds)=true/\aar (cO ds)=cv ds
 | [],_=>⟨rfl,rfl⟩
 |d::ds,h=>by
  simp only[dq,Ê] at h;obtain⟨a1,a2⟩:=ll d h.1;obtain⟨Z,Y⟩:=vz ds h.2;simp only[cO,cv,PyData.canLayAll0,aar,a1,Z,a2,Y,ĵ,Ě]
end
mutual
theorem tF:∀(d e:D),lay d=true->lay e=true->Ļ (py d) (py e)=beq d e
 | .tup Z,.tup Y,h,g=>by
  simp only[py,beq,Ļ];exact B7 Z Y (by simpa [lay] using h) (by simpa [lay] using g)
 | .lst Z,.lst Y,h,g=>by
  simp only[py,beq,Ļ];exact B7 Z Y (by simpa [lay] using h) (by simpa [lay] using g)
 | .au,e,_,g=>by cases e<;>simp_all [py,beq,Ļ,lay]
 | .bl _,e,_,g=>by cases e<;>simp_all [py,beq,Ļ,lay]
 | .int _,e,_,g=>by cases e<;>simp_all [py,beq,Ļ,lay]
 | .str _,e,_,g=>by cases e<;>simp_all [py,beq,Ļ,lay]
 | .tup _,.au,_,_=>by simp[py,beq,Ļ]
 | .tup _,.bl _,_,_=>by simp[py,beq,Ļ]
 | .tup _,.int _,_,_=>by simp[py,beq,Ļ]
 | .tup _,.str _,_,_=>by simp[py,beq,Ļ]
 | .tup _,.lst _,_,_=>by simp[py,beq,Ļ]
 | .lst _,.au,_,_=>by simp[py,beq,Ļ]
 | .lst _,.bl _,_,_=>by simp[py,beq,Ļ]
 | .lst _,.int _,_,_=>by simp[py,beq,Ļ]
 | .lst _,.str _,_,_=>by simp[py,beq,Ļ]
 | .lst _,.tup _,_,_=>by simp[py,beq,Ļ]
 | .bJ _,_,h,_=>by simp[lay] at h
 | .ai _,_,h,_=>by simp[lay] at h
 | .ty _,_,h,_=>by simp[lay] at h
 | .bQ _,_,h,_=>by simp[lay] at h
 |_,.bJ _,_,h=>by simp[lay] at h
 |_,.ai _,_,h=>by simp[lay] at h
 |_,.ty _,_,h=>by simp[lay] at h
 |_,.bQ _,_,h=>by simp[lay] at h
theorem B7:∀(ds es:List D),dq ds=true->dq es=true->PyData.eqvAll (cO ds) (cO es)=ik ds es
 | [],[],_,_=>rfl
 | [],_::_,_,_=>rfl
 |_::_,[],_,_=>rfl
 |d::ds,e::es,h,g=>by
  simp only[dq,Ê] at h g;simp only[cO,ik,PyData.eqvAll,tF d e h.1 g.1,B7 ds es h.2 g.2]
end
mutual
theorem DV.py:∀{d:D} {v:V},DV K w d v->plain d=true->L2.DV K (λ_=>False) w.H (DI.py d) v
 | .au,_,h,_=>h
 | .bl _,_,h,_=>h
 | .int _,_,h,_=>h
 | .str _,_,h,_=>h
 | .tup X,v,h,p=>by
  simp only[DV] at h;obtain⟨a,Y,e,Z,r⟩:=h;simp only[DI.py,L2.DV];exact⟨a,Y,e,Z,ar.py r (by simpa [plain] using p)⟩
 | .lst X,v,h,p=>by
  simp only[DV] at h;obtain⟨a,Y,e,Z,r⟩:=h;simp only[DI.py,L2.DV];exact⟨a,Y,e,not_false,Z.2,ar.py r (by simpa [plain] using p)⟩
 | .bJ W,v,h,p=>by
  simp only[DV] at h;obtain⟨a,e,U,Z⟩:=h;simp only[DI.py,L2.DV];exact⟨a,_,e,not_false,Z,W,rfl,rfl⟩
 | .ai _,_,_,p=>by simp[plain] at p
 | .ty _,_,_,p=>by simp[plain] at p
 | .bQ _,_,_,p=>by simp[plain] at p
theorem ar.py:∀{ds:List D} {vs:List V},ar K w ds vs->nN ds=true->L2.ar K (λ_=>False) w.H (DI.cO ds) vs
 | [],_,h,_=>h
 |d::ds,vs,h,p=>by
  simp only[ar] at h;obtain⟨v,r,e,Z,Y⟩:=h;simp only[nN,Ê] at p;exact⟨v,r,e,DV.py Z p.1,ar.py Y p.2⟩
end
def res (d:D) (s:ag):D:=match d with
 | .ai k=>match s[k]? with
  |some (.lst Z)=>.lst Z
  |_=>d
 |_=>d
theorem DV.res (S:aL K w) (h:DV K w d v) (p:plain (DI.res d w.aA)=true):L2.DV K (λ_=>False) w.H (DI.py (DI.res d w.aA)) v:=by
 cases d with
 |ai k =>
  unfold DI.res at p |-;simp only at p |-
  split at p<;>rename_i Z
  ·rename_i V
   obtain⟨a,e1,rfl⟩:=h;obtain⟨Y,X,W⟩:=S.cell k a _ e1 Z;simp only[DI.py,L2.DV];exact⟨a,Y,rfl,not_false,X,W.py (by simpa [plain] using p)⟩
  ·simp[plain] at p
 |_=>exact h.py p
noncomputable def mj:D->Bool
 | .str _=>true
 |_=>false
def Wn (h:mj d=true):∃x,d=.str x:=by cases d<;>first|exact⟨_,rfl⟩|cases h
def iF (x y:D):Option Bool:=if (mj x&&mj y)=true then some (beq x y) else if (lay x&&lay y&&decide (min (dep x) (dep y)<=100))=true then some (beq x y) else none
def aS (x y:D) (s:ag):Res D:=match iF (res x s) (res y s) with
 |some b=>ok (.bl b) s
 |none=>none
def gO (x y:D) (s:ag):Res D:=match iF (res x s) (res y s) with
 |some b=>ok (.bl (!b)) s
 |none=>none
def J7 (S:aL K w) (hx:DV K w x v) (hy:DV K w y u) (h:iF (res x w.aA) (res y w.aA)=some b) :
  (EI v u=true/\decide (v=u)=b)\/∃(d e:aaE),L2.DV K (λ_=>False) w.H d v/\L2.DV K (λ_=>False) w.H e u/\d.canLay0=true/\e.canLay0=true/\min d.depth e.depth<=100/\Ļ d e=b:=by
 have str:∀{d:D} {v:V},mj (res d w.aA)=true->DV K w d v->∃x,res d w.aA=.str x/\v=.str x:=λ{d v} hs W=>by
  obtain⟨x,e⟩:=Wn hs
  cases d with
  |str y=>cases e;exact⟨x,rfl,W⟩
  |ai k =>
   unfold res at e;simp only at e
   split at e<;>cases e
  |_=>cases e
 unfold iF at h;split at h
 ·rename_i hs
  rw[Ê] at hs;obtain⟨a,U,rfl⟩:=str hs.1 hx;obtain⟨c,T,rfl⟩:=str hs.2 hy;rw[U,T] at h;exact .inl ⟨rfl,by rw[<- acs h];exact Cz⟩
 split at h
 ·rename_i X
  right;simp only[Ê,È] at X;obtain⟨⟨Z,Y⟩,R⟩:=X;obtain⟨Q,P⟩:=ll _ Z;obtain⟨O,N⟩:=ll _ Y;exact⟨_,_,hx.res S (p9 _ Z),hy.res S (p9 _ Y),Q,O,by rw[P,N];exact R,by rw[tF _ _ Z Y];exact acs h⟩
 ·cases h
section
variable {X:Cx} {Ξ:Wd->bt->Prop}
def dP (hr:bZ k X.A):aZ X (Č .Eq) (rO X.K Ξ aS):=by
 rintro W s σ H x y v u Q I V U ⟨w,J,G,rfl,S,T,R,h⟩;unfold aS at h;split at h
 ·rename_i b P
  rcases J7 S T R P with ⟨Z,Y⟩ | ⟨d,e,Z,Y,O,N,M,L⟩
  ·exact Xm W s σ w.H x y v u Q I V U ⟨Z,by rw[Y];exact aF S h _ rfl⟩
  exact Wf hr W s σ w.H x y v u Q I V U ⟨d,e,_,Z,Y,O,N,M,by simp only[Ä,ê];rw[L];exact aF S h _ rfl⟩
 ·exact h.elim
def oZ (hr:bZ k X.A):aZ X (Č .NotEq) (rO X.K Ξ gO):=by
 rintro W s σ H x y v u Q I V U ⟨w,J,G,rfl,S,T,R,h⟩;unfold gO at h;split at h
 ·rename_i b P
  rcases J7 S T R P with ⟨Z,Y⟩ | ⟨d,e,Z,Y,O,N,M,L⟩
  ·exact Xn W s σ w.H x y v u Q I V U ⟨Z,by rw[Y];exact aF S h _ rfl⟩
  exact Wg hr W s σ w.H x y v u Q I V U ⟨d,e,_,Z,Y,O,N,M,by simp only[ô];rw[L];exact aF S h _ rfl⟩
 ·exact h.elim
end
end DI
namespace DI
open PySem L2
def bE (r:Option D) (s:ag):Res D:=match r with
 |some d=>ok d s
 |none=>none
def f6 (h:Out K Ξ w (bE r w.aA) k):∃d,r=some d/\Out K Ξ w (ok d w.aA) k:=by
 unfold bE at h;split at h
 ·exact⟨_,rfl,h⟩
 ·exact h.elim
noncomputable def rq (xs ys:List D):Bool:=decide (xs.length+ys.length<=Õ)
def rA:D->D->Option D
 | .int i,.int j=>some (.int (i+j))
 | .tup Z,.tup Y=>if rq Z Y=true then some (.tup (Z++Y)) else none
 | .lst Z,.lst Y=>if rq Z Y=true then some (.lst (Z++Y)) else none
 | .str x,.str y=>if decide (x.length+y.length<=Õ)=true then some (.str (x++y)) else none
 |_,_=>none
def cY (x y:D) (s:ag):Res D:=bE (rA (res x s) (res y s)) s
noncomputable def MO:D->D->Option D
 | .int i,.int j=>some (.int (i-j))
 |_,_=>none
def qJ (x y:D) (s:ag):Res D:=bE (MO x y) s
noncomputable def vY (i j:Int):Bool:=(decide (-(2 ^ 64)<i)&&decide (i<2 ^ 64))||(decide (-(2 ^ 64)<j)&&decide (j<2 ^ 64))
def EY:D->D->Option D
 | .int i,.int j=>if vY i j=true then some (.int (i*j)) else none
 | .tup Z,.int k=>if (!Z.isEmpty&&decide (1<=k)&&decide (Z.length*k.toNat<=Õ))=true then some (.tup (Ñ k.toNat Z).flatten) else none
 | .lst Z,.int k=>if (decide (-(2 ^ 63)<=k)&&decide (k<2 ^ 63)&&decide (Z.length*k.toNat<=Õ))=true then some (.lst (Ñ k.toNat Z).flatten) else none
 |_,_=>none
def jL (x y:D) (s:ag):Res D:=bE (EY x y) s
noncomputable def EZ:D->D->Option D
 | .int i,.int j=>if decide (0<j)=true then some (.int (i % j)) else none
 |_,_=>none
def nY (x y:D) (s:ag):Res D:=bE (EZ x y) s
noncomputable def E1:D->D->Option D
 | .int i,.int j=>if (decide (0<j)&&decide (j<1073741824))=true then some (.int (i / j)) else none
 |_,_=>none
def vZ (x y:D) (s:ag):Res D:=bE (E1 x y) s
noncomputable def E2:D->D->Option D
 | .int i,.int j=>if (decide (0<=j)&&decide (j<=1000000)&&decide (i.natAbs<2 ^ 64))=true then some (.int (i ^ j.toNat)) else none
 |_,_=>none
def Aa (x y:D) (s:ag):Res D:=bE (E2 x y) s
noncomputable def MP:D->Option D
 | .int i=>some (.int (-i))
 |_=>none
def oT (x:D) (s:ag):Res D:=bE (MP x) s
theorem ar.flat (h:ar K w ds vs):∀n:Nat,ar K w (Ñ n ds).flatten (Ñ n vs).flatten
 |0=>rfl
 |n+1=>by
  rw[ŕ,ŕ,ž,ž];exact ar.append h (ar.flat h n)
def i8 (S:aL K w) (h:DV K w d v) (e:res d w.aA=.lst ds):∃a xs,v=.ref a/\w.H a=some (.lst xs)/\ar K w ds xs:=by
 unfold res at e;split at e
 ·rename_i k
  split at e
  ·rename_i V Z
   cases e;obtain⟨a,e1,rfl⟩:=h;obtain⟨xs,Y,X⟩:=S.cell k a _ e1 Z;exact⟨a,xs,rfl,Y,X⟩
  ·cases e
 ·subst e
  simp only[DV] at h;obtain⟨a,xs,e,W,r⟩:=h;exact⟨a,xs,e,W.2,r⟩
def fC (h:res d s=e) (hl:∀ds,e≠.lst ds):d=e:=by
 unfold res at h;split at h
 ·split at h
  ·exact absurd h.symm (hl _)
  ·exact h
 ·exact h
section
variable {X:Cx} {Ξ:Wd->bt->Prop}
def ui (S:aL K w) (aq:ar K w ds vs) (h:Out K Ξ w (ok (D.tup ds) w.aA) λw' d=>∀v,DV K w' d v->Q v w'.H):n9 K w.H vs Q:=λa Z e Y =>
 h (w.same Z) (Fw.same e).le (S.same e) rfl (.ref a) ⟨a,vs,rfl,Y,(Fw.same e).le.all aq⟩
def AD {K:ļ} {w:Wd} {ds:List D} {vs:List V} {Q:VK} (S:aL K w) (aq:ar K w ds vs) (h:Out K Ξ w (ok (D.lst ds) w.aA) λw' d=>∀v,DV K w' d v->Q v w'.H):∀p,w.H p=none->Q (.ref p) (upd w.H p (.lst vs)):=λp Y =>
 h (w.grow p (.lst vs)) (Fw.grow Y).le (S.grow Y) rfl (.ref p) ⟨p,vs,rfl,⟨(show ¬ w.Z p from qr S Y),eT⟩,(Fw.grow Y).le.all aq⟩
def Wo {K:ļ} {w:Wd} {ds:List D} {vs:List V} {Q:VK} (S:aL K w) (aq:ar K w ds vs) (h:Out K Ξ w (ok (D.tup ds) w.aA) λw' d=>∀v,DV K w' d v->Q v w'.H):∀p,w.H p=none->Q (.ref p) (upd w.H p (.tup vs)):=λp Z =>
 h (w.grow p (.tup vs)) (Fw.grow Z).le (S.grow Z) rfl (.ref p) ⟨p,vs,rfl,bo.of eT,(Fw.grow Z).le.all aq⟩
def ib:aZ X (ř .Add) (rO X.K Ξ cY):=by
 rintro T s σ H x y v u Q I R P ⟨w,J,G,rfl,S,Z,Y,h⟩;obtain⟨d,e,h⟩:=f6 h;unfold rA at e;split at e
 ·rename_i i j e1 e2
  rw[fC e1 (by intro _ z;cases z)] at Z;rw[fC e2 (by intro _ z;cases z)] at Y;cases e;cases Z;cases Y;exact VU T s σ w.H _ _ v u Q I R P ⟨i,j,rfl,rfl,aF S h _ rfl⟩
 ·rename_i M L e1 e2
  rw[fC e1 (by intro _ z;cases z)] at Z;rw[fC e2 (by intro _ z;cases z)] at Y;split at e
  ·rename_i W
   cases e;simp only[DV] at Z Y;obtain⟨a,as,rfl,O,V⟩:=Z;obtain⟨b,bs,rfl,N,U⟩:=Y;exact Ul T s σ w.H _ _ v u Q I R P ⟨a,b,as,bs,rfl,rfl,O,N,by rw[<- V.length,<- U.length];exact ı W,ui S (V.append U) h⟩
  ·cases e
 ·rename_i M L e1 e2
  split at e
  ·rename_i W
   cases e;obtain⟨a,as,rfl,O,V⟩:=i8 S Z e1;obtain⟨b,bs,rfl,N,U⟩:=i8 S Y e2;exact V8 T s σ w.H _ _ v u Q I R P ⟨a,b,as,bs,rfl,rfl,O,N,by rw[<- V.length,<- U.length];exact ı W,AD S (V.append U) h⟩
  ·cases e
 ·rename_i i j e1 e2
  rw[fC e1 (by intro _ z;cases z)] at Z;rw[fC e2 (by intro _ z;cases z)] at Y;split at e
  ·rename_i W
   cases e;cases Z;cases Y;exact Pt T s σ w.H _ _ v u Q I R P ⟨i,j,rfl,rfl,ı W,aF S h _ rfl⟩
  ·cases e
 ·cases e
def Ab:aZ X (ř .Sub) (rO X.K Ξ qJ):=by
 rintro Z s σ H x y v u Q I Y W ⟨w,T,R,rfl,S,V,U,h⟩;obtain⟨d,e,h⟩:=f6 h;unfold MO at e;split at e
 ·rename_i i j
  cases e;cases V;cases U;exact VV Z s σ w.H _ _ v u Q I Y W ⟨i,j,rfl,rfl,aF S h _ rfl⟩
 ·cases e
def v5:aZ X (ř .Mult) (rO X.K Ξ jL):=by
 rintro V s σ H x y v u Q I U T ⟨w,M,L,rfl,S,Y,R,h⟩;obtain⟨d,e,h⟩:=f6 h;unfold EY at e;split at e
 ·rename_i i j
  split at e
  ·rename_i Z
   cases e;cases Y;cases R;refine VW V s σ w.H _ _ v u Q I U T ⟨i,j,rfl,rfl,?_,aF S h _ rfl⟩;unfold Ar;simpa [vY] using Z
  ·cases e
 ·rename_i O k
  split at e
  ·rename_i Z
   cases e;cases R;simp only[Ê,È] at Z;simp only[DV] at Y;obtain⟨a,as,rfl,P,W⟩:=Y;have N:=W.length;refine Uy V s σ w.H _ _ v u Q I U T ⟨a,as,k,rfl,rfl,P,?_,Z.1.2,by rw[<- N];exact Z.2,ui S (W.flat _) h⟩;intro z;subst z
   cases O with
   |nil=>simp at Z
   |cons _ _=>cases N
  ·cases e
 ·rename_i O k
  split at e
  ·rename_i Z
   cases e;cases R;simp only[Ê,È] at Z;simp only[DV] at Y;obtain⟨a,as,rfl,P,W⟩:=Y;exact V9 V s σ w.H _ _ v u Q I U T ⟨a,k,as,rfl,rfl,P.2,Z.1.1,Z.1.2,by rw[<- W.length];exact Z.2,AD S (W.flat _) h⟩
  ·cases e
 ·cases e
def tX:aZ X (ř .Mod) (rO X.K Ξ nY):=by
 rintro Z s σ H x y v u Q I Y W ⟨w,R,P,rfl,S,V,U,h⟩;obtain⟨d,e,h⟩:=f6 h;unfold EZ at e;split at e
 ·rename_i i j
  split at e
  ·rename_i T
   cases e;cases V;cases U;exact VX Z s σ w.H _ _ v u Q I Y W ⟨i,j,rfl,rfl,ı T,aF S h _ rfl⟩
  ·cases e
 ·cases e
def LV:aZ X (ř .FloorDiv) (rO X.K Ξ vZ):=by
 rintro Y s σ H x y v u Q I W V ⟨w,R,P,rfl,S,U,T,h⟩;obtain⟨d,e,h⟩:=f6 h;unfold E1 at e;split at e
 ·rename_i i j
  split at e
  ·rename_i Z
   simp only[Ê,È] at Z;cases e;cases U;cases T;exact T6 Y s σ w.H _ _ v u Q I W V ⟨i,j,rfl,rfl,Z,aF S h _ rfl⟩
  ·cases e
 ·cases e
def XN:aZ X (ř .Pow) (rO X.K Ξ Aa):=by
 rintro Y s σ H x y v u Q I W V ⟨w,R,P,rfl,S,U,T,h⟩;obtain⟨d,e,h⟩:=f6 h;unfold E2 at e;split at e
 ·rename_i i j
  split at e
  ·rename_i Z
   simp only[Ê,È] at Z;cases e;cases U;cases T;exact VY Y s σ w.H _ _ v u Q I W V ⟨i,j,rfl,rfl,⟨Z.1.1,Z.1.2,Z.2⟩,aF S h _ rfl⟩
  ·cases e
 ·cases e
def D5:xh X (unaryOp .USub) (rU X.K Ξ oT):=by
 rintro Z s σ H x v Q I Y ⟨w,V,rfl,S,W,h⟩;obtain⟨d,e,h⟩:=f6 h;unfold MP at e;split at e
 ·rename_i i
  cases e;cases W;exact KR Z s σ w.H _ v Q I Y ⟨i,rfl,aF S h _ rfl⟩
 ·cases e
noncomputable def o7 (p:Int->Int->Bool):D->D->Option D
 | .int i,.int j=>some (.bl (p i j))
 |_,_=>none
def o9 (x y:D) (s:ag):Res D:=bE (o7 (λi j=>decide (i<=j)) x y) s
def uq (x y:D) (s:ag):Res D:=bE (o7 (λi j=>decide (j<i)) x y) s
def AE (x y:D) (s:ag):Res D:=bE (o7 (λi j=>decide (j<=i)) x y) s
def Ad (x y:D) (s:ag):Res D:=bE (o7 (λi j=>decide (i<j)) x y) s
def wD:aZ X (Č .LtE) (rO X.K Ξ o9):=by
 rintro Z s σ H x y v u Q I Y W ⟨w,T,R,rfl,S,V,U,h⟩;obtain⟨d,e,h⟩:=f6 h;unfold o7 at e;split at e
 ·rename_i i j
  cases e;cases V;cases U;exact Xp Z s σ w.H _ _ v u Q I Y W ⟨i,j,rfl,rfl,aF S h _ rfl⟩
 ·cases e
def MQ:aZ X (Č .Gt) (rO X.K Ξ uq):=by
 rintro Z s σ H x y v u Q I Y W ⟨w,T,R,rfl,S,V,U,h⟩;obtain⟨d,e,h⟩:=f6 h;unfold o7 at e;split at e
 ·rename_i i j
  cases e;cases V;cases U;exact Xq Z s σ w.H _ _ v u Q I Y W ⟨i,j,rfl,rfl,aF S h _ rfl⟩
 ·cases e
def Y4:aZ X (Č .GtE) (rO X.K Ξ AE):=by
 rintro Z s σ H x y v u Q I Y W ⟨w,T,R,rfl,S,V,U,h⟩;obtain⟨d,e,h⟩:=f6 h;unfold o7 at e;split at e
 ·rename_i i j
  cases e;cases V;cases U;exact Xr Z s σ w.H _ _ v u Q I Y W ⟨i,j,rfl,rfl,aF S h _ rfl⟩
 ·cases e
def XO:aZ X (Č .Lt) (rO X.K Ξ Ad):=by
 rintro Z s σ H x y v u Q I Y W ⟨w,T,R,rfl,S,V,U,h⟩;obtain⟨d,e,h⟩:=f6 h;unfold o7 at e;split at e
 ·rename_i i j
  cases e;cases V;cases U;exact Xo Z s σ w.H _ _ v u Q I Y W ⟨i,j,rfl,rfl,aF S h _ rfl⟩
 ·cases e
noncomputable def Nv:D->Bool
 | .au=>true
 |_=>false
def oU (x y:D) (s:ag):Res D:=match y with
 | .au=>ok (.bl (Nv x)) s
 |_=>none
def Wq (h:DV K w d v):decide (v=.au)=Nv d:=by
 cases d with
 |au=>cases h;rfl
 |bl b=>cases h;rfl
 |int b=>cases h;rfl
 |str b=>cases h;rfl
 |ty b=>cases h;rfl
 |tup Z=>simp only[DV] at h;obtain⟨a,Y,rfl,_⟩:=h;rfl
 |lst Z=>simp only[DV] at h;obtain⟨a,Y,rfl,_⟩:=h;rfl
 |bJ Z=>simp only[DV] at h;obtain⟨a,rfl,_⟩:=h;rfl
 |ai k=>simp only[DV] at h;obtain⟨a,_,rfl⟩:=h;rfl
 |bQ k=>simp only[DV] at h;obtain⟨a,rfl,_⟩:=h;rfl
def LW:aZ X (Č .Is) (rO X.K Ξ oU):=by
 rintro Z s σ H x y v u Q I Y W ⟨w,T,R,rfl,S,V,U,h⟩;unfold oU at h;split at h
 ·cases U
  exact VZ Z s σ w.H _ _ v u Q I Y W ⟨rfl,by rw[Wq V];exact aF S h _ rfl⟩
 ·exact h.elim
def iy (d i:D) (s:ag):Option D:=match res d s,i with
 | .lst Z,.int i=>cN Z i
 | .tup Z,.int i=>cN Z i
 | .bQ Y,.int i=>(cN Y i).map D.int
 | .str x,.int i=>if decide (x.length<=Õ)=true then (cN x.cps.toList i).map λc=>.str ⟨#[c]⟩ else none
 |_,_=>none
def aj (x y:D) (s:ag):Res D:=bE (iy x y s) s
theorem ar.at (h:ar K w ds vs) (e:cN ds i=some d):∃v,cN vs i=some v/\DV K w d v:=by
 unfold cN at e |-;rw[h.length] at e
 cases hi:iq vs.length i with
 |none=>rw[hi] at e;cases e
 |some j =>
  rw[hi] at e;exact h.get' j d e
def Y5:xo X (rO X.K Ξ aj):=by
 rintro value slice T s σ H x y v u Q I R P ⟨w,B,A,rfl,S,Z,O,h⟩ hs;obtain⟨d,e,N⟩:=f6 h;clear h;unfold iy at e;split at e
 ·rename_i D i e1
  cases O;obtain⟨a,M,rfl,W,L⟩:=i8 S Z e1;obtain⟨z,J,G⟩:=L.at e;exact yY value slice T s σ w.H _ _ v u Q I R P ⟨a,M,i,z,rfl,rfl,bq.of W,J,aF S N _ G⟩ hs
 ·rename_i D i e1
  cases O;rw[fC e1 (by intro _ z;cases z)] at Z;simp only[DV] at Z;obtain⟨a,M,rfl,W,L⟩:=Z;obtain⟨z,J,G⟩:=L.at e;exact V4 value slice T s σ w.H _ _ v u Q I R P ⟨a,M,i,z,rfl,rfl,W,J,aF S N _ G⟩ hs
 ·rename_i U i e1
  cases O;rw[fC e1 (by intro _ z;cases z)] at Z;simp only[DV] at Z;obtain⟨a,rfl,W⟩:=Z
  cases Y:cN U i with
  |none=>rw[Y] at e;cases e
  |some n =>
   rw[Y] at e;cases e;refine yY value slice T s σ w.H _ _ v u Q I R P ⟨a,U.map V.int,i,.int n,rfl,rfl,W.sq,?_,aF S N _ rfl⟩ hs;unfold cN at Y |-;rw[Ã]
   cases E:iq U.length i with
   |none=>rw[E] at Y;cases Y
   |some j =>
    rw[E] at Y;show (U.map V.int)[j]?=some (.int n);rw[á,show U[j]?=some n from Y];rfl
 ·rename_i z i e1
  cases O;rw[fC e1 (by intro _ z;cases z)] at Z;cases Z;split at e
  ·rename_i C
   cases F:cN z.cps.toList i with
   |none=>rw[F] at e;cases e
   |some c =>
    rw[F] at e;cases e;exact V5 value slice T s σ w.H _ _ v u Q I R P ⟨z,i,c,rfl,rfl,ı C,F,aF S N _ rfl⟩ hs
  ·cases e
 ·cases e
def aO (ha:PE X a (tE X.K Ξ f)) (hb:PE X b (tE X.K Ξ g)) (hs:JU b:=by intro _ _;rfl):PE X (.Subscript a b pos) (tE X.K Ξ (e2 aj f g)):=dg (Xx Y5 ha hb hs) za
def wF (d:D) (s:ag):Option D:=match res d s with
 | .lst Z=>some (.int Z.length)
 | .tup Z=>some (.int Z.length)
 | .bQ Y=>some (.int Y.length)
 | .str x=>if decide (x.length<=Õ)=true then some (.int x.length) else none
 |_=>none
def cz (ds:List D) (s:ag):Res D:=match ds with
 | [d]=>bE (wF d s) s
 |_=>none
def nO (h:ar K w [d] vs):∃v,vs=[v]/\DV K w d v:=by
 obtain⟨v,r,rfl,Z,dr⟩:=h;have e:r=[]:=dr;subst e;exact⟨v,rfl,Z⟩
def oM (h:ar K w [d,e] vs):∃v u,vs=[v,u]/\DV K w d v/\DV K w e u:=by
 obtain⟨v,r,rfl,Z,h⟩:=h;obtain⟨u,rfl,Y⟩:=nO h;exact⟨v,u,rfl,Z,Y⟩
def kA:cB X (.builtin "len") (rC X.K Ξ cz):=by
 rintro U s σ H T R Q I r ⟨w,M,rfl,S,Y,h⟩;unfold cz at h;split at h
 ·obtain⟨v,rfl,Z⟩:=nO Y
  obtain⟨d,e,h⟩:=f6 h;unfold wF at e;split at e
  ·rename_i P e1
   cases e;obtain⟨a,T,rfl,W,Y⟩:=i8 S Z e1;exact Bu U s σ w.H _ R Q I r ⟨a,T,rfl,.inl (bq.of W),by rw[<- Y.length];exact aF S h _ rfl⟩
  ·rename_i P e1
   cases e;rw[fC e1 (by intro _ z;cases z)] at Z;simp only[DV] at Z;obtain⟨a,T,rfl,W,Y⟩:=Z;exact Bu U s σ w.H _ R Q I r ⟨a,T,rfl,.inr W,by rw[<- Y.length];exact aF S h _ rfl⟩
  ·rename_i O e1
   cases e;rw[fC e1 (by intro _ z;cases z)] at Z;simp only[DV] at Z;obtain⟨a,rfl,W⟩:=Z;exact Bu U s σ w.H _ R Q I r ⟨a,O.map V.int,rfl,.inl W.sq,by rw[Ã];exact aF S h _ rfl⟩
  ·rename_i z e1
   rw[fC e1 (by intro _ z;cases z)] at Z;cases Z;split at e
   ·rename_i N
    cases e;exact Oz U s σ w.H _ R Q I r ⟨z,rfl,ı N,aF S h _ rfl⟩
   ·cases e
  ·cases e
 ·exact h.elim
noncomputable def jl:List D->Option (List Bool)
 | []=>some []
 | .bl b::Z=>(jl Z).map λr=>b::r
 |_::_=>none
theorem Dm:∀{ds:List D} {bs:List Bool},jl ds=some bs->ds=bs.map D.bl
 | [],bs,h=>by cases h;rfl
 | .bl b::ds,bs,h=>by
  simp only[jl] at h
  cases Z:jl ds with
  |none=>rw[Z] at h;cases h
  |some r=>rw[Z] at h;cases h;rw[Dm Z];rfl
 | .au::_,_,h=>by cases h
 | .int _::_,_,h=>by cases h
 | .str _::_,_,h=>by cases h
 | .tup _::_,_,h=>by cases h
 | .lst _::_,_,h=>by cases h
 | .bJ _::_,_,h=>by cases h
 | .ai _::_,_,h=>by cases h
 | .ty _::_,_,h=>by cases h
 | .bQ _::_,_,h=>by cases h
def UG:jl (bs.map D.bl)=some bs:=by
 induction bs with
 |nil=>rfl
 |cons b bs ih=>simp only[Ö,jl,ih,Ŭ]
def lL (ds:List D) (s:ag):Res D:=match ds with
 | [d]=>match res d s with
  | .lst Z=>bE ((jl Z).map λbs=>.bl (bs.all id)) s
  |_=>none
 |_=>none
def uu (ds:List D) (s:ag):Res D:=match ds with
 | [d]=>match res d s with
  | .lst Z=>bE ((jl Z).map λbs=>.bl (bs.any id)) s
  |_=>none
 |_=>none
def qK (hc:X.calm=true):cB X (.builtin "all") (rC X.K Ξ lL):=by
 rintro V s σ H U T Q I r ⟨w,O,rfl,S,Z,h⟩;unfold lL at h;split at h
 ·obtain⟨v,rfl,R⟩:=nO Z
  split at h
  ·rename_i P e1
   obtain⟨d,e,h⟩:=f6 h
   cases Y:jl P with
   |none=>rw[Y] at e;cases e
   |some bs =>
    rw[Y] at e;cases e;obtain⟨a,U,rfl,W,Z⟩:=i8 S R e1;rw[Dm Y] at Z;rw[Z.CL] at W;exact RV hc V s σ w.H _ T Q I r ⟨a,bs,rfl,bq.of W,aF S h _ rfl⟩
  ·exact h.elim
 ·exact h.elim
def LX (hc:X.calm=true):cB X (.builtin "any") (rC X.K Ξ uu):=by
 rintro V s σ H U T Q I r ⟨w,O,rfl,S,Z,h⟩;unfold uu at h;split at h
 ·obtain⟨v,rfl,R⟩:=nO Z
  split at h
  ·rename_i P e1
   obtain⟨d,e,h⟩:=f6 h
   cases Y:jl P with
   |none=>rw[Y] at e;cases e
   |some bs =>
    rw[Y] at e;cases e;obtain⟨a,U,rfl,W,Z⟩:=i8 S R e1;rw[Dm Y] at Z;rw[Z.CL] at W;exact RW hc V s σ w.H _ T Q I r ⟨a,bs,rfl,bq.of W,aF S h _ rfl⟩
  ·exact h.elim
 ·exact h.elim
def qL (ds:List D) (s:ag):Res D:=match ds with
 | [.int i,.int j]=>ok (.int (if j > i then j else i)) s
 |_=>none
def v7 (ds:List D) (s:ag):Res D:=match ds with
 | [.int i,.int j]=>ok (.int (if j<i then j else i)) s
 |_=>none
def Dp (hc:X.calm=true):cB X (.builtin "max") (rC X.K Ξ qL):=by
 rintro Z s σ H T Y Q I r ⟨w,R,rfl,S,W,h⟩;unfold qL at h;split at h
 ·rename_i i j
  obtain⟨v,u,rfl,V,U⟩:=oM W;cases V;cases U;exact Qt hc Z s σ w.H _ Y Q I r ⟨i,j,rfl,aF S h _ rfl⟩
 ·exact h.elim
def La (hc:X.calm=true):cB X (.builtin "min") (rC X.K Ξ v7):=by
 rintro Z s σ H T Y Q I r ⟨w,R,rfl,S,W,h⟩;unfold v7 at h;split at h
 ·rename_i i j
  obtain⟨v,u,rfl,V,U⟩:=oM W;cases V;cases U;exact Qu hc Z s σ w.H _ Y Q I r ⟨i,j,rfl,aF S h _ rfl⟩
 ·exact h.elim
def eI (ds:List D) (s:ag):Res D:=match ds with
 | [d]=>match res d s with
  | .lst Z=>ok (.tup Z) s
  | .tup Z=>ok (.tup Z) s
  |_=>none
 |_=>none
def mJ:cB X (.type "tuple") (rC X.K Ξ eI):=by
 rintro U s σ H Y T Q I r ⟨w,O,rfl,S,W,h⟩;unfold eI at h;split at h
 ·obtain⟨v,rfl,Z⟩:=nO W
  split at h
  ·rename_i R e1
   obtain⟨a,Y,rfl,V,W⟩:=i8 S Z e1;exact Hi U s σ w.H _ T Q I r ⟨a,Y,rfl,.inl ⟨bq.of V,Wo S W h⟩⟩
  ·rename_i R e1
   rw[fC e1 (by intro _ z;cases z)] at Z;have P:=Z;simp only[DV] at Z;obtain⟨a,Y,rfl,V,W⟩:=Z;exact Hi U s σ w.H _ T Q I r ⟨a,Y,rfl,.inr ⟨V,aF S h _ P⟩⟩
  ·exact h.elim
 ·exact h.elim
end
def qM (n:Nat) (x:D) (ds:List D):Bool:=lay x&&dq ds&&decide (dep x<=n)
def inD (x:D) (ds:List D):Option Bool:=if qM 100 x ds=true then some (ds.any λy=>beq y x) else none
def oV (d:D) (s:ag):Option (List D):=match res d s with
 | .lst Z=>some Z
 | .tup Z=>some Z
 |_=>none
def cD (x y:D) (s:ag):Res D:=match oV y s with
 |some Z=>bE ((inD x Z).map D.bl) s
 |none=>none
def dU (x y:D) (s:ag):Res D:=match oV y s with
 |some Z=>bE ((inD x Z).map λb=>D.bl (!b)) s
 |none=>none
def Jg (S:aL K w) (h:DV K w d v) (e:oV d w.aA=some ds):∃a xs,v=.ref a/\(w.H a=some (.lst xs)\/bo K w.H a xs)/\ar K w ds xs:=by
 unfold oV at e;split at e
 ·rename_i X e1
  cases e;obtain⟨a,xs,rfl,Z,Y⟩:=i8 S h e1;exact⟨a,xs,rfl,.inl Z,Y⟩
 ·rename_i X e1
  cases e;rw[fC e1 (by intro _ z;cases z)] at h;simp only[DV] at h;obtain⟨a,xs,rfl,Z,Y⟩:=h;exact⟨a,xs,rfl,.inr Z,Y⟩
 ·cases e
section
variable {X:Cx} {Ξ:Wd->bt->Prop} {π:List (â×Obj)} {σ:St} {s:Ç}
theorem Dq (lx:lay x=true):∀{ds:List D},dq ds=true->((cO ds).any λy=>Ļ y (py x))=ds.any λy=>beq y x
 | [],_=>rfl
 |d::ds,h=>by
  simp only[dq,Ê] at h;simp only[cO,List.any_cons,tF d x h.1 lx,Dq lx h.2]
def Lb (h:inD x ds=some b):lay x=true/\dq ds=true/\dep x<=100/\(ds.any λy=>beq y x)=b:=by
 unfold inD qM at h;split at h
 ·rename_i Z
  simp only[Ê,È] at Z;exact⟨Z.1.1,Z.1.2,Z.2,acs h⟩
 ·cases h
def il (hr:bZ k X.A):aZ X (Č .In) (rO X.K Ξ cD):=by
 rintro π s σ H x y v u Q I J T ⟨w,W,B,rfl,S,G,F,h⟩;unfold cD at h;split at h
 ·rename_i Z E
  obtain⟨d,e,h⟩:=f6 h
  cases V:inD W Z with
  |none=>rw[V] at e;cases e
  |some b =>
   rw[V] at e;cases e;obtain⟨U,Y,z,D⟩:=Lb V;obtain⟨R,C⟩:=ll _ U;obtain⟨P,t⟩:=vz _ Y;obtain⟨bs,O⟩:=(G.py (p9 _ U)).reads I J;have N:X.A.units+1+min (aar (cO Z)) (py W).depth<abr:=by
    have:=hr.un;rw[C];omega
   obtain⟨a,M,rfl,ha,L⟩:=Jg S F E;have fin:EP X π σ Q (.bool ((cO Z).any λy=>Ļ y (py W))) s:=⟨.bl b,w.H,I,by rw[Dq U Y,D];rfl,aF S h _ rfl⟩
   rcases ha with ha|ha
   ·obtain⟨cs,rc⟩:=(show L2.DV X.K (λ_=>False) w.H (.list (cO Z)) (.ref a) by simp only[L2.DV];exact⟨a,M,rfl,not_false,ha,L.py (pY _ Y)⟩).reads I T
    exact SeqAt.in_list_reads rc O P R N fin
   ·obtain⟨cs,rc⟩:=(show L2.DV X.K (λ_=>False) w.H (.tuple (cO Z)) (.ref a) by simp only[L2.DV];exact⟨a,M,rfl,ha,L.py (pY _ Y)⟩).reads I T
    exact SeqAt.in_tuple_reads rc O P R N fin
 ·exact h.elim
def nH (hr:bZ k X.A):aZ X (Č .NotIn) (rO X.K Ξ dU):=by
 rintro π s σ H x y v u Q I J T ⟨w,W,B,rfl,S,G,F,h⟩;unfold dU at h;split at h
 ·rename_i Z E
  obtain⟨d,e,h⟩:=f6 h
  cases V:inD W Z with
  |none=>rw[V] at e;cases e
  |some b =>
   rw[V] at e;cases e;obtain⟨U,Y,z,D⟩:=Lb V;obtain⟨R,C⟩:=ll _ U;obtain⟨P,t⟩:=vz _ Y;obtain⟨bs,O⟩:=(G.py (p9 _ U)).reads I J;have N:X.A.units+1+min (aar (cO Z)) (py W).depth<abr:=by
    have:=hr.un;rw[C];omega
   obtain⟨a,M,rfl,ha,L⟩:=Jg S F E;have fin:EP X π σ Q (.bool (!(cO Z).any λy=>Ļ y (py W))) s:=⟨.bl (!b),w.H,I,by rw[Dq U Y,D];rfl,aF S h _ rfl⟩
   rcases ha with ha|ha
   ·obtain⟨cs,rc⟩:=(show L2.DV X.K (λ_=>False) w.H (.list (cO Z)) (.ref a) by simp only[L2.DV];exact⟨a,M,rfl,not_false,ha,L.py (pY _ Y)⟩).reads I T
    exact SeqAt.notIn_list_reads rc O P R N fin
   ·obtain⟨cs,rc⟩:=(show L2.DV X.K (λ_=>False) w.H (.tuple (cO Z)) (.ref a) by simp only[L2.DV];exact⟨a,M,rfl,ha,L.py (pY _ Y)⟩).reads I T
    exact SeqAt.notIn_tuple_reads rc O P R N fin
 ·exact h.elim
def tP (K:ļ) (Ξ:Wd->bt->Prop) (f:acn (Option Int)):TO:=fun σ H Q=>∃w env,w.H=H/\aL K w/\cj K w env σ/\Out K Ξ w (f env w.aA) λZ i=>Q i Z.H
def kQ:acn (Option Int):=λ_ s=>ok none s
def kH (f:acn D):acn (Option Int):=λenv s=>ao (f env s) λd s=>match d with
 | .int i=>ok (some i) s
 |_=>none
variable {e a b:Ņ} {lo hi:Option Ņ} {pos p2 p3 p4:Pos} {f g:acn D}
def Lc (h:PO X lo t) (i:∀ σ H Q,t' σ H Q->t σ H Q):PO X lo t':=λπ s σ H Q I Z=>h π s σ H Q I (i σ H Q Z)
def wG:PO X none (tP X.K Ξ kQ):=Lc Ud fun σ H Q Z=>by
 obtain⟨w,env,Y,S,W,h⟩:=Z;subst Y;exact aF S h
def v8 (he:PE X e (tE X.K Ξ f)):PO X (some e) (tP X.K Ξ (kH f)):=Lc (Ue he) fun σ H Q Y=>by
 obtain⟨w,env,W,S,V,h⟩:=Y;subst W;refine⟨w,env,rfl,S,V,(Out.ao h).mono λR d P U Z v T=>?_⟩
 cases d with
 |int i=>exact⟨i,T,aF U Z⟩
 |_=>exact Z.elim
noncomputable def cutD (xs:List D) (lo hi:Option Int):List D:=(xs.drop (HT.aV xs.length 0 lo)).take (HT.aV xs.length xs.length hi-HT.aV xs.length 0 lo)
def kh (d:D) (lo hi:Option Int) (s:ag):Res D:=match res d s with
 | .tup Z=>ok (.tup (cutD Z lo hi)) s
 | .lst Z=>ok (.lst (cutD Z lo hi)) s
 |_=>none
def kR (f:acn D) (l h:acn (Option Int)):acn D:=λenv s=>ao (f env s) λd s=>ao (l env s) λlo s=>ao (h env s) λhi s=>kh d lo hi s
def ZZ (K:ļ) (Ξ:Wd->bt->Prop):V->Option Int->Option Int->Hp->VK->Prop:=λx lo hi H Q=>∃w Z,w.H=H/\aL K w/\DV K w Z x/\Out K Ξ w (kh Z lo hi w.aA) λY d=>∀v,DV K Y d v->Q v Y.H
def Wr:xn X (ZZ X.K Ξ):=by
 rintro π s σ H x v U T lo hi R Q I P hs O pu ⟨w,M,rfl,S,Y,h⟩;unfold kh at h;split at h
 ·rename_i N e1
  rw[fC e1 (by intro _ z;cases z)] at Y;simp only[DV] at Y;obtain⟨a,W,rfl,V,Z⟩:=Y;refine Uk π s σ w.H _ v U T lo hi R Q I P hs O pu ⟨a,W,rfl,V,ui S ?_ h⟩;unfold cutD lG;rw[Z.length];exact(Z.drop _).take _
 ·rename_i N e1
  obtain⟨a,W,rfl,V,Z⟩:=i8 S Y e1;refine Uh π s σ w.H _ v U T lo hi R Q I P hs O pu ⟨a,W,rfl,bq.of V,AD S ?_ h⟩;unfold cutD lG;rw[Z.length];exact(Z.drop _).take _
 ·exact h.elim
def wH (he:PE X e (tE X.K Ξ f)) (hl:PO X lo (tP X.K Ξ fl)) (hu:PO X hi (tP X.K Ξ fh)):PE X (.Subscript e (.Slice lo hi none p2) pos) (tE X.K Ξ (kR f fl fh)) :=
 dg (RR Wr he hl hu) fun σ H Q V=>by
  obtain⟨w,env,U,S,Z,h⟩:=V;subst U;exact⟨w,env,rfl,S,Z,(Out.ao h).mono λT d Y R P v O=>⟨T,env,rfl,R,Z.le Y,(Out.ao P).mono λN i W M L=>⟨N,env,rfl,M,Z.le (Y.trans W),(Out.ao L).mono λJ j I G F=>⟨J,d,rfl,G,(W.trans I) _ _ O,F⟩⟩⟩⟩
def AF (d:D) (s:ag):Res D:=match d with
 | .tup Z=>ok (.tup Z.reverse) s
 |_=>none
def XQ (he:PE X e (tE X.K Ξ f)):PE X (.Subscript e (.Slice none none (some (.UnaryOp .USub (.Constant (.int 1) 0 p4) p3)) p2) pos) (tE X.K Ξ (e1 AF f)):=dg (Wh he) fun σ H Q W=>by
 obtain⟨w,env,V,S,U,h⟩:=W;subst V;refine⟨w,env,rfl,S,U,(Out.ao h).mono λN d M T Z v Y=>?_⟩;unfold AF at Z;split at Z
 ·simp only[DV] at Y
  obtain⟨a,R,rfl,P,O⟩:=Y;exact⟨a,R,rfl,P,ui T O.reverse Z⟩
 ·exact Z.elim
def iT (d x:D) (s:ag):Res D:=match d with
 | .ai k=>match s[k]? with
  |some (.lst Z)=>if decide (Z.length<Õ)=true then ok .au (s.set k (.lst (Z++[x]))) else none
  |_=>none
 |_=>none
def iU (d:D) (s:ag):Bool:=match d with
 | .ai k=>match s[k]? with
  |some (.lst _)=>true
  |_=>false
 |_=>false
def gP (f g:acn D):acn D:=λenv s=>ao (f env s) λd s=>if iU d s=true then ao (g env s) λx s=>iT d x s else none
def UH (S:aL K w) (dv:DV K w d v) (h:iU d w.aA=true):∃k a ds xs,d=.ai k/\v=.ref a/\w.ρ[k]?=some a/\w.aA[k]?=some (.lst ds)/\w.H a=some (.lst xs)/\ar K w ds xs:=by
 unfold iU at h;split at h
 ·rename_i k
  split at h
  ·rename_i ds Z
   obtain⟨a,e1,rfl⟩:=dv;obtain⟨xs,Y,X⟩:=S.cell k a _ e1 Z;exact⟨k,a,ds,xs,rfl,rfl,e1,Z,Y,X⟩
  ·cases h
 ·cases h
def Ws (S:aL K w) (dv:DV K w d v) (du:DV K w y u) (h:Out K Ξ w (iT d y w.aA) q):∃a xs,v=.ref a/\w.H a=some (.lst xs)/\xs.length<Õ/\∃w',w'.H=upd w.H a (.lst (xs++[u]))/\q w' .au:=by
 unfold iT at h;split at h
 ·rename_i k
  split at h
  ·rename_i Z Y
   split at h
   ·rename_i V
    obtain⟨a,e1,rfl⟩:=dv;obtain⟨xs,U,X⟩:=S.cell k a _ e1 Y;have W:(Cell.lst Z)≠.dead:=by intro z;cases z
    have le:=(Fw.put (K:=K) (o:=.lst (xs++[u])) (c:=.lst (Z++[y])) S e1 Y W).le;refine⟨a,xs,rfl,U,by rw[<- X.length];exact ı V,w.put k a (.lst (xs++[u])) (.lst (Z++[y])),rfl,?_⟩;exact h _ le (S.EU e1 Y W ⟨_,eT,le.all (X.append (ar.one du))⟩) rfl
   ·exact h.elim
  ·exact h.elim
 ·exact h.elim
def mS {o:Ņ} {apos fu:Pos} (ho:PE X o (tE X.K Ξ f)) (ha:PE X a (tE X.K Ξ g))
  (DW:attributeBase o "append" X.env (ś o X.env)=ś o X.env:=by rfl)
  (EK:((χ fu (Þ [a] X.env)).all (λx=>!x.1)&&(backToKw fu (abM [] X.env)).all (λx=>x.1.isSome)
   && decide (([a]:List Ņ).length+([]:List ach).length+(if ([]:List ach).isEmpty then 0 else 1)<30))=true:=by rfl)
  (DY:(apos.endLine==fu.line)=true:=by rfl) (hs:Þ [a] X.env=(false,ś a X.env)::Þ [] X.env:=by rfl) (Dh:(χ fu (Þ [] X.env)).any (·.1)=false:=by rfl) :
  PE X (.Call (.Attribute o "append" apos) [a] [] fu) (tE X.K Ξ (gP f g)) :=
 dg (Xz PySem.F.plainAttrs_list PySem.F.slot_list_append PySem.F.type_list_append Qw ho (kY ha nM hs) DW EK DY hs Dh) fun σ H Q T=>by
  obtain⟨w,env,Z,S,W,h⟩:=T;subst Z;refine⟨w,env,rfl,S,W,(Out.ao h).mono λR d P V Y v U=>?_⟩;split at Y
  ·rename_i O
   obtain⟨k,p,t,N,rfl,rfl,e1,e2,M,s⟩:=UH V U O;refine⟨.inl ⟨rfl,N,bq.of M⟩,R,env,rfl,V,W.le P,(Out.ao Y).mono λr y L J I u G=>?_⟩;obtain⟨E,D,C,B,A,q,Z,z⟩:=Ws J (L _ _ U) G I;refine⟨E,D,u,C,rfl,B,A,?_⟩;rw[<- Z];exact z _ rfl
  ·exact Y.elim
def je (d i x:D) (s:ag):Option ag:=match d,i with
 | .ai k,.int n=>match s[k]? with
  |some (.lst Z)=>(iq Z.length n).map λj=>s.set k (.lst (Z.set j x))
  |_=>none
 |_,_=>none
def iV (f o i:acn D):acn Fl:=λenv s=>ao (f env s) λx s=>ao (o env s) λd s=>ao (i env s) λn s=>match je d n x s with
 |some Z=>ok (.nx env) Z
 |none=>none
def Wt (S:aL K w) (dv:DV K w d v) (dn:DV K w i n) (du:DV K w x u) (h:je d i x w.aA=some s'):∃a xs k j,v=.ref a/\n=.int k/\w.H a=some (.lst xs)/\iq xs.length k=some j/\∃w',w'.H=upd w.H a (.lst (xs.set j u))/\w'.aA=s'/\Le K w w'/\aL K w':=by
 unfold je at h;split at h
 ·rename_i k m
  split at h
  ·rename_i Z Y
   cases X:iq Z.length m with
   |none=>rw[X] at h;cases h
   |some j =>
    rw[X] at h;cases h;obtain⟨a,e1,rfl⟩:=dv;obtain⟨xs,U,W⟩:=S.cell k a _ e1 Y;have V:(Cell.lst Z)≠.dead:=by intro z;cases z
    have le:=(Fw.put (K:=K) (o:=.lst (xs.set j u)) (c:=.lst (Z.set j x)) S e1 Y V).le;exact⟨a,xs,m,j,rfl,dn,U,by rw[<- W.length];exact X,w.put k a (.lst (xs.set j u)) (.lst (Z.set j x)),rfl,rfl,le,S.EU e1 Y V ⟨_,eT,le.all (W.set du j)⟩⟩
  ·cases h
 ·cases h
def qN (he:PE X e (tE X.K Ξ f)) (ho:PE X o (tE X.K Ξ fo)) (hi:PE X i (tE X.K Ξ fi))
 (ha:∀v,aai (.Subscript o i jf) X.env v=(do
   let ov <- aaj [v] (ś o X.env)
   let iv <- aaj [v,ov] (ś i X.env)
   aak jf
   aaj [v,ov,iv] (setItem ov iv v)
   release [v,ov,iv] []):=by intro _;rfl)
 (hs:θ [.Subscript o i jf] e pos.line X.env=pure false:=by rfl) (hw:ι [.Subscript o i jf] e X.env=pure none:=by rfl)
 (h1:(ų [.Subscript o i jf] X.env).map (·.2)=[aai (.Subscript o i jf) X.env]:=by rfl):PS X (.Assign [.Subscript o i jf] e pos) (tS X.K Ξ (iV f fo fi)) :=
 kg (Dd he (KQ ho hi set_list ha) hs hw h1) λt σ H Q=>by
  obtain⟨w,env,W,S,Z,h⟩:=Q;subst W;refine⟨w,env,rfl,S,Z,(Out.ao h).mono λP x V O h1 u N=>?_⟩;refine⟨P,env,rfl,O,Z.le V,(Out.ao h1).mono λM d U L J v I=>?_⟩;refine⟨M,env,rfl,L,Z.le (V.trans U),(Out.ao J).mono λG n T F Y m E=>?_⟩
  cases R:je d n x G.aA with
  |none=>rw[R] at Y;exact Y.elim
  |some s =>
   rw[R] at Y;obtain⟨a,D,k,j,e1,e2,C,B,A,W,z,le,y⟩:=Wt F (T _ _ I) E ((U.trans T) _ _ N) R;refine⟨a,D,k,j,e1,e2,C,B,?_⟩;rw[<- W];exact Y A le y z σ (Z.le (V.trans (U.trans (T.trans le))))
end
def kd (d:D) (s:ag):Option Kn:=match res d s with
 | .au=>some .au
 | .bl _=>some .bl
 | .int _=>some .int
 | .str _=>some .str
 | .tup _=>some .tup
 | .lst _=>some .lst
 | .bJ _=>some .bJ
 |_=>none
def LY (S:aL K w) (h:DV K w d v) (e:kd d w.aA=some k):pH K w.H v k:=by
 unfold kd at e
 split at e<;>rename_i e1<;>first | (cases e;done) | (try cases e)
 ·rw[fC e1 (by intro _ z;cases z)] at h;cases h;trivial
 ·rw[fC e1 (by intro _ z;cases z)] at h;cases h;trivial
 ·rw[fC e1 (by intro _ z;cases z)] at h;cases h;trivial
 ·rw[fC e1 (by intro _ z;cases z)] at h;cases h;trivial
 ·rw[fC e1 (by intro _ z;cases z)] at h
  simp only[DV] at h;obtain⟨a,Y,rfl,Z,_⟩:=h;exact⟨Y,Z⟩
 ·obtain⟨a,Y,rfl,Z,_⟩:=i8 S h e1
  exact⟨Y,bq.of Z⟩
 ·rw[fC e1 (by intro _ z;cases z)] at h
  simp only[DV] at h;obtain⟨a,rfl,_,Z⟩:=h;exact⟨_,Z⟩
noncomputable def LZ (T:String):Bool:=T=="int"||T=="bool"||T=="str"||T=="tuple"||T=="list"
def cL (ds:List D) (s:ag):Res D:=match ds with
 | [d,.ty T]=>if LZ T=true then bE ((kd d s).map λk=>.bl (ue k T)) s else none
 |_=>none
section
variable {X:Cx} {Ξ:Wd->bt->Prop} {e a b:Ņ} {es:List Ņ} {pos:Pos} {f g:acn D} {fa:acn (List D)}
def jM:cB X (.builtin "isinstance") (rC X.K Ξ cL):=by
 rintro Z s σ H M Y Q I r ⟨w,L,rfl,S,R,h⟩;unfold cL at h;split at h
 ·rename_i d T
  obtain⟨v,u,rfl,P,O⟩:=oM R;have N:u=.ty T:=O;subst N;split at h
  ·rename_i U
   obtain⟨J,e,h⟩:=f6 h
   cases V:kd d w.aA with
   |none=>rw[V] at e;cases e
   |some k =>
    rw[V] at e;cases e;have W:=LY S P V;simp only[LZ,aao,beq_iff_eq] at U
    rcases U with (((rfl|rfl)|rfl)|rfl)|rfl
    ·exact OA Z s σ w.H _ Y Q I r ⟨v,k,rfl,W,aF S h _ rfl⟩
    ·exact Oh Z s σ w.H _ Y Q I r ⟨v,k,rfl,W,aF S h _ rfl⟩
    ·exact OB Z s σ w.H _ Y Q I r ⟨v,k,rfl,W,aF S h _ rfl⟩
    ·exact N7 Z s σ w.H _ Y Q I r ⟨v,k,rfl,W,aF S h _ rfl⟩
    ·exact Oi Z s σ w.H _ Y Q I r ⟨v,k,rfl,W,aF S h _ rfl⟩
  ·exact h.elim
 ·exact h.elim
def jR (hv:Ă x=some (.type T)) (hg:Gl X x) (hm:X.mg x=none) (hn:x≠"__name__":=by decide) (hd:(x==("__debug__":Str))=false:=by decide):PE X (.Name x pos) (tE X.K Ξ (eC (.ty T))):=tV (v:=.ty T) (Cy hg hm hv rfl hn hd) λ_=>rfl
def eh (g:∃t,X.mg x=some (.int i t)) (hg:Gl X x) (hd:(x==("__debug__":Str))=false:=by decide):PE X (.Name x pos) (tE X.K Ξ (eC (.int i))):=by
 obtain⟨t,e⟩:=g;exact tV (v:=.int i) (JN hg e ⟨t,rfl⟩ hd) λ_=>rfl
def wI (d:D) (s:ag):Res D:=bE ((kd d s).map λk=>.bl (decide (k=.tup)||decide (k=.lst))) s
def UI {x1} (ha:PE X a (tE X.K Ξ f)) (hg:Gl X "isinstance") (hm:X.mg "isinstance"=none) (hv:Ă "isinstance"=some (.builtin "isinstance")) (h1:PE X (.Name "tuple" p1) (tC (.ty "tuple"))) (h2:PE X (.Name "list" p2) (tC (.ty "list")))
 (he:Þ (a::[.Tuple [.Name "tuple" p1,.Name "list" p2] x1 p3]) X.env=(false,ś a X.env)::Þ [.Tuple [.Name "tuple" p1,.Name "list" p2] x1 p3] X.env:=by rfl) :
  PE X (.Call (.Name "isinstance" p) [a,.Tuple [.Name "tuple" p1,.Name "list" p2] x1 p3] [] pos) (tE X.K Ξ (e1 wI f)) :=
 dg (yM OU hg hm hv (kY ha (kY (RU (kY h1 (kY h2 nM))) nM) he) (by decide) (by decide) he) fun σ H Q T=>by
  obtain⟨w,env,R,S,P,h⟩:=T;subst R;refine⟨w,env,rfl,S,P,(Out.ao h).mono λY d M O h1 v N=>?_⟩;refine⟨["tuple","list"],rfl,(by show 2<=Õ;decide),λp W=>?_⟩;obtain⟨L,e,h1⟩:=f6 h1
  cases Z:kd d Y.aA with
  |none=>rw[Z] at e;cases e
  |some k =>
   rw[Z] at e;cases e;have V:=O.grow (o:=.ext (tU p ["tuple","list"])) W;have U:=(Fw.grow (K:=X.K) (o:=.ext (tU p ["tuple","list"])) W).le;exact⟨v,k,p,rfl,LY (w:=Y.grow p _) V (U _ _ N) Z,eT,h1 _ U V rfl _ rfl⟩
def v9 (d:D):Bool:=plain d&&(py d).showable&&(!(py d).hasDict||(match py d with | .tuple Z=>uj Z | .dict _=>true | _=>false))&&decide ((py d).depth<=100)&&decide ((py d).shown.length<=Õ)
def wa (ds:List D) (s:ag):Res D:=match ds with
 | [d]=>if v9 (res d s)=true then ok (.str (py (res d s)).shown) s else none
 |_=>none
def Ld (hr:bZ k X.A):cB X (.builtin "repr") (rC X.K Ξ wa):=by
 rintro Z s σ H G Y Q I r ⟨w,F,rfl,S,N,h⟩;unfold wa at h;split at h
 ·rename_i d
  obtain⟨v,rfl,M⟩:=nO N;split at h
  ·rename_i R
   simp only[v9,Ê,È] at R;obtain⟨⟨⟨⟨L,W⟩,O⟩,V⟩,U⟩:=R;have T:=M.res S L;have fin:=aF S h _ rfl;generalize E:py (res d w.aA)=P at *
   cases P with
   |tuple J =>
    refine PN hr Z s σ w.H _ Y Q I r ⟨v,J,_,rfl,T,W,?_,V,U,fin⟩;simpa using O
   |dict D=>exact Ih hr Z s σ w.H _ Y Q I r ⟨v,_,_,rfl,T,W,.inr rfl,V,U,fin⟩
   |_ =>
    refine Ih hr Z s σ w.H _ Y Q I r ⟨v,_,_,rfl,T,W,.inl ?_,V,U,fin⟩;simpa using O
  ·exact h.elim
 ·exact h.elim
noncomputable def qO:List D->Option (List Int)
 | []=>some []
 | .int i::Z=>(qO Z).map λr=>i::r
 |_::_=>none
theorem Jh:∀{ds:List D} {ns:List Int},qO ds=some ns->ds=ns.map D.int
 | [],ns,h=>by cases h;rfl
 | .int b::ds,ns,h=>by
  simp only[qO] at h
  cases Z:qO ds with
  |none=>rw[Z] at h;cases h
  |some r=>rw[Z] at h;cases h;rw[Jh Z];rfl
 | .au::_,_,h=>by cases h
 | .bl _::_,_,h=>by cases h
 | .str _::_,_,h=>by cases h
 | .tup _::_,_,h=>by cases h
 | .lst _::_,_,h=>by cases h
 | .bJ _::_,_,h=>by cases h
 | .ai _::_,_,h=>by cases h
 | .ty _::_,_,h=>by cases h
 | .bQ _::_,_,h=>by cases h
def BP:qO (ns.map D.int)=some ns:=by
 induction ns with
 |nil=>rfl
 |cons b bs ih=>simp only[Ö,qO,ih,Ŭ]
noncomputable def m7 (i:Int):List Int->List Int
 | []=>[i]
 |j::r=>if i<j then i::j::r else if i=j then j::r else j::m7 i r
def eY:List Int->List Int
 | []=>[]
 |i::r=>m7 i (eY r)
theorem B9:∀{l:List Int},k∈m7 i l↔k=i\/k∈l
 | []=>by simp[m7]
 |j::r=>by
  unfold m7;split
  ·simp
  ·split
   ·rename_i h;subst h;simp
   ·rw[Ó,B9,Ó]
    constructor
    ·rintro (h|h|h)
     ·exact .inr (.inl h)
     ·exact .inl h
     ·exact .inr (.inr h)
    ·rintro (h|h|h)
     ·exact .inr (.inl h)
     ·exact .inl h
     ·exact .inr (.inr h)
theorem Hw:∀{l:List Int},l.Pairwise (· < ·)->(m7 i l).Pairwise (· < ·)
 | [],_=>by simp[m7]
 |j::r,h=>by
  obtain⟨Z,Y⟩:=ą.mp h;unfold m7;split
  ·rename_i X
   refine ą.mpr ⟨λk hk=>?_,h⟩
   rcases Ó.mp hk with rfl|hk
   ·exact X
   ·have:=Z k hk;omega
  ·split
   ·exact h
   ·refine ą.mpr ⟨λk hk=>?_,Hw Y⟩
    rcases B9.mp hk with rfl|hk
    ·omega
    ·exact Z k hk
theorem nA:∀{l:List Int},k∈eY l↔k∈l
 | []=>by simp[eY]
 |i::r=>by simp[eY,B9,nA]
theorem yp:∀(l:List Int),(eY l).Pairwise (· < ·)
 | []=>List.Pairwise.nil
 |i::r=>Hw (yp r)
theorem Bt:∀{l m:List Int},l.Pairwise (· < ·)->m.Pairwise (· < ·)->(∀k,k∈l↔k∈m)->l=m
 | [],[],_,_,_=>rfl
 | [],j::m,_,_,h=>by have:=(h j).mpr Î;cases this
 |i::l,[],_,_,h=>by have:=(h i).mp Î;cases this
 |i::l,j::m,W,V,h=>by
  obtain⟨Y,U⟩:=ą.mp W;obtain⟨X,T⟩:=ą.mp V;have e:i=j:=by
   rcases Ó.mp ((h i).mp Î) with e|e
   ·exact e
   ·rcases Ó.mp ((h j).mpr Î) with e'|e'
    ·exact e'.symm
    ·have:=X i e;have:=Y j e';omega
  subst e;congr 1;refine Bt U T λk=>?_;constructor
  ·intro Z
   rcases Ó.mp ((h k).mp (Ï _ Z)) with e|e
   ·subst e;have:=Y k Z;omega
   ·exact e
  ·intro Z
   rcases Ó.mp ((h k).mpr (Ï _ Z)) with e|e
   ·subst e;have:=X k Z;omega
   ·exact e
def BQ (l:List Int):(eY l).length<=l.length:=by
 induction l with
 |nil=>exact acr _
 |cons x l ih =>
  have:(eY (x::l)).length<=(eY l).length+1:=by
   show (m7 x (eY l)).length<=_;generalize eY l=m
   induction m with
   |nil=>exact acr _
   |cons y m Z =>
    unfold m7;split
    ·simp
    ·split
     ·simp
     ·simp only[ù];omega
  simp only[ù];omega
def Ji (ns:List Int):(ns.foldl ŧ []).length<=(eY ns).length:=sub_len (ve ns [] aae) λk Z=>nA.mpr ((vo ns k).mp Z)
def ka (d:D) (s:ag):Res D:=match d with
 | .lst Y=>match qO Y with
  |some Z=>if decide ((eY Z).length<64)=true then ok (.lst ((eY Z).map D.int)) s else none
  |none=>none
 |_=>none
def HL {p p2 lM:Pos} (ha:PE X a (tE X.K Ξ f)) (hc:X.calm=true) (hg:Gl X "sorted") (hm:X.mg "sorted"=none) (hv:Ă "sorted"=some (.builtin "sorted")) (FV:Gl X "set") (FW:X.mg "set"=none) (Z0:Ă "set"=some (.type "set"))
  (he:Þ [a] X.env=(false,ś a X.env)::Þ [] X.env:=by rfl) (dA:(χ lM (Þ [] X.env)).any (·.1)=false:=by rfl)
  (oo:Þ [.Call (.Name "set" p2) [a] [] lM] X.env=(false,ś (.Call (.Name "set" p2) [a] [] lM) X.env)::Þ [] X.env:=by rfl) (wJ:(χ pos (Þ [] X.env)).any (·.1)=false:=by rfl) :
  PE X (.Call (.Name "sorted" p) [.Call (.Name "set" p2) [a] [] lM] [] pos) (tE X.K Ξ (e1 ka f)) :=
 dg (yM (Ho hc) hg hm hv (kY (BM (PM hc) FV FW Z0 (kY ha nM he) (by decide) (by decide) he dA) nM oo) (by decide) (by decide) oo wJ) fun σ H Q J=>by
  obtain⟨w,env,I,S,G,h⟩:=J;subst I;refine⟨w,env,rfl,S,G,(Out.ao h).mono λU d A F W v P=>?_⟩;unfold ka at W;split at W
  ·rename_i z
   split at W
   ·rename_i Y E
    split at W
    ·rename_i T
     have T:=ı T;simp only[DV] at P;obtain⟨p,y,rfl,O,N⟩:=P;rw[Jh E] at N;rw[N.Jb] at O;have D:=aa3 (Ji Y) T;refine⟨p,Y,rfl,O.sq,by omega,λq M=>?_⟩;refine⟨q,Y,rfl,eT,D,λl x C hs B=>?_⟩;have e:=Bt hs (yp Y) λk=>(B k).trans nA.symm;subst e;have R:(U.grow q (.ext (cR X.prog X.w q Y))).H l=none:=C;have L:=F.grow (o:=.ext (cR X.prog X.w q Y)) M;exact W ((U.grow q (.ext (cR X.prog X.w q Y))).grow l (.lst ((eY Y).map V.int))) ((Fw.grow M).le.trans (Fw.grow R).le) (L.grow R) rfl (.ref l) ⟨l,_,rfl,⟨(show ¬ (U.grow q (.ext (cR X.prog X.w q Y))).Z l from qr L R),eT⟩,ar.ints _⟩
    ·exact W.elim
   ·exact W.elim
  ·exact W.elim
def AG (i j:Nat) (fa:acn (List D)):acn Fl:=λenv s=>ao (fa env s) λZ s=>match Z with
 | [x,y]=>ok (.nx ((env.set i (some x)).set j (some y))) s
 |_=>none
def Wu (i j:Nat) {x y:Str} {px py pt:Pos} {kt k2 jg} (hc:X.calm=true) (hN:X.N.Nodup) (ha:PA X [a,b] (tA X.K Ξ fa)) (hi:X.N[i]?=some x:=by rfl) (hj:X.N[j]?=some y:=by rfl) (fU:i≠j:=by decide)
  (hx:X.env.scope.names.lookup x=some .local:=by rfl) (hy:X.env.scope.names.lookup y=some .local:=by rfl)
  (hw:ι [.Tuple [.Name x px,.Name y py] kt pt] (.Tuple [a,b] k2 jg) X.env=pure (some [x,y]):=by rfl)
  (hs:θ [.Tuple [.Name x px,.Name y py] kt pt] (.Tuple [a,b] k2 jg) pos.line X.env=pure false:=by rfl) :
  PS X (.Assign [.Tuple [.Name x px,.Name y py] kt pt] (.Tuple [a,b] k2 jg) pos) (tS X.K Ξ (AG i j fa)):=kg (VR hc hN hi hj fU hx hy ha hw hs) λO σ H W=>by
 obtain⟨w,env,V,S,Y,h⟩:=W;subst V;refine⟨w,env,rfl,S,Y,(Out.ao h).mono λM L U T Z J R=>?_⟩;split at Z
 ·obtain⟨v,u,rfl,Q,P⟩:=oM R
  exact⟨v,u,rfl,aF T Z _ (((Y.le U).set Q i).set P j)⟩
 ·exact Z.elim
end
end DI
namespace L2
open PySem PySem.Spec PyProof.Rows
structure DS (Y:Cx) (D:â) (π:List (â×Obj)):Prop where
 loc:D≠Y.env.locals
 fs:D∉Y.fs
 new:Y.eM.heap.objs.size<=D
 cell:∀x c,Y.env.cells.lookup x=some c->c≠D
 pin:∀p∈Y.pn++π,p.1≠D
structure r6 (Y:Cx) (D:â) (nt:Nat) (caps:St) (π:List (â×Obj)) (o:St) (H:Hp) (s:Ç) (acc:List V):Prop where
 inv:Inv Y π (o++caps) H s
 len:o.length=nt
 lst:∃ys,s.heap.PlainList D ys/\Vals acc ys.toList
 free:H D=none
 l7:acc.length<=Õ
abbrev kI:=St->Hp->List V->(St->List V->Hp->Prop)->Prop
def uw (Y:Cx) (D:â) (nt:Nat) (caps:St) (c:Code) (m:Sem acm) (ta:kI):Prop :=
 ∀(X:List (â×Obj)) (o:St) (H:Hp) (s:Ç) (Z:List V) (Q:St->List V->Hp->Prop),DS Y D X->r6 Y D nt caps X o H s Z->ta (o++caps) H Z Q ->
  Ü (í Y.prog Y.w) Y.A m (λfn S=>fn=.again c/\∃W U T,r6 Y D nt caps X W U S T/\Q (W++caps) T U) (λ_ _=>False) s
def CA (J:It) (g:TG) (tf:TT) (ta:kI) (τ:St) (acc:List V) (H:Hp) (Q:St->List V->Hp->Prop):Prop:=∃W:Nat->Nat->St->List V->Hp->Prop,(∃m,W 0 m τ acc H) /\
 ∀i m τ acc Z,W i m τ acc Z->(J.stop i Z/\Q τ acc Z) \/
  (J.go i Z/\∃N:St->List V->Hp->Prop,(∀ X U T,N X U T->∃S,S < m/\W (i+1) S X U T) /\
   ∀x R,J.uF i Z x R->g x τ R fun Y O=>tf Y O λb P=>if b=true then ta Y P acc N else N Y acc P)
def L0 (te:TE):kI:=fun Y H Z Q=>Z.length+1<=Õ/\te Y H λv X=>Q Y (Z++[v]) X
def L7 (wi:TI) (g:TG) (tf:TT) (ta:kI):kI:=fun Y H Z Q=>wi Y H λJ X=>CA J g tf ta Y Z X Q
section
variable {Y:Cx} {D:â} {nt:Nat} {caps:St}
def DS.obj (ds:DS Y D π) (B:r6 Y D nt caps π o H s acc):∃oD ys nn,s.heap.get? D=some oD/\oD={ cls:=.type "list",data:=.seq ys nn }/\Vals acc ys.toList/\Inv Y (π++[(D,oD)]) (o++caps) H s:=by
 obtain⟨ys,⟨nn,Z⟩,X⟩:=B.lst;refine⟨_,ys,nn,Z,rfl,X,B.inv.i7 λp W=>?_⟩
 rcases ä.mp W with z|z
 ·exact B.inv.pin p (Æ _ z)
 ·have e:p=(D,{ cls:=.type "list",data:=.seq ys nn }):=by simpa using z
  subst e;exact⟨Z,B.free,ds.loc,ds.fs,λv z=>by cases z⟩
def Ca (hx:Y.xe=λ_ _=>False) (hE:PE Y el te):uw Y D nt caps c ((do let _ <- call (.builtin "list.append") [.ref D,<- ś el Y.env]:Sem Unit) >>= λ_=>again c) (L0 te):=by
 intro T o H s W Q Z B h;obtain⟨P,h⟩:=h;obtain⟨O,V,nn,w,N,S,I⟩:=Z.obj B;have q:=hE _ s _ H _ I h;rw[hx] at q;refine À (À (aG q λy X M=>?_));obtain⟨v,U,R,L,K⟩:=M;have pD:=R.pin (D,O) (Æ _ (Æ _ (by simp)));have J:X.heap.PlainList D V:=⟨nn,by rw[<- N];exact pD.1⟩;have G:V.size<=Õ:=by
  have e:=S.length;simp only[ý] at e;omega
 refine À (wpAny_list_append_plain (hsz:=G) J λF E C=>Â (Â ⟨rfl,?_⟩));have A:Inv Y T (o++caps) U X:=R.jH
 have z:Inv Y T (o++caps) U { X with heap:=F,toks:=X.toks }:=A.turned (it:=D) (λb o x e=>(C.2 b x).trans e) pD.2.1 Z.loc (.inr Z.new) Z.cell Z.pin
 refine⟨o,U,W++[v],⟨z,B.len,⟨V.push y,E,?_⟩,pD.2.1,by rw[é];simpa using P⟩,K⟩;rw[abh];exact Vals.append S (.cons L .nil)
def BE (hx:Y.xe=λ_ _=>False) (hc:Y.calm=true)
 (T:Turn Y.prog Y.w Y.K tg J fp it tn) (Z2:tn 0 s.heap) (hf:∀b∈fp,cu Y π H b) (mm:D∉fp) (hG:PG Y tg g) (ff:lX g nt) (hF:PF Y tests tf) (hA:uw Y D nt caps (.compLoop e d (.ref it) (.ref D) Y.env) act ta) (ds:DS Y D π) (B:r6 Y D nt caps π o H s acc) (hq:(Code.compLoop e d (.ref it) (.ref D) Y.env).quiet=true)
 (Y6:∀(M:Model) (A:Đ) (Q':Fin->Ç->Prop) (E':Ì->Ç->Prop) (s':Ç),Ü (í Y.prog Y.w) A (abH e d (.ref it) (.ref D) Y.env) Q' (λ_ _=>False) s'->Ü (í Y.prog Y.w) (A.under (.compLoop e d (.ref it) (.ref D) Y.env)) ((í Y.prog Y.w).den (.compLoop e d (.ref it) (.ref D) Y.env)) Q' E' s')
 (ht:abH e d (.ref it) (.ref D) Y.env=(do
   aak p0
   match <- Š (.ref it) with
   |none=>pure (.done .next)
   |some v =>
    Ń tg (.ref it) v
    aai tg Y.env v
    let mut ok:=true
    for c in tests do
     if ok then ok <- aci c Y.env (ś c Y.env)
    if ok then act else again (.compLoop e d (.ref it) (.ref D) Y.env)))
 (h:CA J g tf ta (o++caps) acc H Q) :
  ū (í Y.prog Y.w) Y.A (.compLoop e d (.ref it) (.ref D) Y.env) (λr s'=>r=.ok .next/\∃o' H' gg,r6 Y D nt caps π o' H' s' gg/\Q (o'++caps) gg H') s:=by
 obtain⟨W,⟨m0,w0⟩,turn⟩:=h;have F:∀{H':Hp} {pl:List (â×Obj)},(∀b∈fp,H' b=none)->(∀p∈pl,p.1∉fp)->∀b∈fp,cu Y (π++pl) H' b:=λ{H' pl} hn X b Z=>by
  obtain⟨_,f1,oq,f3,f4,f5⟩:=hf b Z;refine⟨hn b Z,f1,oq,f3,f4,λp r9=>?_⟩
  rcases ä.mp r9 with z|z
  ·exact f5 p (ī _ z)
  ·rcases ä.mp z with z|z
   ·exact f5 p (Æ _ z)
   ·exact λe=>X p z (e ▸ Z)
 refine codeAny_loop hq (λn s'=>∃i acc o H',r6 Y D nt caps π o H' s' acc/\tn i s'.heap/\(∀b∈fp,H' b=none)/\W i n (o++caps) acc H') (λn s3 hJ=>?_) m0 ⟨0,acc,o,H,B,Z2,λb Z=>(hf b Z).1,w0⟩;obtain⟨i,acc,o3,O,U,jY,pA,w3⟩:=hJ;refine Y6 (í Y.prog Y.w) _ _ _ _ ?_;rw[ht];obtain⟨N,L,nn,ho,eo,E,xG⟩:=ds.obj U;have C:∀p∈[(D,N)],p.1∉fp:=λp X=>by
  have e:p=(D,N):=by simpa using X
  subst e;exact mm
 have uQ:∀{pl:List (â×Obj)} {R:St} {H':Hp} {s':Ç},Inv Y (π++[(D,N)]++pl) R H' s'->s'.heap.PlainList D L/\H' D=none:=λ{pl R H' s'} I=>by
  have q:=I.pin (D,N) (Æ _ (ī _ (Æ _ (by simp))));exact⟨⟨nn,by rw[<- eo];exact q.1⟩,q.2.1⟩
 refine À (ł (À ?_))
 rcases turn i n _ acc O w3 with ⟨stop,q⟩ | ⟨go,N',hN,step⟩
 ·have y:=T.done Y rfl rfl rfl hc i _ s3 _ O (λ_ _=>False) xG (F pA C) jY stop
  refine aG y λr s4 P=>?_;obtain⟨t,I4⟩:=P;subst t;obtain⟨F1,n4⟩:=uQ (pl:=[]) (by simpa using I4);exact Â ⟨rfl,o3,O,acc,⟨I4.jH,U.len,⟨L,F1,E⟩,n4,U.l7⟩,q⟩
 ·have y:=T.item Y rfl rfl rfl hc i _ s3 _ O (λ_ _=>False) xG (F pA C) jY go
  refine aG y λr s4 P=>?_;obtain⟨u,t,P⟩:=P;subst t;refine À (aG P λ_ s5 h5=>?_);obtain⟨x,m,I5,r5,y5,l,xf⟩:=h5;have xg:=I5.pinned (F xf C) (T.obj _ _ l);have q5:=hG _ s5 _ m x u _ xg r5 (ff x o3 _ m _ U.len (step x m y5));rw[hx] at q5;refine À (aG q5 λ_ s6 h6=>?_);obtain⟨uR,H6,I6,⟨k,xH,AH⟩,q6⟩:=h6;have V:=hF _ s6 uR H6 _ I6 q6;rw[hx] at V;refine À (aG V λb s7 h7=>?_);obtain⟨j,G,V⟩:=h7;subst AH;obtain⟨A8,n7⟩:=uQ G;have f:Inv Y (π++oJ fp s5.heap) (k++caps) j s7:=G.i7 λp X=>by
   rcases ä.mp X with z|z
   ·exact G.pin p (Æ _ (ī _ (ī _ z)))
   ·exact G.pin p (Æ _ (Æ _ z))
  have wK:∀{R:St} {H':Hp} {s':Ç},Inv Y (π++oJ fp s5.heap) R H' s'->tn (i+1) s'.heap/\∀b∈fp,H' b=none:=λ{R H' s'} I=>by
   refine⟨T.keep _ _ _ l λb Z o e=>(I.pin (b,o) (Æ _ (Æ _ (sO Z e)))).1,λb Z=>?_⟩;obtain⟨o,e,_⟩:=T.obj _ _ l b Z;exact(I.pin (b,o) (Æ _ (Æ _ (sO Z e)))).2.1
  cases b with
  |false =>
   rw[æ Í] at V;obtain⟨a,hm,w7⟩:=hN _ _ _ V;obtain⟨t7,f7⟩:=wK f;exact Â ⟨rfl,a,hm,i+1,acc,k,j,⟨f.jH,xH,⟨L,A8,E⟩,n7,U.l7⟩,t7,f7,w7⟩
  |true =>
   rw[ß rfl] at V;have Z3:DS Y D (π++oJ fp s5.heap):=⟨ds.loc,ds.fs,ds.new,ds.cell,λp X=>by
    rcases ä.mp X with z|z
    ·exact ds.pin p (ī _ z)
    ·rcases ä.mp z with z|z
     ·exact ds.pin p (Æ _ z)
     ·exact λe=>mm (e ▸ (H9 z).1)⟩
   refine aG (hA _ k j s7 acc N' Z3 ⟨f,xH,⟨L,A8,E⟩,n7,U.l7⟩ V) λfn s8 h8=>?_;obtain⟨Z4,o8,H8,Y7,S,q8⟩:=h8;subst Z4;obtain⟨a,hm,w8⟩:=hN _ _ _ q8;obtain⟨t8,f8⟩:=wK S.inv;exact⟨rfl,a,hm,i+1,Y7,o8,H8,⟨S.inv.jH,S.len,S.lst,S.free,S.l7⟩,t8,f8,w8⟩
end
def Dr (A:Đ) (Q':Fin->Ç->Prop) (E':Ì->Ç->Prop) (s':Ç)
 (h:Ü (í P w) A (abH (.ListComp el gens sc ps) d fV av ce) Q' (λ_ _=>False) s'):Ü (í P w) (A.under (.compLoop (.ListComp el gens sc ps) d fV av ce)) ((í P w).den (.compLoop (.ListComp el gens sc ps) d fV av ce)) Q' E' s':=by
 show Ü _ A ((abH (.ListComp el gens sc ps) d fV av ce).onRaise (λx=>do noteFrame x ce;theTreesLotGoes x)) _ _ s'
 exact wpAny_noted (ĝ h (λ_ _ q=>q) λ_ _ z=>z.elim)
def Sj (hd:gens[d]?=some ⟨target,iter,ifs,0⟩)
 (h0:ū (í P w) A (.compLoop (.ListComp el gens sc ps) d it acc env) R s)
 (h:Ü (í P w) A (acj it) (λiM s'=>ū (í P w) A (.compLoop (.ListComp el gens sc ps) d iM acc env) R s') (λ_ _=>False) s) :
  ū (í P w) A (.compStart (.ListComp el gens sc ps) d it acc env) R s:=by
 refine aaZ ?_
 show Ü _ _ ((compStart (.ListComp el gens sc ps) d it acc env).onRaise (λx=>do noteFrame x env;aak theWindowsPlace)) _ _ s
 refine wpAny_notedAt ?_;have Z:(clausesOf (.ListComp el gens sc ps))[d]?=some ⟨target,iter,ifs,0⟩:=hd;unfold compStart;rw[Z];show Ü _ _ (ask >>= _) _ _ s;refine À (Ő (wpAny_ite ?_));split
 ·first
   |exact À (Â (Â (acg rfl h0)))
   |exact Â (acg rfl h0)
 ·refine À (Ŕ ?_)
  show Ü _ _ (aak iter.pos >>= _) _ _ s;exact À (ł (À (ĝ h (λiM s' Y=>Â (acg rfl Y)) λ_ _ x=>x.elim)))
section
variable {Y:Cx} {D:â} {nt:Nat} {caps:St}
def yN {el tg src:Ņ} {gens:List Comprehension} {sc:aaB} {ps:Pos} {tests:List Ņ} {d:Nat} {wi:TI} {g:TG} {tf:TT} {ta:kI} {act:â->Sem acm} {c:Code} (hx:Y.xe=λ_ _=>False) (hc:Y.calm=true) (hd:gens[d]?=some ⟨tg,src,tests,0⟩)
  (hi:PI Y tg src wi) (hG:PG Y tg g) (ff:lX g nt) (hF:PF Y tests tf) (hA:∀it:â,uw Y D nt caps (.compLoop (.ListComp el gens sc ps) d (.ref it) (.ref D) Y.env) (act it) ta)
  (ht:∀it:â,abH (.ListComp el gens sc ps) d (.ref it) (.ref D) Y.env=(do
   aak src.pos
   match <- Š (.ref it) with
   |none=>pure (.done .next)
   |some v =>
    Ń tg (.ref it) v
    aai tg Y.env v
    let mut ok:=true
    for c in tests do
     if ok then ok <- aci c Y.env (ś c Y.env)
    if ok then act it else again (.compLoop (.ListComp el gens sc ps) d (.ref it) (.ref D) Y.env)))
  (hs:∀x,ï src Y.env x=pure x) :
  uw Y D nt caps c (do
   let x <- ś src Y.env
   aak src.pos
   let x <- ï src Y.env x
   let _ <- runOwn (.compStart (.ListComp el gens sc ps) d (<- aaj [x] (acj x)) (.ref D) Y.env) Y.env
   again c) (L7 wi g tf ta):=by
 intro X o H s Z Q W B h;obtain⟨V,N,nn,f,M,L,I⟩:=W.obj B;have q:=hi _ s _ H _ I h;rw[hx] at q;refine À (aG q λv a K=>À (ł ?_));rw[hs];refine À (Â (À (Ė (aG K λfV G F=>?_))));obtain⟨it,U,tn,J,S,e,R,T,P,f2,ca⟩:=F;subst e;have pD:=R.pin (D,V) (Æ _ (Æ _ (by simp)));have E:D∉U:=λz=>(f2 D z).2.2.2.2.2 (D,V) (Æ _ (Æ _ (by simp))) rfl;have C:∀b∈U,cu Y X S b:=λb y=>by
  obtain⟨a1,a2,w,u,t,n⟩:=f2 b y;refine⟨a1,a2,w,u,t,λp m=>n p ?_⟩
  rcases ä.mp m with z|z
  ·exact ī _ z
  ·exact Æ _ (ī _ z)
 have l:r6 Y D nt caps X o S G Z:=⟨R.jH,B.len,⟨N,⟨nn,by rw[<- M];exact pD.1⟩,L⟩,pD.2.1,B.l7⟩;have loop:=BE (e:=.ListComp el gens sc ps) (d:=d) hx hc T P C E hG ff hF (hA it) W l rfl (λ_ A k j O h=>Dr A k j O h) (ht it) ca;refine À (wpAny_runOwn ?_);refine Ÿ (Sj hd loop (T.self _ _ _ _ _ P loop)) λr O i=>?_;obtain⟨e,q⟩:=i;subst e;exact Â ⟨rfl,q⟩
end
def zx (wi:TI) (nt:Nat) (cap:List Nat) (g:TG) (tf:TT) (ta:kI):TE:=fun σ H Q=>wi σ H λJ X=>CA J g tf ta (Ñ nt none++lq cap σ) [] X λ_ Z Y=>∀D,Y D=none->Q (.ref D) (upd Y D (.lst Z))
section
variable {X:Cx}
def Jj {el tg src:Ņ} {tests:List Ņ} {rest:List Comprehension} {sc:aaB} {ps:Pos} {N:List Str} {nt:Nat} {cap:List Nat} {wi:TI} {g:TG} {tf:TT} {ta:kI} {act:Env->â->â->Sem acm} (hc:X.calm=true) (S:qp X sc N nt cap) (ff:lX g nt) (hi:PI X tg src wi)
  (hY:∀(cl:List (Str×â)) (C:â) (s:Ç) (H:Hp) (ex:List â) (pn:List (â×Obj)),PG (cw X N sc cl C s H ex pn) tg g/\PF (cw X N sc cl C s H ex pn) tests tf/\∀D caps it,uw (cw X N sc cl C s H ex pn) D nt caps (.compLoop (.ListComp el (⟨tg,src,tests,0⟩::rest) sc ps) 0 (.ref it) (.ref D) (compEnvC sc cl C X.env)) (act (compEnvC sc cl C X.env) D it) ta)
  (ht:∀(it D:â) (ce:Env),abH (.ListComp el (⟨tg,src,tests,0⟩::rest) sc ps) 0 (.ref it) (.ref D) ce=(do
   aak src.pos
   match <- Š (.ref it) with
   |none=>pure (.done .next)
   |some v =>
    Ń tg (.ref it) v
    aai tg ce v
    let mut ok:=true
    for c in tests do
     if ok then ok <- aci c ce (ś c ce)
    if ok then act ce D it else again (.compLoop (.ListComp el (⟨tg,src,tests,0⟩::rest) sc ps) 0 (.ref it) (.ref D) ce)))
  (hs:∀x,ï src X.env x=pure x:=by intro _;rfl):PE X (.ListComp el (⟨tg,src,tests,0⟩::rest) sc ps) (zx wi nt cap g tf ta):=by
 intro π s σ H Q I h;obtain⟨cl,wb,j⟩:=Di (env:=X.env) (sc:=sc) λn F=>I.ok.has n (S.frees _ F rfl).2;rw[eval_ListComp];refine aaU (use:=none) rfl hs wb S.kind S.names (aG (hi π s σ H _ I h) λxv s1 h1=>aG h1 λfV Z h2=>?_);obtain⟨it,R,tn,J,E,e,U,T,i,f2,ca⟩:=h2;subst e;refine î (wpAny_newFunctionEnv S.Dj (by intro y hy;simp at hy) (λh3 B L=>?_) S.kind);dsimp only at B L |-;generalize f:Z.heap.objs.size=D at B L |-;generalize a:Z.heap.push { cls:=.type "list",dict:=none,data:=.seq ([]:List Ì).toArray }=G at B L |-;generalize xI:G.objs.size=C at B L |-;have hC:C=D+1:=by rw[<- xI,<- a,đ,f]
 have mr:D≠C:=by omega
 have P:Z.heap.objs.size<=D:=ŝ f;have t:Z.heap.objs.size<=C:=by omega
 have old:∀b o,Z.heap.get? b=some o->h3.get? b=some o:=λb o e=>L.extBut b o (ë (É (Ò e) t)) (Á _ (a ▸ Á _ e));have iR:h3.PlainList D #[]:=⟨_,L.extBut _ _ mr (Á _ (a ▸ f ▸ Ð _ rfl))⟩;have iK:∀b∈R,b<Z.heap.objs.size:=λb O=>by
  obtain⟨o,e,_⟩:=T.obj _ _ i b O;exact Ò e
 have IB:=U.block (t':=Z.toks+([]:List (Str×Ì)).length) S j f2 iK old t ⟨_,B⟩;have xJ:D∉iJ X.stack:=λz=>by
  rcases Ó.mp (U.lh D z) with e|e
  ·exact absurd (É U.lt P) (by rw[e];exact ì _)
  ·exact U.qX P e
 have mm:D∉R:=λz=>absurd (É (iK D z) P) (ì _);have vK:∀x c,cl.lookup x=some c->c≠D:=λx c e z=>by
  obtain⟨v,o,ho,_⟩:=U.cell x c ((j x c).mp e).2;exact absurd (É (Ò ho) (by rw[z];exact P)) (ì _)
 have wc:∀p∈X.pn++π,p.1≠D:=λp hp z=>absurd (É (Ò (U.pin p hp).1) (by rw[z];exact P)) (ì _);have fin:∀(s':Ç) (τ:St) (W:Hp) (acc:List V) (M:Array Ì),Inv (cw X N sc cl C Z E R (X.pn++π)) [] τ W s'->s'.heap.PlainList D M->Vals acc M.toList->W D=none->acc.length<=Õ->(∀D,W D=none->Q (.ref D) (upd W D (.lst acc))) ->
   compPost (í X.prog X.w) X.A X.xe none (EP X π σ Q) (.ref D) C (.ok .next) s':=by
  intro s' τ W acc M K pl rv F hz q;obtain⟨m,hm,_⟩:=id K.loc;refine⟨m,hm,λl sb=>?_⟩;have wL:cM X.prog X.w W l:=K.aH.but K.free sb;obtain⟨n,ho⟩:=pl;have eQ:l.get? D=some { cls:=.type "list",data:=.seq M n }:=(sb.2 D mr).trans ho;have new:dX X.prog X.w (upd W D (.lst acc)) l D (.lst acc):=⟨hz,M.toList,n,rv,by simpa using eQ⟩;have u:=(K.base.but t sb).adopt (o:=.lst acc) P F
  refine⟨.ref D,upd W D (.lst acc),U.zU (s':={ s' with heap:=l }) (ch:=R) K.os u (wL.adopt F new) K.bare (λb O=>?_),rfl,q D F⟩
  obtain⟨_,f1,_,f3,f4,f5⟩:=f2 b O;exact⟨f3,f1,f4,f5⟩
 have mq:∀b∈R,cu (cw X N sc cl C Z E R (X.pn++π)) [] E b:=λb O=>by
  obtain⟨f0,f1,oq,f3,f4,f5⟩:=f2 b O;refine⟨f0,ë (É (iK b O) t),λz=>?_,.inl O,λx c e=>f4 x c ((j x c).mp e).2,λp r9=>?_⟩
  ·rcases Ó.mp (U.lh b z) with e|e
   ·exact f1 e
   ·exact oq e
  ·exact f5 p (by simpa using r9)
 obtain⟨xK,xM,F3⟩:=hY cl C Z E R (X.pn++π);have loop:=BE (Y:=cw X N sc cl C Z E R (X.pn++π)) (D:=D) (nt:=nt) (caps:=lq cap σ) (e:=.ListComp el (⟨tg,src,tests,0⟩::rest) sc ps) (d:=0) (π:=[]) (o:=Ñ nt none) (acc:=[]) rfl hc T
  (T.keep _ _ _ i λb _ o e=>old b o e) mq mm xK ff xM (F3 D _ it) ⟨mr,xJ,P,vK,λp hp=>wc p (by simpa using hp)⟩ ⟨IB,by simp,⟨#[],iR,.nil⟩,U.aH.fresh P,ē _⟩ rfl (λ_ A Q' E' s' h=>Dr A Q' E' s' h) (ht it D _) ca
 have we:=Ÿ loop (R':=compPost (í X.prog X.w) X.A X.xe none (EP X π σ Q) (.ref D) C) λr s' hr=>by
  obtain⟨e,o',W,gg,k,q'⟩:=hr;subst e;obtain⟨M,pl,rv⟩:=k.lst;exact fin s' _ W gg M k.inv pl rv k.free k.l7 q'
 exact aba we (T.self _ _ _ _ _ (T.keep _ _ _ i λb _ o e=>old b o e) we)
def Sm {el tg src:Ņ} {tests:List Ņ} {rest:List Comprehension} {sc:aaB} {ps pos pos':Pos} {N:List Str} {nt:Nat} {cap:List Nat} {wi:TI} {g:TG} {tf:TT} {ta:kI} {act:Env->â->â->Sem acm} {i0:Nat} {x0:Str} (se:X.N.Nodup) (sf:X.N[i0]?=some x0) (ot:Loc X.env.scope x0) (hc:X.calm=true) (S:qp X sc N nt cap) (ff:lX g nt) (hi:PI X tg src wi)
  (hY:∀(cl:List (Str×â)) (C:â) (s:Ç) (H:Hp) (ex:List â) (pn:List (â×Obj)),PG (cw X N sc cl C s H ex pn) tg g/\PF (cw X N sc cl C s H ex pn) tests tf/\∀D caps it,uw (cw X N sc cl C s H ex pn) D nt caps (.compLoop (.ListComp el (⟨tg,src,tests,0⟩::rest) sc ps) 0 (.ref it) (.ref D) (compEnvC sc cl C X.env)) (act (compEnvC sc cl C X.env) D it) ta)
  (ht:∀(it D:â) (ce:Env),abH (.ListComp el (⟨tg,src,tests,0⟩::rest) sc ps) 0 (.ref it) (.ref D) ce=(do
   aak src.pos
   match <- Š (.ref it) with
   |none=>pure (.done .next)
   |some v =>
    Ń tg (.ref it) v
    aai tg ce v
    let mut ok:=true
    for c in tests do
     if ok then ok <- aci c ce (ś c ce)
    if ok then act ce D it else again (.compLoop (.ListComp el (⟨tg,src,tests,0⟩::rest) sc ps) 0 (.ref it) (.ref D) ce)))
  (hs:∀x,ï src X.env x=pure x:=by intro _;rfl)
  (sg:abL (.ListComp el (⟨tg,src,tests,0⟩::rest) sc ps) (some (.Name x0 pos')) pos.line X.env=pure true:=by rfl)
  (si:X.fn x0=true\/X.env.scope.names.lookup x0=some .local:=by first|exact .inl rfl|exact .inr rfl|assumption):PS X (.Assign [.Name x0 pos'] (.ListComp el (⟨tg,src,tests,0⟩::rest) sc ps) pos) (qY (zx wi nt cap g tf ta) (lp i0)):=by
 intro π s σ H B I h;obtain⟨cl,wb,f⟩:=Di (env:=X.env) (sc:=sc) λn t=>I.ok.has n (S.frees _ t rfl).2;rw[exec_Assign_Name_used _ _ _ _ sg];refine À (ł (À ?_));obtain⟨Q,hQ⟩:∃Q:VK,Q=λv l=>lp i0 v σ l B.nx:=⟨_,rfl⟩;have h:zx wi nt cap g tf ta σ H Q:=by rw[hQ];exact h
 have nj:∀v l,Q v l->B.nx (σ.set i0 (some v)) l:=λv l q=>by rw[hQ] at q;exact q
 unfold evalThenUse
 refine À (ĝ (Q:=λ_ s'=>SP X π B .next s') ?_ (λ_ s' q=>Â (Â q)) (λ_ _ z=>z))
 refine aaU (use:=some (aai (.Name x0 pos') X.env)) rfl hs wb S.kind S.names (aG (hi π s σ H _ I h) λxv s1 h1=>aG h1 λfV U h2=>?_);obtain⟨it,M,tn,J,k,e,Z,T,a,f2,ca⟩:=h2;subst e;refine î (wpAny_newFunctionEnv S.Dj (by intro y hy;simp at hy) (λh3 j K=>?_) S.kind);dsimp only at j K |-;generalize hD:U.heap.objs.size=D at j K |-;generalize hG:U.heap.push { cls:=.type "list",dict:=none,data:=.seq ([]:List Ì).toArray }=G at j K |-;generalize xI:G.objs.size=C at j K |-;have hC:C=D+1:=by rw[<- xI,<- hG,đ,hD]
 have mr:D≠C:=by omega
 have L:U.heap.objs.size<=D:=ŝ hD;have R:U.heap.objs.size<=C:=by omega
 have old:∀b o,U.heap.get? b=some o->h3.get? b=some o:=λb o e=>K.extBut b o (ë (É (Ò e) R)) (Á _ (hG ▸ Á _ e));have iR:h3.PlainList D #[]:=⟨_,K.extBut _ _ mr (Á _ (hG ▸ hD ▸ Ð _ rfl))⟩;have iK:∀b∈M,b<U.heap.objs.size:=λb P=>by
  obtain⟨o,e,_⟩:=T.obj _ _ a b P;exact Ò e
 have IB:=Z.block (t':=U.toks+([]:List (Str×Ì)).length) S f f2 iK old R ⟨_,j⟩;have xJ:D∉iJ X.stack:=λz=>by
  rcases Ó.mp (Z.lh D z) with e|e
  ·exact absurd (É Z.lt L) (by rw[e];exact ì _)
  ·exact Z.qX L e
 have mm:D∉M:=λz=>absurd (É (iK D z) L) (ì _);have vK:∀x c,cl.lookup x=some c->c≠D:=λx c e z=>by
  obtain⟨v,o,ho,_⟩:=Z.cell x c ((f x c).mp e).2;exact absurd (É (Ò ho) (by rw[z];exact L)) (ì _)
 have wc:∀p∈X.pn++π,p.1≠D:=λp O z=>absurd (É (Ò (Z.pin p O).1) (by rw[z];exact L)) (ì _);have fin:∀(s':Ç) (τ:St) (W:Hp) (acc:List V) (F:Array Ì),Inv (cw X N sc cl C U k M (X.pn++π)) [] τ W s'->s'.heap.PlainList D F->Vals acc F.toList->W D=none->acc.length<=Õ->(∀D,W D=none->Q (.ref D) (upd W D (.lst acc))) ->
   compPost (í X.prog X.w) X.A X.xe (some (aai (.Name x0 pos') X.env)) (λ_ s'=>SP X π B .next s') (.ref D) C (.ok .next) s':=by
  intro s' τ W acc F E pl rv t hz q;obtain⟨m,hm,_⟩:=id E.loc;have wL:cM X.prog X.w W s'.heap:=E.aH;obtain⟨n,ho⟩:=pl;have new:dX X.prog X.w (upd W D (.lst acc)) s'.heap D (.lst acc):=⟨hz,F.toList,n,rv,by simpa using ho⟩;have u:=(E.base.but R (Heap.SameBut.refl _ _)).adopt (o:=.lst acc) L t;have IX:Inv X π σ (upd W D (.lst acc)) s':=Z.zU (s':=s') (ch:=M) E.os u (wL.adopt t new) E.bare (λb P=>by
   obtain⟨_,f1,_,f3,f4,f5⟩:=f2 b P;exact⟨f3,f1,f4,f5⟩)
  have xN:upd W D (.lst acc) C=none:=by
   rw[bK (œ mr)];exact E.free
  have xO:C≠X.env.locals:=λz=>absurd (É Z.lt R) (by rw[z];exact ì _);have F4:C∉X.fs:=Z.qX R;obtain⟨oC,es,ep,F5,xP,rN⟩:=id hm;have IP:Inv X ((C,oC)::π) σ (upd W D (.lst acc)) s':=IX.i7 λp O=>by
   rcases Ó.mp O with e|e
   ·subst e
    exact⟨F5,xN,xO,F4,λv z=>by rw[xP] at z;cases z⟩
   ·exact IX.pin p (Æ _ e)
  show Ü _ _ (aai (.Name x0 pos') X.env (.ref D)) _ _ s';refine wpAny_assign_Name (nD IP se sf ot (show RelV (.ref D) (.ref D) from rfl) (λs3 I3=>?_) si);have p3:=(I3.pin (C,oC) (Æ _ (Î ..))).1;refine⟨m,⟨oC,es,ep,p3,xP,rN⟩,λh' sb=>⟨_,upd W D (.lst acc),?_,nj _ _ (q D t)⟩⟩;have I4:Inv X π (σ.set i0 (some (.ref D))) (upd W D (.lst acc)) s3:=I3.i7 λp O=>I3.pin p (Æ _ (Ï _ O));refine I4.turned (it:=C) (t':=s3.toks) (λb o P e=>(sb.2 b P).trans e) xN xO (.inr (Û Z.sz R)) (λx c e z=>?_) (λp O z=>?_)
  ·obtain⟨v,o,jC,_⟩:=Z.cell x c e
   exact absurd (É (Ò jC) (by rw[z];exact R)) (ì _)
  ·exact absurd (É (Ò (Z.pin p O).1) (by rw[z];exact R)) (ì _)
 have mq:∀b∈M,cu (cw X N sc cl C U k M (X.pn++π)) [] k b:=λb P=>by
  obtain⟨f0,f1,oq,f3,f4,f5⟩:=f2 b P;refine⟨f0,ë (É (iK b P) R),λz=>?_,.inl P,λx c e=>f4 x c ((f x c).mp e).2,λp r9=>?_⟩
  ·rcases Ó.mp (Z.lh b z) with e|e
   ·exact f1 e
   ·exact oq e
  ·exact f5 p (by simpa using r9)
 obtain⟨xK,xM,F3⟩:=hY cl C U k M (X.pn++π);have loop:=BE (Y:=cw X N sc cl C U k M (X.pn++π)) (D:=D) (nt:=nt) (caps:=lq cap σ) (e:=.ListComp el (⟨tg,src,tests,0⟩::rest) sc ps) (d:=0) (π:=[]) (o:=Ñ nt none) (acc:=[]) rfl hc T
  (T.keep _ _ _ a λb _ o e=>old b o e) mq mm xK ff xM (F3 D _ it) ⟨mr,xJ,L,vK,λp O=>wc p (by simpa using O)⟩ ⟨IB,by simp,⟨#[],iR,.nil⟩,Z.aH.fresh L,ē _⟩ rfl (λ_ A Q' E' s' h=>Dr A Q' E' s' h) (ht it D _) ca
 have we:=Ÿ loop (R':=compPost (í X.prog X.w) X.A X.xe (some (aai (.Name x0 pos') X.env)) (λ_ s'=>SP X π B .next s') (.ref D) C) λr s' hr=>by
  obtain⟨e,o',W,gg,i,q'⟩:=hr;subst e;obtain⟨F,pl,rv⟩:=i.lst;exact fin s' _ W gg F i.inv pl rv i.free i.l7 q'
 exact aba we (T.self _ _ _ _ _ (T.keep _ _ _ a λb _ o e=>old b o e) we)
end
end L2
namespace DI
open PySem L2
def ju:Ă "isinstance"=some (.builtin "isinstance"):=by decide +kernel
def XR:Ă "int"=some (.type "int"):=by decide +kernel
def Ds:Ă "bool"=some (.type "bool"):=by decide +kernel
def hZ:Ă "tuple"=some (.type "tuple"):=by decide +kernel
def zy:Ă "list"=some (.type "list"):=by decide +kernel
def L8:Ă "set"=some (.type "set"):=by decide +kernel
def qP:Ă "all"=some (.builtin "all"):=by decide +kernel
def L9:Ă "any"=some (.builtin "any"):=by decide +kernel
def kB:Ă "len"=some (.builtin "len"):=by decide +kernel
def Lg:Ă "repr"=some (.builtin "repr"):=by decide +kernel
def wg:Ă "max"=some (.builtin "max"):=by decide +kernel
def qQ:Ă "min"=some (.builtin "min"):=by decide +kernel
def yO:Ă "sorted"=some (.builtin "sorted"):=by decide +kernel
structure Gd (K:ļ) (mg:Str->Option Ì) (x:Str) (st:Stmt) (ps:List Str) (f:â) (fd:ť):Prop where
 mg:mg x=some (.ref f)
 fn:rR K x x st f fd
 b:Binds K fd ps []
def XT {P:ö} {w:Ć} {K:ļ} {mg:Str->Option Ì} {base:Ţ} {k:Nat} {f:â} {fd:ť} {ps:List Str} {g:List D->ag->Res D} (h:∀ds s,g ds s=none):gf P w K mg base iu k f fd ps (nq K g) :=
 ⟨λY H Q E Z=>by obtain⟨w,ds,_,_,_,q⟩:=Z;rw[h] at q;exact q.elim,λA outer s H args X Y Q E _ _ _ _ Z=>by obtain⟨w,ds,_,_,_,q⟩:=Z;rw[h] at q;exact q.elim⟩
def Ae (K:ļ):Sp:=λY H Q _=>∃(a:â) (Z:List Int),Y=[.ref a]/\bq K H a (Z.map V.int)/\Z.length<=63/\∀X,Q (.bl true) X
def Wv (F:gf P w K mg base iu k f fd [x] (nq K g))
 (h:∀ns:List Int,ns.length<=63->∃s,g [.bQ ns] []=some (.ok (.bl true),s)):gf P w K mg base iu k f fd [x] (Ae K):=F.imp λV H Q E ⟨a,ns,e,hS,Y,q⟩=>by
 subst e;obtain⟨s,hs⟩:=h ns Y;have X:∀b,¬ (⟨[],[],H⟩:Wd).Z b:=λb ⟨k,c,e1,_,_⟩=>by simp at e1
 refine⟨⟨[],[],H⟩,[.bQ ns],rfl,⟨rfl,aae,λk a e=>by simp at e,λk a c e=>by simp at e⟩,ar.one ⟨a,rfl,?_⟩,?_⟩
 ·rcases hS with hS|hS
  ·exact .inl ⟨X a,hS⟩
  ·exact .inr hS
 ·show Out K bj _ (g [.bQ ns] []) _
  rw[hs];intro U _ _ _ v W;have e:v=.bl true:=W;subst e;exact q _
def kJ (g:D->Env->Option Env) (t:acn Bool) (act:acn (List D)) (rf:Env):List D->ag->Res (List D)
 | [],s=>ok [] s
 |d::Z,s=>match g d rf with
  |none=>none
  |some env=>ao (ne (t env s)) λb s=>if b=true then ao (ne (act env s)) λY s=>ao (kJ g t act rf Z s) λX s=>ok (Y++X) s
   else kJ g t act rf Z s
def emit (f:acn D):acn (List D):=λenv s=>ao (f env s) λx s=>ok [x] s
def more (it:acn (List D)) (g:D->Env->Option Env) (t:acn Bool) (act:acn (List D)):acn (List D):=λenv s=>ao (it env s) λZ s=>kJ g t act env Z s
def vL (nt:Nat) (cap:List Nat) (it:acn (List D)) (g:D->Env->Option Env) (t:acn Bool) (act:acn (List D)):acn D:=λenv s =>
 ao (it env s) λY s=>ao (ne (kJ g t act (Ñ nt none++cX cap env) Y s)) λZ s=>jc Z (ok (.lst Z) s)
def Sl (g:D->Env->Option Env) (sl:List Nat):Prop:=∀d env Z,g d env=some Z->Z.length=env.length/\∀i,i∉sl->Z[i]?=env[i]?
def sW (i:Nat):Sl (gN i) [i]:=λd env Z h=>by
 have e:env.set i (some d)=Z:=acs h;subst e;refine⟨Ģ ..,λj Y=>?_⟩;rw[Ý (λz=>Y (by simp[z]))]
theorem Ma:∀(is:List Nat) (ds:List D) (env env':Env),iS (is.map gN) ds env=some env'->env'.length=env.length/\∀i,i∉is->env'[i]?=env[i]?
 | [],[],env,env',h=>by
  have e:env=env':=acs h;rw[e];exact⟨rfl,λ_ _=>rfl⟩
 | [],_::_,_,_,h=>by cases h
 |_::_,[],_,_,h=>by cases h
 |j::is,d::ds,env,env',h=>by
  have Z:iS (is.map gN) ds (env.set j (some d))=some env':=h;obtain⟨Y,X⟩:=Ma is ds _ env' Z;refine⟨by rw[Y,Ģ],λi hi=>?_⟩;rw[X i (λz=>hi (Ï _ z)),Ý (λz=>hi (by rw[z];exact Î ..))]
def Dg (is:List Nat):Sl (gT (is.map gN)) is:=λd env Z h=>by
 cases d with
 |tup Y=>exact Ma is Y env Z h
 |_=>cases h
def len_same {g:D->Env->Option Env} {sl:List Nat} {d:D} {env env':Env} (hs:Sl g sl) (hg:g d env=some env'):env'.length=env.length:=(hs d env env' hg).1
def iz (sl:List Nat) (env:Env):Prop:=∀i∈sl,∀d,env[i]?≠some (some d)
def cj.back {K:ļ} {w:Wd} {env env':Env} {σ:St} {g:D->Env->Option Env} {sl:List Nat} {d:D} (hs:Sl g sl) (hf:iz sl env) (hg:g d env=some env') (hl:env.length=σ.length) (h:cj K w env' σ):cj K w env σ :=
 ⟨hl,λi x e=>by
  by_cases hi:i∈sl
  ·exact absurd e (hf i hi x)
  ·exact h.val i x (by rw[(hs d env env' hg).2 i hi];exact e)⟩
def wj (K:ļ) (Pre:Env->Prop) (ta:kI) (act:acn (List D)):Prop:=∀(w:Wd) (env:Env) (U:St) (Y:List V) (Z W:List D) (T:ag) (Q:St->List V->Hp->Prop),Pre env->aL K w->cj K w env U->ar K w Z Y ->
 act env w.aA=some (.ok W,T)->Y.length+W.length<=Õ->(∀X S R,Le K w X->aL K X->X.aA=T->cj K X env S->ar K X (Z++W) R->Q S R X.H)->ta U w.H Y Q
def sS {α β:Type} {r:Res α} {k:α->ag->Res β} {b:β} {s':ag} (h:ao r k=some (.ok b,s')):∃a s,r=some (.ok a,s)/\k a s=some (.ok b,s'):=by
 match r,h with
 |some (.ok a,s),h=>exact⟨a,s,rfl,h⟩
def CN {α:Type} {r:Res α} {a:α} {s:ag} (h:ne r=some (.ok a,s)):r=some (.ok a,s):=by
 match r,h with
 |some (.ok b,Z),h=>exact h
def By {K:ļ} {f:acn D}:wj K (λ_=>True) (L0 (tE K bj f)) (emit f):=by
 intro w env W Z Y J I Q _ S X V h U T;obtain⟨x,H,R,P⟩:=sS h;cases P;refine⟨by simpa using U,w,env,rfl,S,X,?_⟩;rw[R];intro O le N M v L;exact T O W (Z++[v]) le N M (X.le le) (ar.append (le.all V) (ar.one L))
def Iu {K:ļ} {Pre:Env->Prop} {g0:TG} {g:D->Env->Option Env} {nt:Nat} {sl:List Nat} {t:acn Bool} {act:acn (List D)} {ta:kI} {env:Env} {w1:Wd} {J:It} {ds xs accD:List D} {s':ag} {τ:St} {acc:List V} {Q:St->List V->Hp->Prop}
  (T:Tg K g0 g nt) (hs:Sl g sl) (hf:iz sl env) (hp:∀d env',g d env=some env'->Pre env') (hA:wj K Pre ta act) (hJ:mi K w1 J ds) (S1:aL K w1) (eo:cj K w1 env τ) (da:ar K w1 accD acc)
  (h:kJ g t act env ds w1.aA=some (.ok xs,s')) (hl:acc.length+xs.length<=Õ) (hQ:∀w' dF vs,Le K w1 w'->aL K w'->w'.aA=s'->cj K w' env dF->ar K w' (accD++xs) vs->Q dF vs w'.H) :
  CA J g0 (tT K bj t) ta τ acc w1.H Q:=by
 refine⟨λi m τ acc r=>m=ds.length-i/\i<=ds.length/\∃w' accD xs,w'.H=r/\Le K w1 w'/\aL K w'/\cj K w' env τ/\ar K w' accD acc/\kJ g t act env (ds.drop i) w'.aA=some (.ok xs,s')/\acc.length+xs.length<=Õ /\
   (∀Z dF vs,Le K w' Z->aL K Z->Z.aA=s'->cj K Z env dF->ar K Z (accD++xs) vs->Q dF vs Z.H),
  ⟨ds.length,rfl,ē _,w1,accD,xs,rfl,Le.refl _,S1,eo,da,h,hl,hQ⟩,?_⟩
 rintro i m τ acc r ⟨rfl,hi,w',accD,xs,rfl,P,L,p,O,Y,I,G⟩;by_cases F:i<ds.length
 ·right
  obtain⟨ff,hy⟩:=(hJ w' P L i).1 _ (Ë F);rw[Ś F] at Y;simp only[kJ] at Y
  cases X:g ds[i] env with
  |none=>rw[X] at Y;cases Y
  |some S =>
   rw[X] at Y;obtain⟨b,s2,E,N⟩:=sS Y;have E:=CN E;refine⟨ff,fun τ acc o=>∃w' accD xs,w'.H=o/\Le K w1 w'/\aL K w'/\cj K w' env τ/\ar K w' accD acc/\kJ g t act env (ds.drop (i+1)) w'.aA=some (.ok xs,s')/\acc.length+xs.length<=Õ /\
    (∀Z dF vs,Le K w' Z->aL K Z->Z.aA=s'->cj K Z env dF->ar K Z (accD++xs) vs->Q dF vs Z.H),fun rS jA o q=>⟨ds.length-(i+1),by omega,rfl,F,q⟩,λx H3 y=>?_⟩
   obtain⟨Z,rfl,U,n,es,dv⟩:=hy x H3 y;refine T.imp _ _ _ _ ⟨Z,env,ds[i],S,rfl,n,p.le U,dv,X,fun l R=>⟨Z,S,rfl,n,R,?_⟩⟩;have k:∀{j:St},j.length=l.length->S.length=j.length:=λe=>by rw[R.len,e]
   have el:env.length=S.length\/True:=.inr trivial;rw[es,E];intro f W c a
   cases b with
   |true =>
    rw[ß rfl] at N |-;obtain⟨ys,s3,M,h3⟩:=sS N;have M:=CN M;obtain⟨zs,s4,hz,h4⟩:=sS h3;cases h4;rw[<- a] at M;refine hA f S l acc accD ys s3 _ (hp _ _ X) c (R.le W) ((U.trans W).all O) M (by rw[é] at I;omega) λw4 τ4 vs l4 S4 e4 Nw MR=>?_;have lv:=MR.length;refine⟨w4,accD++ys,zs,rfl,P.trans (U.trans (W.trans l4)),S4,Nw.back hs hf X ?_,MR,by rw[e4];exact hz,?_,λC B A z w v u s=>G C B A (U.trans (W.trans (l4.trans z))) w v u (by rw[<- ę];exact s)⟩
    ·rw[<- Nw.len]
     exact(len_same hs X).symm
    ·rw[é] at I lv
     have:=O.length;omega
   |false =>
    rw[æ Í] at N |-;exact⟨f,accD,xs,rfl,P.trans (U.trans W),c,(R.le W).back hs hf X (by rw[<- R.len];exact(len_same hs X).symm),(U.trans W).all O,by rw[a];exact N,I,λC B A z w v u s=>G C B A (U.trans (W.trans z)) w v u s⟩
 ·left
  have e:i=ds.length:=by omega
  subst e;rw[aaM] at Y;cases Y;exact⟨(hJ w' P L _).2 (acr _),G w' τ acc (Le.refl _) L rfl p (by rw[Ķ];exact O)⟩
def yx {K:ļ} {Pre Pre':Env->Prop} {g0:TG} {g:D->Env->Option Env} {nt:Nat} {sl:List Nat} {it:acn (List D)} {t:acn Bool} {act:acn (List D)} {ta:kI} (T:Tg K g0 g nt) (hs:Sl g sl) (hA:wj K Pre ta act)
  (h1:∀env,Pre' env->iz sl env) (h2:∀d env env',Pre' env->g d env=some env'->Pre env'):wj K Pre' (L7 (dC K bj it) g0 (tT K bj t) ta) (more it g t act):=by
 intro w env y V Y x v Q X S W U h R P;obtain⟨u,s,O,N⟩:=sS h;refine⟨w,env,rfl,S,W,?_⟩;rw[O];intro r Z M e1 J L;exact Iu T hs (h1 env X) (λd env' I=>h2 d env env' X I) hA L M (W.le Z) (Z.all U) (by rw[e1];exact N) R λH G F E C B A z=>P H G F (Z.trans E) C B A z
def BR (T:Tg K g0 g nt) (hs:Sl g sl) (pJ:∀i∈sl,i<nt) (hA:wj K Pre ta act)
 (hp:∀d caps env',g d (Ñ nt none++caps)=some env'->Pre env') (σ:St) (H:Hp) (Q:VK) :
  tE K Ξ (vL nt cap it g t act) σ H Q->zx (dC K Ξ it) nt cap g0 (tT K bj t) ta σ H Q:=by
 rintro ⟨w,env,rfl,S,U,h⟩;refine⟨w,env,rfl,S,U,(Out.ao h).mono λR M L I Y J G=>?_⟩
 cases V:kJ g t act (Ñ nt none++cX cap env) M R.aA with
 |none=>rw[V] at Y;exact Y.elim
 |some r =>
  obtain⟨r,F⟩:=r;rw[V] at Y
  cases r with
  |error x=>exact Y.elim
  |ok P =>
   have Y:Out K Ξ R (jc P (ok (D.lst P) F)) (λX d=>∀v,DV K X d v->Q v X.H):=Y;obtain⟨E,Y⟩:=qa Y;have C:=(U.le L).block nt cap (Ñ nt none) (by simp);refine Iu T hs (λi hi d e=>?_) (λd env' B=>hp d _ env' B) hA G I C (accD:=[]) rfl V (by simpa using E) λX u O A N z s y p W=>?_
   ·rw[ã (by simpa using pJ i hi),Ĵ,ß (pJ i hi)] at e
    cases e
   ·exact Y (X.grow p (.lst O)) (A.trans (Fw.grow W).le) (N.grow W) z (.ref p) ⟨p,O,rfl,⟨(show ¬ X.Z p from qr N W),eT⟩,(Fw.grow W).le.all y⟩
def iz.of {nt:Nat} {g:D->Env->Option Env} {sl dB:List Nat} (hs:Sl g sl) (hd:∀i∈dB,i<nt/\i∉sl) {d:D} {caps env':Env} (hg:g d (Ñ nt none++caps)=some env'):iz dB env':=λi hi x e=>by
 obtain⟨Z,Y⟩:=hd i hi;rw[(hs _ _ _ hg).2 i Y,ã (by simpa using Z),Ĵ,ß Z] at e;cases e
def iz.on (hs:Sl g sl) (hd:∀i∈dB,i∉sl) (hf:iz dB env) (hg:g d env=some env'):iz dB env':=λi hi x e=>by
 rw[(hs _ _ _ hg).2 i (hd i hi)] at e;exact hf i hi x e
section
variable {X:Cx} {Ξ:Wd->bt->Prop} {el tg src iA gj uT rB:Ņ} {tests ja vM:List Ņ} {sc:aaB} {ps pos:Pos} {N:List Str} {nt:Nat} {cap:List Nat} {it iY Bc:acn (List D)} {gd nr F9:D->Env->Option Env} {g0 sj Nx:TG} {sl dB xQ:List Nat} {ft jD Ny:acn Bool} {f:acn D}
abbrev tG (nt:Nat) (cap:List Nat) (it:acn (List D)) (g:D->Env->Option Env) (t:acn Bool) (iY:acn (List D)) (g2:D->Env->Option Env) (t2:acn Bool) (f:acn D):acn D:=vL nt cap it g t (more iY g2 t2 (emit f))
abbrev Lh (nt:Nat) (cap:List Nat) (it:acn (List D)) (g:D->Env->Option Env) (t:acn Bool) (iY:acn (List D)) (g2:D->Env->Option Env) (t2:acn Bool) (Bc:acn (List D)) (g3:D->Env->Option Env) (t3:acn Bool) (f:acn D):acn D:=vL nt cap it g t (more iY g2 t2 (more Bc g3 t3 (emit f)))
noncomputable def apart (nt:Nat) (sl dB:List Nat):Bool:=dB.all (λi=>decide (i<nt)&&!sl.contains i)
def oB (h:apart nt sl dB=true):∀i∈dB,i<nt/\i∉sl:=λi hi=>by
 have:=Ĕ.mp h i hi;simp only[Ê,È,Ġ,List.contains_eq_mem,decide_eq_false_iff_not] at this;exact this
noncomputable abbrev E4 (e el:Ņ) (d:Nat):PySem.Env->â->â->Sem acm:=λce D it=>(do let _ <- call (.builtin "list.append") [.ref D,<- ś el ce]:Sem Unit) >>= λ_=>again (.compLoop e d (.ref it) (.ref D) ce)
noncomputable abbrev AI (e src:Ņ) (d:Nat):PySem.Env->â->â->Sem acm:=λce D it=>do
 let x <- ś src ce
 aak src.pos
 let x <- ï src ce x
 let _ <- runOwn (.compStart e (d+1) (<- aaj [x] (acj x)) (.ref D) ce) ce
 again (.compLoop e d (.ref it) (.ref D) ce)
def UJ (hc:X.calm=true) (S:qp X sc N nt cap) (T:Tg X.K g0 gd nt) (gF:Sl gd sl) (T2:Tg X.K sj nr nt) (bU:Sl nr dB) (hi:PI X tg src (dC X.K Ξ it))
  (hY:∀(cl:List (Str×â)) (C:â) (s:Ç) (H:Hp) (ex:List â) (pn:List (â×Obj)),PG (cw X N sc cl C s H ex pn) tg g0/\PF (cw X N sc cl C s H ex pn) tests (tT X.K bj ft)/\PI (cw X N sc cl C s H ex pn) iA gj (dC X.K bj iY)/\PG (cw X N sc cl C s H ex pn) iA sj/\PF (cw X N sc cl C s H ex pn) ja (tT X.K bj jD)/\PE (cw X N sc cl C s H ex pn) el (tE X.K bj f))
  (pK:apart nt sl dB=true:=by rfl) (pL:apart nt [] sl=true:=by rfl)
  (hs:∀x,ï src X.env x=pure x:=by intro _;rfl) (xR:∀ce x,ï gj ce x=pure x:=by intro _ _;rfl):PE X (.ListComp el [⟨tg,src,tests,0⟩,⟨iA,gj,ja,0⟩] sc ps) (tE X.K Ξ (tG nt cap it gd ft iY nr jD f)) :=
 dg (Jj (act:=AI (.ListComp el [⟨tg,src,tests,0⟩,⟨iA,gj,ja,0⟩] sc ps) gj 0) hc S T.jj hi (λcl C s H ex pn=>by
   obtain⟨y1,y2,y3,y4,y5,V⟩:=hY cl C s H ex pn;exact⟨y1,y2,λD Z it=>yN (d:=1) (act:=λY=>E4 (.ListComp el [⟨tg,src,tests,0⟩,⟨iA,gj,ja,0⟩] sc ps) el 1 _ D Y) rfl hc rfl y3 y4 T2.jj y5 (λY=>Ca rfl V) (λ_=>rfl) (xR _)⟩) (λ_ _ _=>rfl) hs)
  (BR (Pre:=iz dB) T gF (λi hi=>(oB pL i hi).1) (yx T2 bU By (λ_ h=>h) (λ_ _ _ _ _=>trivial)) λd Z W U=>iz.of gF (oB pK) U)
def UK {pos':Pos} (i0:Nat) {x0:Str} (se:X.N.Nodup) (hc:X.calm=true) (S:qp X sc N nt cap) (T:Tg X.K g0 gd nt) (gF:Sl gd sl) (T2:Tg X.K sj nr nt) (bU:Sl nr dB) (hi:PI X tg src (dC X.K Ξ it))
  (hY:∀(cl:List (Str×â)) (C:â) (s:Ç) (H:Hp) (ex:List â) (pn:List (â×Obj)),PG (cw X N sc cl C s H ex pn) tg g0/\PF (cw X N sc cl C s H ex pn) tests (tT X.K bj ft)/\PI (cw X N sc cl C s H ex pn) iA gj (dC X.K bj iY)/\PG (cw X N sc cl C s H ex pn) iA sj/\PF (cw X N sc cl C s H ex pn) ja (tT X.K bj jD)/\PE (cw X N sc cl C s H ex pn) el (tE X.K bj f))
  (pK:apart nt sl dB=true:=by rfl) (pL:apart nt [] sl=true:=by rfl)
  (sf:X.N[i0]?=some x0:=by rfl) (ot:Loc X.env.scope x0:=by first|exact Ş rfl|exact ack rfl)
  (hs:∀x,ï src X.env x=pure x:=by intro _;rfl) (xR:∀ce x,ï gj ce x=pure x:=by intro _ _;rfl)
  (sg:abL (.ListComp el [⟨tg,src,tests,0⟩,⟨iA,gj,ja,0⟩] sc ps) (some (.Name x0 pos')) pos.line X.env=pure true:=by rfl)
  (si:X.fn x0=true\/X.env.scope.names.lookup x0=some .local:=by first|exact .inl rfl|exact .inr rfl):PS X (.Assign [.Name x0 pos'] (.ListComp el [⟨tg,src,tests,0⟩,⟨iA,gj,ja,0⟩] sc ps) pos) (tS X.K Ξ (aK (tG nt cap it gd ft iY nr jD f) (gN i0))) :=
 kg (Sm (act:=AI (.ListComp el [⟨tg,src,tests,0⟩,⟨iA,gj,ja,0⟩] sc ps) gj 0) se sf ot hc S T.jj hi (λcl C s H ex pn=>by
   obtain⟨y1,y2,y3,y4,y5,V⟩:=hY cl C s H ex pn;exact⟨y1,y2,λD Z it=>yN (d:=1) (act:=λY=>E4 (.ListComp el [⟨tg,src,tests,0⟩,⟨iA,gj,ja,0⟩] sc ps) el 1 _ D Y) rfl hc rfl y3 y4 T2.jj y5 (λY=>Ca rfl V) (λ_=>rfl) (xR _)⟩) (λ_ _ _=>rfl) hs sg si)
  λD σ H h=>BR (Pre:=iz dB) T gF (λi hi=>(oB pL i hi).1) (yx T2 bU By (λ_ h=>h) (λ_ _ _ _ _=>trivial)) (λd Z W U=>iz.of gF (oB pK) U) σ H _ (BO (te:=tE X.K Ξ f) D σ H (zb D σ H h))
def UL (hc:X.calm=true) (S:qp X sc N nt cap) (T:Tg X.K g0 gd nt) (gF:Sl gd sl) (T2:Tg X.K sj nr nt) (bU:Sl nr dB) (T3:Tg X.K Nx F9 nt) (Z5:Sl F9 xQ) (hi:PI X tg src (dC X.K Ξ it))
  (hY:∀(cl:List (Str×â)) (C:â) (s:Ç) (H:Hp) (ex:List â) (pn:List (â×Obj)),PG (cw X N sc cl C s H ex pn) tg g0/\PF (cw X N sc cl C s H ex pn) tests (tT X.K bj ft)/\PI (cw X N sc cl C s H ex pn) iA gj (dC X.K bj iY)/\PG (cw X N sc cl C s H ex pn) iA sj/\PF (cw X N sc cl C s H ex pn) ja (tT X.K bj jD) /\
   PI (cw X N sc cl C s H ex pn) uT rB (dC X.K bj Bc)/\PG (cw X N sc cl C s H ex pn) uT Nx/\PF (cw X N sc cl C s H ex pn) vM (tT X.K bj Ny)/\PE (cw X N sc cl C s H ex pn) el (tE X.K bj f))
  (pK:apart nt sl dB=true:=by rfl) (Z6:apart nt sl xQ=true:=by rfl) (Z7:apart nt dB xQ=true:=by rfl) (pL:apart nt [] sl=true:=by rfl)
  (hs:∀x,ï src X.env x=pure x:=by intro _;rfl) (xR:∀ce x,ï gj ce x=pure x:=by intro _ _;rfl) (Z8:∀ce x,ï rB ce x=pure x:=by intro _ _;rfl):PE X (.ListComp el [⟨tg,src,tests,0⟩,⟨iA,gj,ja,0⟩,⟨uT,rB,vM,0⟩] sc ps) (tE X.K Ξ (Lh nt cap it gd ft iY nr jD Bc F9 Ny f)) :=
 dg (Jj (act:=AI (.ListComp el [⟨tg,src,tests,0⟩,⟨iA,gj,ja,0⟩,⟨uT,rB,vM,0⟩] sc ps) gj 0) hc S T.jj hi (λcl C s H ex pn=>by
   obtain⟨y1,y2,y3,y4,y5,U,R,Q,P⟩:=hY cl C s H ex pn;exact⟨y1,y2,λD Z it=>yN (d:=1) (act:=λV=>AI (.ListComp el [⟨tg,src,tests,0⟩,⟨iA,gj,ja,0⟩,⟨uT,rB,vM,0⟩] sc ps) rB 1 _ D V) rfl hc rfl y3 y4 T2.jj y5 (λV=>yN (d:=2) (act:=λiY=>E4 (.ListComp el [⟨tg,src,tests,0⟩,⟨iA,gj,ja,0⟩,⟨uT,rB,vM,0⟩] sc ps) el 2 _ D iY) rfl hc rfl U R T3.jj Q (λiY=>Ca rfl P) (λ_=>rfl) (Z8 _)) (λ_=>rfl) (xR _)⟩) (λ_ _ _=>rfl) hs)
  (BR (Pre:=λenv=>iz dB env/\iz xQ env) T gF (λi hi=>(oB pL i hi).1) (yx T2 bU (yx (Pre':=iz xQ) T3 Z5 By (λ_ h=>h) (λ_ _ _ _ _=>trivial)) (λ_ h=>h.1) (λd env Y h W=>iz.on bU (λi hi=>(oB Z7 i hi).2) h.2 W)) λd Z Y W=>⟨iz.of gF (oB pK) W,iz.of gF (oB Z6) W⟩)
end
end DI
namespace L2
open PySem PySem.Spec PyProof.Rows
noncomputable abbrev Cx.cH (X:Cx):Cx:={ X with A:=X.A.in1,xe:=λ_ _=>False }
theorem Inv.cH {X:Cx} {π:List (â×Obj)} {σ:St} {H:Hp} {s:Ç} (I:Inv X π σ H s):Inv X.cH π σ H s :=
 ⟨⟨I.ok.mod,I.ok.kind,I.ok.glob,I.ok.blt,I.ok.above,I.ok.inj,I.ok.has,I.ok.rL,I.ok.hd,I.ok.frames,I.ok.uC,I.ok.AR,I.ok.bs,I.ok.jB,I.ok.mW,I.ok.ua,I.ok.jP,I.ok.pw⟩,I.os,I.bare,I.base,I.loc,I.cell,I.free,I.fN,I.pin,I.aH,I.len⟩
def Inv.E5 {X:Cx} {π:List (â×Obj)} {σ:St} {H:Hp} {s:Ç} (I:Inv X.cH π σ H s):Inv X π σ H s :=
 ⟨⟨I.ok.mod,I.ok.kind,I.ok.glob,I.ok.blt,I.ok.above,I.ok.inj,I.ok.has,I.ok.rL,I.ok.hd,I.ok.frames,I.ok.uC,I.ok.AR,I.ok.bs,I.ok.jB,I.ok.mW,I.ok.ua,I.ok.jP,I.ok.pw⟩,I.os,I.bare,I.base,I.loc,I.cell,I.free,I.fN,I.pin,I.aH,I.len⟩
def E6 (X:Cx) (kv:Ì) (rk:V->Hp->VK->Prop):Prop :=
 ∀(Z:List (â×Obj)) (s:Ç) (σ:St) (H:Hp) (x:V) (v:Ì) (Q:VK),Inv X Z σ H s->RelV x v->rk x H Q->Ü (í X.prog X.w) X.A (call kv [v]) (EP X Z σ Q) X.xe s
def xS (K:ļ) (l:â) (all:List V) (rk:V->Hp->VK->Prop) (rc:R2):List V->V->V->Hp->VK->Prop
 | [],Z,_,H,Q=>bq K H l all/\Q Z H
 |x::Y,Z,X,H,Q=>bq K H l all/\rk x H λk U=>rc k X U λz W=>∃b,z=.bl b/\if b=true then xS K l all rk rc Y x k W Q else xS K l all rk rc Y Z X W Q
def E7 (K:ļ) (l:â) (all:List V) (rk:V->Hp->VK->Prop) (rc:R2) (dv:V) (H:Hp) (Q:VK):Prop:=bq K H l all/\match all with
 | []=>Q dv H
 |x::Z=>rk x H λk Y=>xS K l all rk rc Z x k Y Q
abbrev sk:V->Hp->VK->Prop:=λx H Q=>Q x H
def zz (X:Cx) (π:List (â×Obj)) (σ:St) (Q:VK) (r:Result) (s':Ç):Prop:=match r with
 | .ok (.ret v)=>EP X π σ Q v s'
 | .ok _=>False
 | .error e=>X.xe e s'
def QN {X:Cx} {l I S:â} {q:â} {kw:List (Str×Ì)} {all:List V} {π:List (â×Obj)} {σ:St} {rk:V->Hp->VK->Prop} {rc:R2} {Q:VK} (hc:X.calm=true) (mv:l≠I) (jm:S≠I) (xT:S≠l) (hK:E6 X.cH (.ref q) rk) (hC:aZ X.cH (Č .Lt) rc) :
  ∀(rest:List V) (j:Nat) (s:Ç) (H:Hp) (vb kb:V) (ub uk:Ì) (c:Nat),all.drop j=rest->j<=all.length->Inv X.cH π σ H s->cu X π H S->cu X π H I->s.heap.get? S=some { cls:=.type "list",dict:=none,data:=.seq #[ub,uk] c,slots:=#[] }->s.heap.IsListIter I l j->RelV vb ub->RelV kb uk ->
   xS X.K l all rk rc rest vb kb H Q->ū (í X.prog X.w) X.A (.builtin "min.loop" ⟨[.ref I,.ref q,.ref S],kw⟩) (zz X π σ Q) s:=by
 have wk:(toString "min"++toString ".loop":String)="min.loop":=by decide
 intro rest
 induction rest with
 |nil =>
  intro j s H vb kb ub uk c hd uU T Y Z J hit u Z9 h;obtain⟨t,h⟩:=h;have hj:j=all.length:=Nat.le_antisymm uU (by simpa using hd);subst hj;obtain⟨its,E,r,hz⟩:=T.list t;have n:X.A.in1.handled=none:=T.ok.hd hc;have W:=Walks.list (prog:=X.prog) (w:=X.w) (A:=X.A.in1) n I l mv its.toArray;have R:its.toArray.size=all.length:=by rw[Ô];exact E.length.symm
  refine ĸ aaf ?_;rw[ħ ľ _];show Ü _ X.A.in1 (abQ (.ref S) >>= _) _ _ _;refine À (Ğ J rfl ?_);show Ü _ X.A.in1 (tryCatch (Š (.ref I)) _ >>= _) _ _ _;refine À (Ŋ (W.done _ _ _ ⟨by rw[R];exact hit,r.isList⟩ λh' D G=>?_));have m:=G S _ (by simpa using jm) J
  have C:Inv X.cH π σ H { s with heap:=h',toks:=D }:=T.turned (it:=I) (λb o P e=>G b o (by simpa using P) e) Z.1 Z.2.1 Z.2.2.2.1 Z.2.2.2.2.1 Z.2.2.2.2.2
  show Ü _ X.A.in1 (updateSeq S (λ_=>#[]) >>= _) _ _ _;refine À ?_;refine ů m rfl (À (Ż (Â ?_)));have i:=C.turned (h':=h'.update S (į λ_=>(#[]:Array Ì))) (t':=D) (it:=S) (λb o P e=>(ā _ _ (œ P)).trans e) Y.1 Y.2.1 Y.2.2.2.1 Y.2.2.2.2.1 Y.2.2.2.2.2;exact⟨vb,H,i.E5,u,h⟩
 |cons x rest ih =>
  intro j s H vb kb ub uk c hd uU T Y Z J hit u xU h;obtain⟨t,h⟩:=h;have B:all[j]?=some x:=by
   have:=Ŀ (λl=>l[0]?) hd;simpa using this
  have fH:all.drop (j+1)=rest:=by
   have:=Ŀ (List.drop 1) hd;simpa [ab8] using this
  obtain⟨its,E,r,hz⟩:=T.list t;have n:X.A.in1.handled=none:=T.ok.hd hc;have W:=Walks.list (prog:=X.prog) (w:=X.w) (A:=X.A.in1) n I l mv its.toArray;have R:its.toArray.size=all.length:=by rw[Ô];exact E.length.symm
  refine ĸ aaf ?_;rw[ħ ľ _];show Ü _ X.A.in1 (abQ (.ref S) >>= _) _ _ _;refine À (Ğ J rfl ?_);show Ü _ X.A.in1 (tryCatch (Š (.ref I)) _ >>= _) _ _ _;refine À (Ŋ (W.item j _ _ _ (by rw[R];exact(Å.mp B).1) ⟨hit,r.isList⟩ λv h' D hP rD G=>?_));obtain⟨U,ni,rx⟩:=E.get B;have ev:U=v:=by
   have:its.toArray[j]?=some v:=hP;rw[aas,ni] at this;exact acs this
  subst ev;have m:=G S _ (by simpa using jm) J
  have C:Inv X.cH π σ H { s with heap:=h',toks:=D }:=T.turned (it:=I) (λb o P e=>G b o (by simpa using P) e) Z.1 Z.2.1 Z.2.2.2.1 Z.2.2.2.2.1 Z.2.2.2.2.2
  obtain⟨F,sm,kK,g⟩:=id rD.1;have nS:∀v,({ cls:=.type "list",dict:=none,data:=.seq #[ub,uk] c,slots:=#[] }:Obj).data≠.cell v:=λv z=>by cases z
  have nI:∀v,F.data≠.cell v:=λv z=>by rw[g] at z;cases z
  have i:=C.i7 (pins':=π++[(S,{ cls:=.type "list",dict:=none,data:=.seq #[ub,uk] c,slots:=#[] }),(I,F)]) λp hp=>by
   rcases ä.mp hp with z|z
   ·exact C.pin p (Æ _ z)
   ·rcases Ó.mp z with rfl|z
    ·exact⟨m,Y.1,Y.2.1,Y.2.2.1,nS⟩
    ·rw[å.mp z]
     exact⟨sm,Z.1,Z.2.1,Z.2.2.1,nI⟩
  show Ü _ X.A.in1 (tryCatch (aaj [U] (call (.ref q) [U])) _ >>= _) _ _ _;refine À (Ŋ (Ė (ĝ (hK _ _ σ H x U _ i rx h) (λO s2 iw=>?_) λ_ _ z=>z.elim)));obtain⟨k,H2,I3,ou,h⟩:=iw;show Ü _ X.A.in1 (tryCatch (aaj [U,O] (abO .Lt O uk >>= _)) _ >>= _) _ _ _;refine À (Ŋ (Ė (À (ĝ (hC _ s2 σ H2 k kb O uk _ I3 ou xU h) (λz M Ga=>?_) λ_ _ z=>z.elim))));obtain⟨zv,L,f,rz,b,eb,h⟩:=Ga;subst eb;cases rz;refine À (Ė (ĺ ?_));refine À (Ż (Â ?_));have y:=f.pin (S,{ cls:=.type "list",dict:=none,data:=.seq #[ub,uk] c,slots:=#[] }) (Æ _ (Æ _ (by simp)));have d:=f.pin (I,F) (Æ _ (Æ _ (by simp)));have I5:Inv X.cH π σ L M:=f.jH;have N:cu X π L S:=⟨y.2.1,Y.2⟩;have ox:cu X π L I:=⟨d.2.1,Z.2⟩
  cases b with
  |true =>
   rw[ß rfl] at h;rw[ß rfl];refine À ?_;refine ů y.1 rfl (À (Ż ?_));rw[wk];obtain⟨a,iX⟩:∃a,(M.heap.update S (į λ_=>#[U,O])).get? S=some { cls:=.type "list",dict:=none,data:=.seq #[U,O] a,slots:=#[] }:=⟨_,Ĉ _ y.1 rfl⟩
   have I6:Inv X.cH π σ L { M with heap:=M.heap.update S (į λ_=>#[U,O]),toks:=M.toks }:=I5.turned (t':=M.toks) (it:=S) (λb o P e=>(ā _ _ (œ P)).trans e) N.1 N.2.1 N.2.2.2.1 N.2.2.2.2.1 N.2.2.2.2.2
   exact Â ⟨Ō ľ _,ih (j+1) _ L x k U O a fH (Å.mp B).1 I6 N ox iX ⟨F,(ā _ _ jm).trans d.1,kK,g⟩ rx ou h⟩
  |false =>
   rw[æ Í] at h;rw[æ Í];refine À (Ż ?_);rw[wk];exact Â ⟨Ō ľ _,ih (j+1) _ L vb kb ub uk c fH (Å.mp B).1 I5 N ox y.1 ⟨F,d.1,kK,g⟩ u xU h⟩
def O4 (a v d:Ì):argsOk "min" ⟨[a],[(ð "key",v),(ð "default",d)]⟩:=by unfold argsOk;kernel_rfl
def QP {X:Cx} {l:â} {q:â} {all:List V} {π:List (â×Obj)} {σ:St} {H:Hp} {s:Ç} {rk:V->Hp->VK->Prop} {rc:R2} {dv:V} {du:Ì} {Q:VK} (hc:X.calm=true) (hK:E6 X.cH (.ref q) rk) (hC:aZ X.cH (Č .Lt) rc)
  (I0:Inv X π σ H s) (rd:RelV dv du) (h:E7 X.K l all rk rc dv H Q):Ü (í X.prog X.w) X.A (call (.builtin "min") [.ref l] [(ð "key",.ref q),(ð "default",du)]) (EP X π σ Q) X.xe s:=by
 have m:(toString "min"++toString ".loop":String)="min.loop":=by decide
 obtain⟨hq,h⟩:=h;obtain⟨its,j,C,hz⟩:=I0.list hq;have g:l<s.heap.objs.size:=by obtain⟨o,n,ho,_⟩:=C;exact Ò ho
 have hh:X.A.in1.handled=none:=I0.cH.ok.hd hc;refine kmk_tree PySem.F.kind_min PySem.F.plain_min PySem.F.entry_min (O4 _ _ _) ?_;show Ü _ X.A.in1 (Ű "min" ["key","default"] 0 ⟨[],[(ð "key",.ref q),(ð "default",du)]⟩ >>= _) _ _ s;refine À (ŭ (show Ű "min" ["key","default"] 0 ⟨[],[(ð "key",.ref q),(ð "default",du)]⟩=pure [some (.ref q),some du] from rfl) ?_);refine À (Â ?_);refine À (Ž C.isList ?_);refine À (abI ?_ (ē _));rw[m];generalize U:s.heap.objs.size=I at *;have L:(s.heap.push { cls:=.type "list_iterator",data:=.fields #[.ref l,.int 0 0] }).objs.size=I+1:=by rw[<- U];exact đ ..
 generalize Gb:(s.heap.push { cls:=.type "list_iterator",data:=.fields #[.ref l,.int 0 0] }).objs.size=S at *;have f:l≠I:=ë g;have B:S≠I:=by rw[L];exact Nat.succ_ne_self _
 have xT:S≠l:=by rw[L];exact Ŝ (ĩ g)
 have d:∀b o,s.heap.get? b=some o->((s.heap.push { cls:=.type "list_iterator",data:=.fields #[.ref l,.int 0 0] }).push { cls:=.type "list",dict:=none,data:=.seq #[] 0,slots:=#[] }).get? b=some o:=λb o e=>Á _ (Á _ e);have gI:((s.heap.push { cls:=.type "list_iterator",data:=.fields #[.ref l,.int 0 0] }).push { cls:=.type "list",dict:=none,data:=.seq #[] 0,slots:=#[] }).get? I=some { cls:=.type "list_iterator",data:=.fields #[.ref l,.int 0 0] }:=Á _ (U ▸ Ð _ rfl);have c:((s.heap.push { cls:=.type "list_iterator",data:=.fields #[.ref l,.int 0 0] }).push { cls:=.type "list",dict:=none,data:=.seq #[] 0,slots:=#[] }).get? S=some { cls:=.type "list",dict:=none,data:=.seq #[] 0,slots:=#[] }:=Gb ▸ Ð _ rfl;have nI:H I=none:=I0.aH.fresh (ŝ U);have nS:H S=none:=I0.aH.fresh (by rw[L];exact Û (ŝ U) (Ů _));have Z:cu X π H I:=I0.mZ (ŝ U) nI;have J:cu X π H S:=I0.mZ (by rw[L];exact Û (ŝ U) (Ů _)) nS;have a:=I0.cH.kept (t':=s.toks) d;refine Â ⟨Ō ľ _,?_⟩;show ū (í X.prog X.w) X.A (.builtin "min.loop" ⟨[.ref I,.ref q,.ref S],[(ð "default",du)]⟩) (zz X π σ Q) _;have W:=Walks.list (prog:=X.prog) (w:=X.w) (A:=X.A.in1) hh I l f its.toArray;have P:its.toArray.size=all.length:=by rw[Ô];exact j.length.symm
 have hit:Heap.IsListIter ((s.heap.push { cls:=.type "list_iterator",data:=.fields #[.ref l,.int 0 0] }).push { cls:=.type "list",dict:=none,data:=.seq #[] 0,slots:=#[] }) I l 0:=⟨_,gI,rfl,rfl⟩;have Bd:Heap.IsList ((s.heap.push { cls:=.type "list_iterator",data:=.fields #[.ref l,.int 0 0] }).push { cls:=.type "list",dict:=none,data:=.seq #[] 0,slots:=#[] }) l its.toArray:=C.isList.at λo e=>d l o e;refine ĸ aaf ?_;rw[ħ ľ _];show Ü _ X.A.in1 (abQ (.ref S) >>= _) _ _ _;refine À (Ğ c rfl ?_);show Ü _ X.A.in1 (tryCatch (Š (.ref I)) _ >>= _) _ _ _
 cases all with
 |nil =>
  refine À (Ŋ (W.done _ _ _ ⟨by rw[P];exact hit,Bd⟩ λh' y G=>?_));have E:=a.turned (h':=h') (t':=y) (it:=I) (λb o O e=>G b o (by simpa using O) e) Z.1 Z.2.1 Z.2.2.2.1 Z.2.2.2.2.1 Z.2.2.2.2.2;refine À (Ŕ (Â ?_));exact⟨dv,H,E.E5,rd,h⟩
 |cons x rest =>
  refine À (Ŋ (W.item 0 _ _ _ (by rw[P];simp) ⟨hit,Bd⟩ λv h' y hP rD G=>?_));obtain⟨Y,ni,rx⟩:=j.get (i:=0) (x:=x) rfl;have ev:Y=v:=by
   have:its.toArray[0]?=some v:=hP;rw[aas,ni] at this;exact acs this
  subst ev;have mw:=G S _ (by simpa using B) c;have E:=a.turned (h':=h') (t':=y) (it:=I) (λb o O e=>G b o (by simpa using O) e) Z.1 Z.2.1 Z.2.2.2.1 Z.2.2.2.2.1 Z.2.2.2.2.2;obtain⟨D,sm,kK,gY⟩:=id rD.1;have cS:∀v,({ cls:=.type "list",dict:=none,data:=.seq #[] 0,slots:=#[] }:Obj).data≠.cell v:=λv z=>by cases z
  have cI:∀v,D.data≠.cell v:=λv z=>by rw[gY] at z;cases z
  have I3:=E.i7 (pins':=π++[(S,{ cls:=.type "list",dict:=none,data:=.seq #[] 0,slots:=#[] }),(I,D)]) λp hp=>by
   rcases ä.mp hp with z|z
   ·exact E.pin p (Æ _ z)
   ·rcases Ó.mp z with rfl|z
    ·exact⟨mw,J.1,J.2.1,J.2.2.1,cS⟩
    ·rw[å.mp z]
     exact⟨sm,Z.1,Z.2.1,Z.2.2.1,cI⟩
  show Ü _ X.A.in1 (tryCatch (aaj [Y] (call (.ref q) [Y])) _ >>= _) _ _ _;refine À (Ŋ (Ė (ĝ (hK _ _ σ H x Y _ I3 rx h) (λN T iw=>?_) λ_ _ z=>z.elim)));obtain⟨k,M,u,ou,h⟩:=iw;have t:=u.pin (S,{ cls:=.type "list",dict:=none,data:=.seq #[] 0,slots:=#[] }) (Æ _ (Æ _ (by simp)));have pI:=u.pin (I,D) (Æ _ (Æ _ (by simp)));have I5:Inv X.cH π σ M T:=u.jH;have R:cu X π M S:=⟨t.2.1,J.2⟩;have ox:cu X π M I:=⟨pI.2.1,Z.2⟩;show Ü _ X.A.in1 (updateSeq S (λ_=>#[Y,N]) >>= _) _ _ _;refine À ?_;refine ů t.1 rfl ?_;rw[m];obtain⟨r,iX⟩:∃r,(T.heap.update S (į λ_=>#[Y,N])).get? S=some { cls:=.type "list",dict:=none,data:=.seq #[Y,N] r,slots:=#[] }:=⟨_,Ĉ _ t.1 rfl⟩
  have I6:Inv X.cH π σ M { T with heap:=T.heap.update S (į λ_=>#[Y,N]),toks:=T.toks }:=I5.turned (t':=T.toks) (it:=S) (λb o O e=>(ā _ _ (œ O)).trans e) R.1 R.2.1 R.2.2.2.1 R.2.2.2.2.1 R.2.2.2.2.2
  exact Â ⟨Ō ľ _,QN hc f B xT hK hC rest 1 _ M x k Y N r rfl (by simp) I6 R ox iX ⟨D,(ā _ _ B).trans pI.1,kK,gY⟩ rx ou h⟩
def PV (a:Ì):argsOk "max" ⟨[a],[]⟩:=by unfold argsOk;kernel_rfl
def PX (a:Ì):argsOk "min" ⟨[a],[]⟩:=by unfold argsOk;kernel_rfl
end L2
namespace HT
open PySem PyProof.Rows
def E8 (A:Đ) (s:Ç) (y x:Ì) (b:Bool):Prop:=∀(prog:ö) (w:Ć) (E:Ì->Ç->Prop) (Q:Ì->Ç->Prop),Q (.bool b) s->Ü (í prog w) A (abO .Lt y x) Q E s
inductive jJ (A:Đ) (s:Ç):List Ì->List Ì->Bool->Prop where
 |nn:jJ A s [] [] false
 |nc (y:Ì) (ys:List Ì):jJ A s [] (y::ys) true
 |cn (x:Ì) (xs:List Ì):jJ A s (x::xs) [] false
 |eq {x y:Ì} {xs ys:List Ì} {b:Bool}:SeqAt.EqAt A s x y true->jJ A s xs ys b->jJ A s (x::xs) (y::ys) b
 |lt {x y:Ì} {xs ys:List Ì} {b:Bool}:SeqAt.EqAt A s x y false->E8 A s x y b->jJ A s (x::xs) (y::ys) b
section
open PySem.SeqAt
open PySem.AutoSeq1 (wpAny_loadPart')
open PySem.MeetsSeq PySem.MeetsSeq2 PySem.MeetsSeq3
def PY (l b:â) (items oO:Array Ì) (n n2:Nat) (dd pG:Option â) (sl dB:Array (Option Ì)) (oy:Bool) :
  Meets (ő.«tuple.__lt__» ⟨[.ref l,.ref b],[]⟩)
   (λA R s=>s.heap.get? l=some { cls:=.type "tuple",dict:=dd,data:=.seq items n,slots:=sl }/\s.heap.get? b=some { cls:=.type "tuple",dict:=pG,data:=.seq oO n2,slots:=dB } /\
    jJ A.in1 s items.toList oO.toList oy/\R (.ok (.ret (.bool oy))) s) :=
 .of_wp λprog w A R s h=>by
  obtain⟨M,g,d,L,os⟩:=s;obtain⟨J,I,H,h⟩:=h;have f2:=AutoSeq1.sub_tuple_tuple
  wp_walk using wpAny_loadPart' J,wpAny_loadPart' I,wpAny_forIn_list _ (λrest b W=>b.1=none/\W=⟨M,g,d,L,os⟩/\∃(X ws:List Ì),rest=X.zip ws /\
   jJ A.in1 ⟨M,g,d,L,os⟩ X ws oy/\X.length+oO.size=ws.length+items.size) _
  case turn =>
   rintro ⟨y,x⟩ rest b W ⟨V,rfl,X,ws,Y,U,Z⟩
   cases U with
   |nn=>cases Y
   |nc _ _=>cases Y
   |cn _ _=>cases Y
   |eq T S =>
    rw[ġ] at Y
    injection Y with Q K
    injection Q with P O
    subst P O;simp only[ù] at Z;refine À (T prog w _ _ ?_)
    wp_walk
    exact⟨rfl,rfl,_,_,K,S,by omega⟩
   |lt T S =>
    rw[ġ] at Y
    injection Y with Q K
    injection Q with P O
    subst P O;refine À (T prog w _ _ ?_);have N:=S prog w
    wp_walk using N
    exact⟨_,rfl,by simpa using h⟩
  case fin =>
   rintro ⟨F,E⟩ W ⟨V,rfl,X,ws,Y,U,Z⟩;simp only at V;subst V;have G:oy=decide (items.size<oO.size):=by
    cases U with
    |nn=>simp only[Ę] at Z;exact(è (by omega)).symm
    |nc _ _=>simp only[Ę,ù] at Z;exact(à (by omega)).symm
    |cn _ _=>simp only[Ę,ù] at Z;exact(è (by omega)).symm
    |eq _ _=>rw[ġ] at Y;cases Y
    |lt _ _=>rw[ġ] at Y;cases Y
   rw[G] at h
   wp_walk
   exact⟨_,rfl,by simpa [Builtin.Tuple.tupleCompareSizes] using h⟩
  case h =>
   exact⟨rfl,rfl,items.toList,oO.toList,rfl,H,by simp only[ý];omega⟩
end
open PySem.SeqAt PySem.MeetsSeq
section
variable {prog:ö} {w:Ć} {A:Đ} {E:Ì->Ç->Prop} {s:Ç}
def J8 (hl:IsTup s.heap l items) (hb:IsTup s.heap b oO) (hA:∀A':Đ,A'.units<=A.units+4->jJ A' s items.toList oO.toList oy)
 (hu:A.units<abr) (h:Q (.bool oy) s):Ü (í prog w) A (abO .Lt (.ref l) (.ref b)) Q E s:=by
 obtain⟨⟨cls,U,data,T⟩,Z,Y,n,X⟩:=id hl;obtain⟨⟨O,S,data2,R⟩,W,V,P,hd2⟩:=id hb;simp only at Y X V hd2;subst Y X V hd2;refine richCompare_meets_room (op:=.Lt) ⟨_,Z,rfl⟩ ⟨_,W,rfl⟩ PySem.F.slot_tuple_lt PySem.F.entry_tuple_lt (PySem.F.args_tuple_lt_2 _ _) (PY l b items oO n P U S T R oy)
  ⟨Z,W,hA _ ?_,show Value.bool oy≠Value.notImplemented/\Q (.bool oy) s from ⟨(λx=>nomatch x),h⟩⟩ hu
 show A.units+1<=A.units+4;omega
end
end HT
namespace DI
open PySem L2 HT
mutual
noncomputable def i4:D->D->Option Bool
 | .int i,.int j=>some (decide (i<j))
 | .str x,.str y=>some (decide (x.cps.toList<y.cps.toList))
 | .tup Z,.tup Y=>gB Z Y
 |_,_=>none
noncomputable def gB:List D->List D->Option Bool
 | [],[]=>some false
 | [],_::_=>some true
 |_::_,[]=>some false
 |x::Z,y::Y=>if beq x y=true then gB Z Y else i4 x y
end
section
variable {X:Cx} {Ξ:Wd->bt->Prop} {π:List (â×Obj)} {σ:St} {s:Ç} {w:Wd}
def XU (I:Inv X π σ w.H s) (A:Đ) (lx:lay x=true) (ly:lay y=true) (hu:A.units+dep x<abr) (hx:DV X.K w x v) (hy:DV X.K w y u) (rx:RelV v vx) (ry:RelV u vy):SeqAt.EqAt A s vx vy (beq x y):=by
 obtain⟨as,Z⟩:=(hx.py (p9 _ lx)).reads I rx;obtain⟨bs,Y⟩:=(hy.py (p9 _ ly)).reads I ry;obtain⟨W,V⟩:=ll _ lx;obtain⟨U,T⟩:=ll _ ly;have:=SeqAt.eqAt_reads _ _ A s vx vy as bs Z Y W U (by rw[V];omega);rw[tF _ _ lx ly] at this;exact this
mutual
theorem Mc (I:Inv X π σ w.H s):∀(A:Đ) (x y:D) (b:Bool) (v u:V) (vx vy:Ì),i4 x y=some b->lay x=true->lay y=true->A.units+5*dep x+5<abr->DV X.K w x v->DV X.K w y u->RelV v vx->RelV u vy->E8 A s vx vy b
 |A,.int i,.int j,b,v,u,vx,vy,h,_,_,_,Z,Y,W,U=>by
  cases h;cases Z;cases Y;obtain⟨t,rfl⟩:=W;obtain⟨T,rfl⟩:=U;intro prog w E Q q;exact IU A s i t j T prog w E Q q
 |A,.str i,.str j,b,v,u,vx,vy,h,_,_,R,Z,Y,W,U=>by
  cases h;cases Z;cases Y;obtain⟨t,rfl⟩:=W;obtain⟨T,rfl⟩:=U;intro prog w E Q q;exact(PyProof.Rows.lt_str q:Ü (í prog w) A (Č .Lt (.str i t) (.str j T)) Q E s)
 |A,.tup P,.tup O,b,v,u,vx,vy,h,N,M,R,Z,Y,W,U=>by
  simp only[i4] at h;simp only[DV] at Z Y;obtain⟨a,as,rfl,L,J⟩:=Z;obtain⟨c,cs,rfl,G,S⟩:=Y;cases W;cases U;obtain⟨its,F,C,_⟩:=I.tuple L;obtain⟨B,z,r,_⟩:=I.tuple G;intro prog n E Q q;simp only[dep] at R;exact J8 C r (λp o=>by
   have:=Li I p P O b as cs its B h (by simpa [lay] using N) (by simpa [lay] using M) (by omega) J S F z;simpa using this) (by omega) q
 |_,.au,_,_,_,_,_,_,h,_,_,_,_,_,_,_=>by cases h
 |_,.bl _,_,_,_,_,_,_,h,_,_,_,_,_,_,_=>by cases h
 |_,.lst _,_,_,_,_,_,_,h,_,_,_,_,_,_,_=>by cases h
 |_,.bJ _,_,_,_,_,_,_,h,_,_,_,_,_,_,_=>by cases h
 |_,.ai _,_,_,_,_,_,_,h,_,_,_,_,_,_,_=>by cases h
 |_,.ty _,_,_,_,_,_,_,h,_,_,_,_,_,_,_=>by cases h
 |_,.bQ _,_,_,_,_,_,_,h,_,_,_,_,_,_,_=>by cases h
 |_,.int _,.au,_,_,_,_,_,h,_,_,_,_,_,_,_=>by cases h
 |_,.int _,.bl _,_,_,_,_,_,h,_,_,_,_,_,_,_=>by cases h
 |_,.int _,.str _,_,_,_,_,_,h,_,_,_,_,_,_,_=>by cases h
 |_,.int _,.tup _,_,_,_,_,_,h,_,_,_,_,_,_,_=>by cases h
 |_,.int _,.lst _,_,_,_,_,_,h,_,_,_,_,_,_,_=>by cases h
 |_,.int _,.bJ _,_,_,_,_,_,h,_,_,_,_,_,_,_=>by cases h
 |_,.int _,.ai _,_,_,_,_,_,h,_,_,_,_,_,_,_=>by cases h
 |_,.int _,.ty _,_,_,_,_,_,h,_,_,_,_,_,_,_=>by cases h
 |_,.int _,.bQ _,_,_,_,_,_,h,_,_,_,_,_,_,_=>by cases h
 |_,.str _,.au,_,_,_,_,_,h,_,_,_,_,_,_,_=>by cases h
 |_,.str _,.bl _,_,_,_,_,_,h,_,_,_,_,_,_,_=>by cases h
 |_,.str _,.int _,_,_,_,_,_,h,_,_,_,_,_,_,_=>by cases h
 |_,.str _,.tup _,_,_,_,_,_,h,_,_,_,_,_,_,_=>by cases h
 |_,.str _,.lst _,_,_,_,_,_,h,_,_,_,_,_,_,_=>by cases h
 |_,.str _,.bJ _,_,_,_,_,_,h,_,_,_,_,_,_,_=>by cases h
 |_,.str _,.ai _,_,_,_,_,_,h,_,_,_,_,_,_,_=>by cases h
 |_,.str _,.ty _,_,_,_,_,_,h,_,_,_,_,_,_,_=>by cases h
 |_,.str _,.bQ _,_,_,_,_,_,h,_,_,_,_,_,_,_=>by cases h
 |_,.tup _,.au,_,_,_,_,_,h,_,_,_,_,_,_,_=>by cases h
 |_,.tup _,.bl _,_,_,_,_,_,h,_,_,_,_,_,_,_=>by cases h
 |_,.tup _,.int _,_,_,_,_,_,h,_,_,_,_,_,_,_=>by cases h
 |_,.tup _,.str _,_,_,_,_,_,h,_,_,_,_,_,_,_=>by cases h
 |_,.tup _,.lst _,_,_,_,_,_,h,_,_,_,_,_,_,_=>by cases h
 |_,.tup _,.bJ _,_,_,_,_,_,h,_,_,_,_,_,_,_=>by cases h
 |_,.tup _,.ai _,_,_,_,_,_,h,_,_,_,_,_,_,_=>by cases h
 |_,.tup _,.ty _,_,_,_,_,_,h,_,_,_,_,_,_,_=>by cases h
 |_,.tup _,.bQ _,_,_,_,_,_,h,_,_,_,_,_,_,_=>by cases h
theorem Li (I:Inv X π σ w.H s):∀(A:Đ) (xs ys:List D) (b:Bool) (vs us:List V) (ps qs:List Ì),gB xs ys=some b->dq xs=true->dq ys=true->A.units+5*cv xs+5<abr->ar X.K w xs vs->ar X.K w ys us->Vals vs ps->Vals us qs->jJ A s ps qs b
 |A,[],[],b,vs,us,ps,qs,h,_,_,_,W,U,Z,Y=>by
  cases h;cases W;cases U;cases Z;cases Y;exact .nn
 |A,[],y::ys,b,vs,us,ps,qs,h,_,_,_,W,U,Z,Y=>by
  cases h;cases W;cases Z;obtain⟨u,r,rfl,_,_⟩:=U;cases Y;exact .nc _ _
 |A,x::xs,[],b,vs,us,ps,qs,h,_,_,_,W,U,Z,Y=>by
  cases h;cases U;cases Y;obtain⟨u,r,rfl,_,_⟩:=W;cases Z;exact .cn _ _
 |A,x::xs,y::ys,b,vs,us,ps,qs,h,T,S,J,W,U,Z,Y=>by
  obtain⟨v,r,rfl,M,dr⟩:=W;obtain⟨u,G,rfl,L,P⟩:=U;simp only[dq,Ê] at T S;simp only[cv] at J;have F:=Nat.le_max_left (dep x) (cv xs);have E:=abz (dep x) (cv xs)
  cases Z with
  |cons Z O =>
   cases Y with
   |cons Y N =>
    have R:=XU I A T.1 S.1 (by omega) M L Z Y;simp only[gB] at h;split at h
    ·rename_i Q
     rw[Q] at R;exact .eq R (Li I A xs ys b _ _ _ _ h T.2 S.2 (by omega) dr P O N)
    ·rename_i Q
     rw[aaa] at Q;rw[Q] at R;exact .lt R (Mc I A x y b _ _ _ _ h T.1 S.1 (by omega) M L Z Y)
end
def gC (x y:D) (s:ag):Res D:=if (lay x&&lay y&&decide (dep x<=30))=true then bE ((i4 x y).map D.bl) s else none
def og (hr:bZ k X.A):aZ X (Č .Lt) (rO X.K Ξ gC):=by
 rintro O s σ H x y v u Q I U T ⟨w,W,V,rfl,S,R,P,h⟩;unfold gC at h;split at h
 ·rename_i Z
  simp only[Ê,È] at Z;obtain⟨d,e,h⟩:=f6 h
  cases Y:i4 W V with
  |none=>rw[Y] at e;cases e
  |some b =>
   rw[Y] at e;cases e;exact Mc I X.A W V b x y v u Y Z.1.1 Z.1.2 (by have:=hr.un;have:=Z.2;have:abr=9900:=rfl;omega) R P U T _ _ _ _ ⟨.bl b,w.H,I,rfl,aF S h _ rfl⟩
 ·exact h.elim
end
end DI
namespace DI
open PySem L2
def rE (kf:D->ag->Res D) (o:D->D->ag->Res D):D->D->List D->ag->Res D
 |b,_,[],s=>ok b s
 |b,k,d::Z,s=>ao (ne (kf d s)) λY s=>ao (ne (o Y k s)) λc s=>match c with
  | .bl true=>rE kf o d Y Z s
  | .bl false=>rE kf o b k Z s
  |_=>none
def D6 (kf:D->ag->Res D) (o:D->D->ag->Res D) (dflt:Option D):List D->ag->Res D
 | [],s=>match dflt with
  |some d=>ok d s
  |none=>none
 |d::Z,s=>ao (ne (kf d s)) λk s=>rE kf o d k Z s
def rK (K:ļ) (kf:D->ag->Res D):V->Hp->VK->Prop:=λx H Q=>∃w Z,w.H=H/\aL K w/\DV K w Z x/\Out K bj w (kf Z w.aA) λY d=>∀v,DV K Y d v->Q v Y.H
theorem Du:∀{ds:List D} {vs:List V} {w:Wd} {b k:D} {vb vk:V},aL K w->LstAt w l all->ar K w ds vs->DV K w b vb->DV K w k vk ->
  Out K Ξ w (rE kf o b k ds w.aA) (λw' d=>∀v,DV K w' d v->Q v w'.H)->xS K l all (rK K kf) (rO K bj o) vs vb vk w.H Q
 | [],vs,w,b,k,vb,vk,S,Y,X,W,U,h=>by
  have e:vs=[]:=X;subst e;exact⟨Y.sq,aF S h _ W⟩
 |d::ds,vs,w,b,k,vb,vk,S,Y,X,W,U,h=>by
  obtain⟨v,r,rfl,R,dr⟩:=X;refine⟨Y.sq,w,d,rfl,S,R,(Out.ao h).ne.mono λL J P I G F O=>⟨L,J,k,rfl,I,O,P _ _ U,(Out.ao G).ne.mono λB c N M T E C=>?_⟩⟩;have Z:=P.trans N
  cases c with
  |bl c =>
   have e:E=.bl c:=C;refine⟨c,e,?_⟩
   cases c with
   |true =>
    rw[ß rfl];exact Du (Ξ:=Ξ) M (Z.lst _ _ Y) (Z.all dr) (Z _ _ R) (N _ _ O) T
   |false =>
    rw[æ Í];exact Du (Ξ:=Ξ) M (Z.lst _ _ Y) (Z.all dr) (Z _ _ W) (Z _ _ U) T
  |_=>exact T.elim
def UM (S:aL K w) (hl:DV K w (.lst ds) v) (hd:∀d,dflt=some d->∀w',DV K w' d dv)
 (h:Out K Ξ w (D6 kf o dflt ds w.aA) (λw' d=>∀v,DV K w' d v->Q v w'.H)):∃l all,v=.ref l/\(all=[]->dflt≠none)/\E7 K l all (rK K kf) (rO K bj o) dv w.H Q:=by
 simp only[DV] at hl;obtain⟨l,all,rfl,X,Z⟩:=hl;refine⟨l,all,rfl,λe z=>?_,X.sq,?_⟩
 ·subst e z
  have V:ds.length=0:=Z.length
  cases ds with
  |nil=>exact h
  |cons _ _=>cases V
 ·cases ds with
  |nil =>
   have e:all=[]:=Z;subst e
   cases dflt with
   |none=>exact h.elim
   |some d=>exact aF S h _ (hd d rfl w)
  |cons d ds =>
   obtain⟨x,r,rfl,W,dr⟩:=Z;exact⟨w,d,rfl,S,W,(Out.ao h).ne.mono λP k Y U T O R=>Du (Ξ:=Ξ) U (Y.lst _ _ X) (Y.all dr) (Y _ _ W) R T⟩
def Ww {X:Cx} {kn:Nat} {fA:â} {fd:ť} {p:Str} {fn:List D->ag->Res D} (F:gf X.prog X.w X.K X.mg X.base iu kn fA fd [p] (nq X.K fn)) (hr:bZ (kn+1) X.A) (hb:Binds X.K fd [p] []):E6 X.cH (.ref fA) (rK X.K λd s=>fn [d] s):=by
 rintro V s σ H x v Q I Z ⟨w,Y,rfl,S,W,h⟩;exact KY (X:=X.cH) (us:=[v]) (vs:=[x]) F hr.in1 hb .nil LO I (.cons Z .nil) ⟨w,[Y],rfl,S,ar.one W,h⟩
def Dv (kf:D->ag->Res D) (o:D->D->ag->Res D) (dflt:Option D) (d:D) (s:ag):Res D:=match d with
 | .lst Z=>D6 kf o dflt Z s
 |_=>none
abbrev Af (fn:List D->ag->Res D):D->ag->Res D:=Dv (λd s=>fn [d] s) gC (some .au)
def UN (S:aL K w) (hl:DV K w d v) (hd:∀d,dflt=some d->∀w',DV K w' d dv)
 (h:Out K Ξ w (Dv kf o dflt d w.aA) (λw' d=>∀v,DV K w' d v->Q v w'.H)):∃l all,v=.ref l/\(all=[]->dflt≠none)/\E7 K l all (rK K kf) (rO K bj o) dv w.H Q:=by
 unfold Dv at h;split at h
 ·exact UM S hl hd h
 ·exact h.elim
section
variable {X:Cx} {Ξ:Wd->bt->Prop} {e:Ņ} {p pos NA NB Au MS:Pos} {f:acn D}
def UO {j:Nat} {kn:Nat} (F:gf X.prog X.w X.K X.mg X.base iu kn fA fd [pn] (nq X.K fn)) (hr:bZ (kn+1) X.A) (hk:X.mg kx=some (.ref fA)) (hb:Binds X.K fd [pn] []) (he:PE X e (tE X.K Ξ f)) (hc:X.calm=true) (hg:Gl X "min") (hm:X.mg "min"=none) (hgk:Gl X kx)
 (hs:Þ [e] X.env=(false,ś e X.env)::Þ [] X.env:=by rfl) (hdk:(kx==("__debug__":Str))=false:=by decide)
 (heb:χ pos (Þ [e] X.env)=(false,ś e X.env)::χ pos (Þ [] X.env):=by rfl) (dA:(χ pos (Þ [e] X.env)).any (·.1)=false:=by rfl) :
  PE X (.Call (.Name "min" p) [e] [⟨some "key",.Name kx Au,NA⟩,⟨some "default",.Constant .none j MS,NB⟩] pos) (tE X.K Ξ (e1 (Af fn) f)):=by
 rintro O s σ H Q I ⟨w,env,rfl,S,L,h⟩;refine aaX (nL I hg hm qQ ?_);have J:=kY he (nM (X:=X)) hs;have W:PK X [⟨some "key",.Name kx Au,NA⟩,⟨some "default",.Constant .none j MS,NB⟩] (zW (tC (.ref fA)) (zW (tC .au) EJ)):=JQ (JN hgk hk rfl hdk) (JQ KP V1);refine PyProof.Rows.callWith_kw (aG (J pos O s σ w.H (λN Y=>∃v,N=[v]/\∃(Z:Wd) (d:D),Z.H=Y/\aL X.K Z/\DV X.K Z d v/\Out X.K Ξ Z (Af fn d Z.aA) (λV d=>∀v,DV X.K V d v->Q v V.H)) I ⟨w,env,rfl,S,L,(Out.ao h).mono λZ d q U T v dv=>⟨v,rfl,Z,d,rfl,U,dv,T⟩⟩) λo G ⟨N,Y,E,C,B⟩=>?_) heb dA;refine aG (W pos O G σ Y (λzs M=>zs=[.ref fA,.au]/\M=Y) E ⟨rfl,rfl⟩) λws n ⟨zs,M,z,y,x⟩=>?_;obtain⟨e1,e2⟩:=x;subst e1 e2;obtain⟨v,rfl,Z,d,rfl,U,dv,T⟩:=B;obtain⟨l,all,rfl,_,t⟩:=UN (dv:=.au) U dv (λd e V=>by cases e;rfl) T;obtain⟨u,rfl,r⟩:=vals1 C;obtain⟨m,k,rfl,R,P⟩:=vals2 y;cases r;cases R;cases P;exact QP (dv:=.au) hc (Ww F hr hb) (og (X:=X.cH) (hr.in1)) z rfl t
end
def vh:List D->ag->Res D:=aW 2 2 (aw (cG (aC (e2 gC (aa 1) (eB cz (ae (aa 0) ah)))) (aQ (e2 aj (aa 0) (aa 1))) cK) (aQ (eC (.int 0))))
def yP:List D->ag->Res D:=aW 2 3 (aw (aK (ax vh (ae (aa 0) (ae (aa 1) ah))) (gN 2)) (aQ (eNew (ae (eB qL (ae (eC (.int 0)) (ae (e2 qJ (aa 2) (e2 Aa (eC (.int 10)) (eC (.int 18)))) ah))) (ae (e2 nY (aa 2) (eC (.int 2147483647))) ah)))))
def cf:List D->ag->Res D:=aW 2 4 (aw (cG (aC (e2 uq (e2 aj (aa 0) (eC (.int 0))) (eC (.int 0)))) (aw (aK (e2 nY (e2 aj (aa 0) (eC (.int 0))) (aa 1)) (gN 2)) (aw (iV (e2 vZ (e2 aj (aa 0) (eC (.int 0))) (aa 1)) (aa 0) (eC (.int 0))) (aQ (aa 2)))) cK) (aw (iV (e2 nY (e2 cY (e2 jL (e2 aj (aa 0) (eC (.int 1))) (eC (.int 48271))) (eC (.int 29))) (eC (.int 2147483647))) (aa 0) (eC (.int 1))) (aw (aK (e2 nY (e2 cY (e2 cY (e2 jL (e2 aj (aa 0) (eC (.int 1))) (e2 aj (aa 0) (eC (.int 1)))) (e2 jL (eC (.int 39373)) (e2 aj (aa 0) (eC (.int 1))))) (eC (.int 7))) (eC (.int 2147483629))) (gN 3)) (aw (aK (e2 nY (e2 cY (e2 jL (aa 3) (aa 3)) (e2 jL (eC (.int 16807)) (aa 3))) (eC (.int 2147483587))) (gN 3)) (aQ (e2 nY (e2 vZ (aa 3) (eC (.int 8))) (aa 1)))))))
def vA:List D->ag->Res D:=aW 2 3 (aw (aK (e2 cY (eC (.int 1)) (ax cf (ae (aa 0) (ae (eC (.int 4)) ah)))) (gN 2)) (aQ (eB eI (ae (aM 1 [0,2] (bL (ae (aa 1) ah)) (gN 0) (aC (e2 aS (ax cf (ae (aa 1) (ae (e2 cY (aa 2) (eC (.int 1))) ah))) (eC (.int 0)))) (aa 0)) ah))))
def gp:Nat->List D->ag->Res D
 |0=>λ_ _=>none
 |n+1=>aW 2 2 (aw (cG (dZ (e1 wI (aa 1))) (aw (cG (iW (aC (e2 gO (eB cL (ae (aa 0) (ae (eC (.ty "tuple")) ah))) (eB cL (ae (aa 1) (ae (eC (.ty "tuple")) ah))))) (aC (e2 gO (eB cL (ae (aa 0) (ae (eC (.ty "list")) ah))) (eB cL (ae (aa 1) (ae (eC (.ty "list")) ah)))))) (aQ (eC (.bl false))) cK) (aQ (dj (e2 aS (eB cz (ae (aa 0) ah)) (eB cz (ae (aa 1) ah))) (eB lL (ae (aM 2 [] (rn (ae (aa 0) (ae (aa 1) ah))) (gT [gN 0,gN 1]) ba (ax (gp n) (ae (aa 0) (ae (aa 1) ah)))) ah))))) cK) (aQ (dj (e2 aS (eB cL (ae (aa 0) (ae (eC (.ty "bool")) ah))) (eB cL (ae (aa 1) (ae (eC (.ty "bool")) ah)))) (e2 aS (aa 0) (aa 1)))))
def pZ:List D->ag->Res D:=aW 1 1 (aQ (eB lL (ae (aM 2 [] (rn (ae (aa 0) (ae (kR (aa 0) (kH (eC (.int 1))) kQ) ah))) (gT [gN 0,gN 1]) ba (e2 gC (aa 0) (aa 1))) ah)))
def Bz:List D->ag->Res D:=aW 1 1 (aQ (dj (eB cL (ae (aa 0) (ae (eC (.ty "int")) ah))) (dj (rj (eB cL (ae (aa 0) (ae (eC (.ty "bool")) ah)))) (e2 AE (aa 0) (eC (.int 0))))))
def sP:List D->ag->Res D:=aW 2 2 (aQ (dj (ax Bz (ae (aa 0) ah)) (e2 gC (aa 0) (aa 1))))
def vp:List D->ag->Res D:=aW 1 1 (aQ (ax sP (ae (aa 0) (ae (eC (.int (8))) ah))))
def vf:List D->ag->Res D:=aW 1 1 (aQ (dj (eB cL (ae (aa 0) (ae (eC (.ty "tuple")) ah))) (dj (eB lL (ae (aM 1 [] (aR (aa 0)) (gN 0) ba (ax vp (ae (aa 0) ah))) ah)) (ax pZ (ae (aa 0) ah)))))
end DI
namespace ST
open PySem PySem.W PyProof.Rows
structure Ord (α:Type) where
 lt:α->α->Bool
 Ge:∀a,lt a a=false
 tr:∀a b c,lt a b=true->lt b c=true->lt a c=true
 xW:∀a b,lt a b=false->lt b a=false->a=b
section
variable {α:Type} (O:Ord α)
def Ord.le (a b:α):Prop:=O.lt b a=false
variable {O}
def Ord.le_refl (a:α):O.le a a:=O.Ge a
def Ord.le_of_lt (h:O.lt a b=true):O.le a b:=by
 unfold Ord.le
 cases Z:O.lt b a with
 |false=>rfl
 |true=>have:=O.tr _ _ _ h Z;rw[O.Ge] at this;cases this
def Ord.tY (h:O.le a b) (g:O.le b c):O.le a c:=by
 unfold Ord.le at *
 cases Z:O.lt c a with
 |false=>rfl
 |true =>
  cases Y:O.lt a b with
  |true=>have:=O.tr _ _ _ Z Y;rw[g] at this;cases this
  |false =>
   have e:=O.xW a b Y h;subst e;rw[g] at Z;cases Z
def Ord.Md (h:O.le a b) (g:O.le b a):a=b:=O.xW _ _ g h
end
def ok {β:Type} (c:Nat->Nat->Bool) (n:Nat):KasT β->(β->Prop)->Prop
 | .ret a,Q=>Q a
 | .ask i j k,Q=>i<n/\j<n/\ok c n (k (c i j)) Q
theorem k9 {β:Type} {c:Nat->Nat->Bool} {n:Nat} {Q R:β->Prop}:∀{t:KasT β},ok c n t Q->(∀a,Q a->R a)->ok c n t R
 | .ret a,h,i=>i a h
 | .ask _ _ k,h,i=>⟨h.1,h.2.1,k9 (t:=k _) h.2.2 i⟩
theorem sX {β γ:Type} {c:Nat->Nat->Bool} {n:Nat} {f:β->KasT γ} {Q:γ->Prop}:∀{t:KasT β},ok c n t (λa=>ok c n (f a) Q)->ok c n (t.bind f) Q
 | .ret _,h=>h
 | .ask _ _ k,h=>⟨h.1,h.2.1,sX (t:=k _) h.2.2⟩
theorem Me {β:Type} {c:Nat->Nat->Bool} {n:Nat} {cmp:Nat->Nat->(Bool->Ç->Prop)->Ç->Prop} (hc:∀i j C,i<n->j<n->C (c i j) s->cmp i j C s) {Q:β->Ç->Prop}:∀{t:KasT β},ok c n t (λa=>Q a s)->t.kasWp cmp Q s
 | .ret _,h=>h
 | .ask _ _ k,h=>hc _ _ _ h.1 h.2.1 (Me hc (t:=k _) h.2.2)
section
variable {α:Type} {O:Ord α} {x:Nat->α} {n:Nat}
noncomputable def ky (x:Nat->α) (p:Array Nat) (i:Nat):α:=x (p.getD i 0)
def Pm (n:Nat) (p:Array Nat):Prop:=p.size=n/\p.toList.Perm (Ø n)
def Up (O:Ord α) (f:Nat->α) (k:Nat):Prop:=∀i j,i<j->j<k->O.le (f i) (f j)
def Dn (O:Ord α) (f:Nat->α) (k:Nat):Prop:=∀i j,i<j->j<k->O.le (f j) (f i)
def Up.more (h:Up O f k) (hk:1<=k) (h1:O.le (f (k-1)) (f k)):Up O f (k+1):=λi j Z X=>by
 by_cases e:j=k
 ·subst e
  by_cases Y:i=j-1
  ·subst Y;exact h1
  ·exact Ord.tY (h i (j-1) (by omega) (by omega)) h1
 ·exact h i j Z (by omega)
def Dn.more (h:Dn O f k) (hk:1<=k) (h1:O.le (f k) (f (k-1))):Dn O f (k+1):=λi j Z X=>by
 by_cases e:j=k
 ·subst e
  by_cases Y:i=j-1
  ·subst Y;exact h1
  ·exact Ord.tY h1 (h i (j-1) (by omega) (by omega))
 ·exact h i j Z (by omega)
def Pm.lt (h:Pm n p) (hi:i<n):p.getD i 0<n:=by
 have hs:i<p.size:=by rw[h.1];exact hi
 have:p[i]∈p.toList:=by simp
 have e:p.getD i 0=p[i]:=by simp[abd,hs]
 rw[e];exact ñ.mp (h.2.mem_iff.mp this)
def Pm.rev (h:Pm n p) (i j:Nat):Pm n (kas_rev p i j):=⟨by rw[kas_rev_size];exact h.1,(Array.perm_iff_toList_perm.mp (mirror_perm p i j _)).trans h.2⟩
def Pm.bub (h:Pm n p) (i j:Nat):Pm n (bubble p i j):=⟨by rw[bubble_size];exact h.1,(Array.perm_iff_toList_perm.mp (bubble_perm p i j)).trans h.2⟩
def vD {p q:Array Nat} {i j:Nat} (h:p[i]?=q[j]?):p.getD i 0=q.getD j 0:=by
 rw[Array.getD_eq_getD_getElem?,Array.getD_eq_getD_getElem?,h]
def Dw {p:Array Nat} {i j:Nat} (hj:j<=p.size) (k:Nat):ky x (kas_rev p i j) k=if i<=k/\k<j then ky x p (i+j-1-k) else ky x p k:=by
 have e:=getElem?_mirror_all (i:=i) hj k;unfold ky kas_rev
 split<;>rename_i h
 ·rw[ß h] at e;rw[vD e]
 ·rw[æ h] at e;rw[vD e]
def Lj {p:Array Nat} {k d:Nat} (hk:k<p.size) (hd:d<=k) (i:Nat):ky x (bubble p k d) i=if i=k-d then ky x p k else if k-d<i/\i<=k then ky x p (i-1) else ky x p i:=by
 have e:=getElem?_bubble hk d hd i;by_cases h:i=k-d
 ·rw[ß h] at e |-;exact Ŀ x (vD e)
 ·rw[æ h] at e |-
  by_cases Z:k-d<i/\i<=k
  ·rw[ß Z] at e |-;exact Ŀ x (vD e)
  ·rw[æ Z] at e |-;exact Ŀ x (vD e)
def J9 (hj:j<=p.size) (he:∀k,i<=k->k<j->ky x p k=ky x p (j-1)):ky x (kas_rev p i j)=ky x p:=funext λk=>by
 rw[Dw hj];split
 ·rw[he _ (by omega) (by omega),he k (by omega) (by omega)]
 ·rfl
noncomputable abbrev asks (O:Ord α) (x:Nat->α) (i j:Nat):Bool:=O.lt (x i) (x j)
theorem Dx {p:Array Nat} (hp:Pm n p):∀(f m:Nat),1<=m->m+f<=n->Up O (ky x p) m->ok (asks O x) n (kas_asc p f m) λr=>m<=r/\r<=m+f/\Up O (ky x p) r/\(r<m+f->O.lt (ky x p r) (ky x p (r-1))=true)
 |0,m,Y,V,Z=>⟨acr _,acr _,Z,λz=>absurd z (ì _)⟩
 |f+1,m,Y,V,Z=>by
  refine⟨hp.lt (by omega),hp.lt (by omega),?_⟩
  show ok _ _ (if O.lt (ky x p m) (ky x p (m-1))=true then _ else _) _
  cases X:O.lt (ky x p m) (ky x p (m-1)) with
  |true =>
   rw[ß rfl];exact⟨acr _,by omega,Z,λ_=>X⟩
  |false =>
   rw[æ Í];refine k9 (Dx hp f (m+1) (by omega) (by omega) (Z.more Y X)) λr W=>⟨by omega,by omega,W.2.2.1,λz=>W.2.2.2 (by omega)⟩
structure DS (O:Ord α) (x:Nat->α) (n:Nat) (p:Array Nat) (m q:Nat):Prop where
 pm:Pm n p
 q1:q+1<=m
 mn:m<=n
 dn:Dn O (ky x p) m
 bl:∀k,m-(q+1)<=k->k<m->ky x p k=ky x p (m-1)
def DS.turn (D:DS O x n p m q):Pm n (kas_rev p (m-(q+1)) m)/\ky x (kas_rev p (m-(q+1)) m)=ky x p :=
 ⟨D.pm.rev _ _,J9 (by rw[D.pm.1];exact D.mn) D.bl⟩
theorem zc:∀(f:Nat) (p:Array Nat) (m q:Nat),m+f<=n->DS O x n p m q->ok (asks O x) n (kas_desc f p m q) λr=>m<=r.2.1/\DS O x n r.1 r.2.1 r.2.2
 |0,p,m,q,_,D=>⟨acr _,D⟩
 |f+1,p,m,q,P,D=>by
  have q1:=D.q1;refine⟨D.pm.lt (by omega),D.pm.lt (by omega),?_⟩
  show ok _ _ (if O.lt (ky x p m) (ky x p (m-1))=true then _ else _) _
  cases X:O.lt (ky x p m) (ky x p (m-1)) with
  |true =>
   rw[ß rfl];have one:∀Y,Pm n Y->ky x Y=ky x p->DS O x n Y (m+1) 0:=λY V U=>⟨V,by omega,by omega,by rw[U];exact D.dn.more (by omega) (Ord.le_of_lt X),λk T S=>by rw[show k=m+1-1 by omega]⟩;by_cases W:q > 0
   ·rw[ß W]
    exact k9 (zc f _ (m+1) 0 (by omega) (one _ D.turn.1 D.turn.2)) λr Z=>⟨by omega,Z.2⟩
   ·rw[æ W]
    exact k9 (zc f _ (m+1) 0 (by omega) (one _ D.pm rfl)) λr Z=>⟨by omega,Z.2⟩
  |false =>
   rw[æ Í];refine⟨D.pm.lt (by omega),D.pm.lt (by omega),?_⟩
   show ok _ _ (if O.lt (ky x p (m-1)) (ky x p m)=true then _ else _) _
   cases R:O.lt (ky x p (m-1)) (ky x p m) with
   |true =>
    rw[ß rfl];exact⟨acr _,D⟩
   |false =>
    rw[æ Í];have e:ky x p m=ky x p (m-1):=O.xW _ _ X R;refine k9 (zc f p (m+1) (q+1) (by omega) ⟨D.pm,by omega,by omega,D.dn.more (by omega) (by rw[e];exact Ord.le_refl _),λk T S=>?_⟩) λr Z=>⟨by omega,Z.2⟩;show _=ky x p m;by_cases Q:k=m
    ·rw[Q]
    ·rw[D.bl k (by omega) (by omega),e]
def Ka {p:Array Nat} {m:Nat} (hp:Pm n p) (h1:1<=m) (hm:m<=n) (hd:Dn O (ky x p) m):ok (asks O x) n (kas_tail3 m n p) λr=>1<=r.1/\r.1<=n/\Pm n r.2/\Up O (ky x r.2) r.1:=by
 refine sX ?_;have Z:Up O (ky x (kas_rev p 0 m)) m:=λi j W Y=>by
  rw[Dw (by rw[hp.1];exact hm),Dw (by rw[hp.1];exact hm),ß ⟨by omega,by omega⟩,ß ⟨by omega,Y⟩];exact hd _ _ (by omega) (by omega)
 exact k9 (Dx (hp.rev 0 m) (n-m) m h1 (by omega) Z) λr X=>⟨by show 1<=r;omega,by show r<=n;omega,hp.rev 0 m,X.2.2.1⟩
def Hx {p:Array Nat} {m:Nat} (hp:Pm n p) (h1:1<=m) (hm:m+1<=n) (hd:Dn O (ky x p) (m+1)):ok (asks O x) n (kas_descPart m n p) λr=>1<=r.1/\r.1<=n/\Pm n r.2/\Up O (ky x r.2) r.1:=by
 refine sX (k9 (zc (n-(m+1)) p (m+1) 0 (by omega) ⟨hp,by omega,hm,hd,λk Y X=>by rw[show k=m+1-1 by omega]⟩) λr Z=>?_);obtain⟨W,D⟩:=Z;split
 ·exact Ka D.turn.1 (by have:=D.q1;omega) D.mn (by rw[D.turn.2];exact D.dn)
 ·exact Ka D.pm (by have:=D.q1;omega) D.mn D.dn
def Sn {p:Array Nat} (hp:Pm n p) (hn:1<=n):ok (asks O x) n (kas_count n p) λr=>1<=r.1/\r.1<=n/\Pm n r.2/\Up O (ky x r.2) r.1:=by
 refine sX (k9 (Dx hp (n-1) 1 (acr _) (by omega) λi j U X=>by omega) λm S=>?_);obtain⟨Z,Q,Y,R⟩:=S;split
 ·rename_i e
  rw[beq_iff_eq] at e;exact⟨Z,by omega,hp,Y⟩
 ·rename_i e
  have P:m≠n:=λz=>e (by rw[z];exact ě n);have hs:=R (by omega);split
  ·refine⟨hp.lt (by omega),hp.lt (by omega),?_⟩
   show ok _ _ (if O.lt (ky x p 0) (ky x p (m-1))=true then _ else _) _
   cases T:O.lt (ky x p 0) (ky x p (m-1)) with
   |true =>
    rw[ß rfl];exact⟨Z,by omega,hp,Y⟩
   |false =>
    rw[æ Í];have W:∀k,0<=k->k<m->ky x p k=ky x p (m-1):=λk _ V=>by
     have a1:O.le (ky x p k) (ky x p (m-1)):=by
      by_cases e:k=m-1
      ·rw[e];exact Ord.le_refl _
      ·exact Y k (m-1) (by omega) (by omega)
     have a2:O.le (ky x p (m-1)) (ky x p k):=by
      by_cases e:k=0
      ·rw[e];exact T
      ·exact Ord.tY T (Y 0 k (by omega) V)
     exact Ord.Md a1 a2
    have V:=J9 (x:=x) (p:=p) (i:=0) (j:=m) (by rw[hp.1];omega) W;refine Hx (hp.rev 0 m) Z (by omega) ?_;rw[V];refine Dn.more (λi j U X=>?_) Z (Ord.le_of_lt hs);rw[W i (by omega) (by omega),W j (by omega) X];exact Ord.le_refl _
  ·refine Hx hp Z (by omega) (Dn.more (λi j U X=>by omega) Z (Ord.le_of_lt hs))
theorem Cb (hp:Pm n p) (hk:k<n) (hu:Up O (ky x p) k):∀(f l r:Nat),r-l<=f->l<=r->r<=k->(∀i,i<l->O.le (ky x p i) (ky x p k))->(∀i,r<=i->i<k->O.le (ky x p k) (ky x p i)) ->
  ok (asks O x) n (kas_place p k f l r) λm=>m<=k/\(∀i,i<m->O.le (ky x p i) (ky x p k))/\(∀i,m<=i->i<k->O.le (ky x p k) (ky x p i))
 |0,l,r,X,W,Y,a,b=>⟨by omega,a,λi hi=>b i (by omega)⟩
 |f+1,l,r,X,W,Y,a,b=>by
  unfold kas_place;by_cases h:l ≥ r
  ·rw[ß h]
   exact⟨by omega,a,λi hi=>b i (by omega)⟩
  ·rw[æ h]
   refine⟨hp.lt hk,hp.lt (by omega),?_⟩
   show ok _ _ (if O.lt (ky x p k) (ky x p ((l+r) / 2))=true then _ else _) _
   cases Z:O.lt (ky x p k) (ky x p ((l+r) / 2)) with
   |true =>
    rw[ß rfl];refine Cb hp hk hu f l ((l+r) / 2) (by omega) (by omega) (by omega) a λi hi V=>?_;by_cases e:i=(l+r) / 2
    ·rw[e];exact Ord.le_of_lt Z
    ·exact Ord.tY (Ord.le_of_lt Z) (hu _ _ (by omega) V)
   |false =>
    rw[æ Í];refine Cb hp hk hu f ((l+r) / 2+1) r (by omega) (by omega) Y (λi hi=>?_) b;by_cases e:i=(l+r) / 2
    ·rw[e];exact Z
    ·exact Ord.tY (hu _ _ (by omega) (by omega)) Z
theorem Lk:∀(f:Nat) (p:Array Nat) (k:Nat),Pm n p->k+f=n->Up O (ky x p) k->ok (asks O x) n (kas_bin f p k) λq=>Pm n q/\Up O (ky x q) n
 |0,p,k,Y,X,Z=>⟨Y,by rw[<- X];exact Z⟩
 |f+1,p,k,Y,X,Z=>by
  refine sX (k9 (Cb Y (by omega) Z k 0 k (by omega) (ē _) (acr _) (λi hi=>by omega) λi Q W=>by omega) λm P=>?_);obtain⟨Q,W,N⟩:=P;refine Lk f _ (k+1) (Y.bub _ _) (by omega) λi j M K=>?_;have V:k<p.size:=by rw[Y.1];omega
  have L:k-(k-m)=m:=by omega
  rw[Lj V (by omega),Lj V (by omega),L];by_cases U:i=m
  ·rw[ß U,æ (by omega),ß (by omega)]
   exact N _ (by omega) (by omega)
  ·rw[æ U]
   by_cases T:m<i/\i<=k
   ·rw[ß T,æ (by omega),ß (by omega)]
    exact Z _ _ (by omega) (by omega)
   ·rw[æ T]
    by_cases S:j=m
    ·rw[ß S];exact W _ (by omega)
    ·rw[æ S]
     by_cases R:m<j/\j<=k
     ·rw[ß R]
      by_cases e:i=j-1
      ·rw[e];exact Ord.le_refl _
      ·exact Z _ _ (by omega) (by omega)
     ·rw[æ R];exact Z _ _ M (by omega)
def UP (hn:1<=n):ok (asks O x) n (kas_sort n) λq=>Pm n q/\Up O (ky x q) n:=by
 refine sX (k9 (Sn (p:=abv (Ø n)) ⟨by simp,by simp⟩ hn) λr X=>?_);obtain⟨W,V,Y,Z⟩:=X;split
 ·rw[Nat.max_eq_left W]
  exact Lk _ _ _ Y (by omega) Z
 ·rw[show r.1=n by omega] at Z
  exact⟨Y,Z⟩
end
section
variable {α:Type} {O:Ord α} {x:Nat->α} {prog:ö} {w:Ć} {A:Đ} {E:Ì->Ç->Prop} {s:Ç}
def AJ (prog:ö) (w:Ć) (A:Đ) (O:Ord α) (x:Nat->α) (us:List Ì) (t:Ç):Prop :=
 Ü (í prog w) A (keyKind' us.toArray) (fun Z Y=>Y=t/\∀i j (C:Bool->Ç->Prop),i<us.length->j<us.length->C (O.lt (x i) (x j)) t->Ü (í prog w) A (keyLt' Z (us.getD i Value.none) (us.getD j Value.none)) C (λ_ _=>False) t) (λ_ _=>False) t
def l7 (us:List Ì) (h:us.length<2):(us.toArray.zip us.toArray).map (·.2)=((abv (Ø us.length)).toList.map λi=>us.getD i Value.none).toArray:=by
 rcases us with _ | ⟨u,_ | ⟨v,r⟩⟩
 ·exact Array.toList_inj.mp (by simp)
 ·exact Array.toList_inj.mp (by simp)
 ·(simp at h;omega)
def OH (hb:s.heap.get? b=some (ab5 "list" us.toArray m)) (hz:us.length<64)
 (hk:2<=us.length->∀h1,(∀c o,c≠b->s.heap.get? c=some o->h1.get? c=some o)->AJ prog w A O x us { s with heap:=h1 })
 (hR:∀(q:Array Nat) h' e,Pm us.length q->Up O (ky x q) us.length->(∀c o,c≠b->s.heap.get? c=some o->h'.get? c=some o)->h'.get? b=some (ab5 "list" (q.toList.map λi=>us.getD i Value.none).toArray e)->R (.done (.ret .none)) { s with heap:=h' }) :
  Ü (í prog w) A (ő.«list.sort» ⟨[.ref b],[]⟩) R E s:=by
 have B:b<s.heap.objs.size:=Ò hb;have line:us.length<=Õ:=by rw[aal];omega
 obtain⟨e1,M⟩:∃e1,(s.heap.update b (į λ_=>(#[]:Array Ì))).get? b=some (ab5 "list" #[] e1):=⟨_,get?_update_seq hb λ_=>#[]⟩;generalize U:((s.heap.update b (į λ_=>(#[]:Array Ì))).push (ab5 "tuple" us.toArray 0)).push (ab5 "list" #[] 0)=Z;have X:Z.get? b=some (ab5 "list" #[] e1):=by rw[<- U];exact Á _ (Á _ M)
 have old:∀c o,c≠b->s.heap.get? c=some o->Z.get? c=some o:=λc o W e=>by
  rw[<- U];exact Á _ (Á _ (by rw[ab2 _ _ _ _ W];exact e))
 have last:∀(q:Array Nat),Pm us.length q->Up O (ky x q) us.length->R (.done (.ret .none)) { s with heap:=Z.update b (į λ_=>(q.toList.map λi=>us.getD i Value.none).toArray) }:=λq h1 T =>
  hR q _ _ h1 T (λc o W e=>by rw[ab2 _ _ _ _ W];exact old c o W e) (get?_update_seq X λ_=>(q.toList.map λi=>us.getD i Value.none).toArray)
 rw[list_sort_plain];refine À (listItems_at hb rfl (À (listUpdate_at hb rfl ?_ (by rw[Ô];exact line) (ē _))));refine À (seqEpoch_at M rfl (À (wpAny_newTuple (À (abI (Ė ?_) (ē _))) (by show us.length<=_;exact line))))
 show Ü (í prog w) A _ R E { s with heap:=_ }
 rw[U];dsimp only;by_cases Y:us.toArray.size<2
 ·rw[ß Y,ß Y]
  refine À (Â ?_);rw[StateT.run_pure];refine À (Â ?_);dsimp only;have K:(us.toArray.zip us.toArray).map (·.2)=((abv (Ø us.length)).toList.map λi=>us.getD i Value.none).toArray:=by
   exact l7 us (by rw[<- Ô];exact Y)
  refine À (seqEpoch_at X rfl (À (listUpdate_at X rfl ?_ (ē _) ?_)))
  ·simp only[Ĩ,Ä,ê]
   show Ü _ _ _ _ _ { s with heap:=Z.update b (į λ_=>(us.toArray.zip us.toArray).map (·.2)) }
   rw[K];refine Â (last _ ⟨by simp,by simp⟩ λi j y L=>?_);rw[Ô] at Y;omega
  ·show ((us.toArray.zip us.toArray).map (·.2)).size<=Õ+1
   simp;omega
 ·rw[æ Y,æ Y]
  rw[Ô] at Y;refine À (ĝ (hk (by omega) Z old) (fun J t S=>?_) λ_ _ z=>z.elim);obtain⟨rfl,S⟩:=S
  have tree:(kas_sort us.length).kasWp (kas_ask prog w A J us) (λq t=>t={ s with heap:=Z }/\Pm us.length q/\Up O (ky x q) us.length) { s with heap:=Z } :=
   Me (c:=asks O x) (n:=us.length) (λi j C hi L I=>S i j C hi L I) (k9 (UP (by omega)) λq P=>⟨rfl,P⟩)
  refine À (ĝ (kat_run (Q:=λV t=>∃q:Array Nat,q.size=us.length/\arrOf V=q.map (kas_item (us.toArray.zip us.toArray))/\failedOf V=none/\t={ s with heap:=Z }/\Pm us.length q/\Up O (ky x q) us.length)
   rfl (by omega) hz (λq V t a1 a2 H G=>⟨q,a1,a2,H,G⟩) tree) ?_ λ_ _ z=>z)
  rintro ⟨⟨⟩,V⟩ t ⟨q,P,N,F,rfl,T,D⟩;dsimp only;rw[kat_snds rfl N];refine À (seqEpoch_at X rfl (À (listUpdate_at X rfl ?_ (ē _) ?_)))
  ·rw[F]
   simp only[Ĩ,Ä,ê];exact Â (last q T D)
  ·show ((q.toList.map λi=>us.getD i Value.none).toArray).size<=Õ+1
   rw[Ô,Ã,ý,P];omega
def QQ (hl:s.heap.IsList l us.toArray) (hz:us.length<64)
 (hk:2<=us.length->∀h1,(∀c o,s.heap.get? c=some o->h1.get? c=some o)->AJ prog w A.in1.in1 O x us { s with heap:=h1 })
 (hQ:∀(q:Array Nat) h' b e,Pm us.length q->Up O (ky x q) us.length->(∀c o,s.heap.get? c=some o->h'.get? c=some o)->s.heap.objs.size<=b->h'.get? b=some (ab5 "list" (q.toList.map λi=>us.getD i Value.none).toArray e)->Q (.ref b) { s with heap:=h' }) :
  Ü (í prog w) A (call (.builtin "sorted") [.ref l]) Q E s:=by
 have line:us.length<=Õ:=by rw[aal];omega
 refine Calls.call_function_entry kind_sorted plain_sorted entry_sorted (args_sorted1 _) ?_;unfold ő.«sorted»;refine À (m:=checkCount "sorted" 1 1 _) (Â (À (collect_list hl (À (abI ?_ line)) line)));generalize X:((s.heap.push (ab5 "list" #[] 0)).update s.heap.objs.size (į (·++us.toArray)))=h1;have W:h1.objs.size=s.heap.objs.size+1:=by rw[<- X,Heap.size_update,size_push']
 have U:∀c o,s.heap.get? c=some o->h1.get? c=some o:=λc o e=>by
  have Z:c<s.heap.objs.size:=Ò e;rw[<- X,ab2 _ _ _ _ (ë Z)];exact Á _ e
 show Ü _ _ _ _ _ { s with heap:=h1.push (ab5 "list" us.toArray 0) }
 have V:(h1.push (ab5 "list" us.toArray 0)).get? h1.objs.size=some (ab5 "list" us.toArray 0):=Ð _ rfl;have old:∀c o,s.heap.get? c=some o->c≠h1.objs.size/\(h1.push (ab5 "list" us.toArray 0)).get? c=some o:=λc o e=>by
  have Z:c<s.heap.objs.size:=Ò e;exact⟨ë (by rw[W];exact ĩ Z),Á _ (U c o e)⟩
 refine À (Ė (ÿ slot_list_sort ⟨_,V,rfl⟩ entry_list_sort (OH V hz (λz h' Y=>hk z h' λc o e=>Y c o (old c o e).1 (old c o e).2) λq h' e T S Y R=>⟨_,rfl,?_⟩) (args_list_sort _)));exact Â ⟨_,rfl,hQ q h' _ e T S (λc o e=>Y c o (old c o e).1 (old c o e).2) (by show _<=h1.objs.size;rw[W];exact Ů _) R⟩
end
open HT
def CO:∀a:List Int,lexLt a a=false:=λa=>by
 induction a with
 |nil=>rfl
 |cons i r ih=>rw[j9,ß rfl];exact ih
def Wx:∀a b c:List Int,lexLt a b=true->lexLt b c=true->lexLt a c=true:=λa=>by
 induction a with
 |nil =>
  intro b c h g
  cases b with
  |nil=>cases h
  |cons j s=>cases c with
   |nil=>cases g
   |cons k t=>rfl
 |cons i r ih =>
  intro b c h g
  cases b with
  |nil=>cases h
  |cons j s =>
   cases c with
   |nil=>cases g
   |cons k t =>
    rw[j9] at h g |-;by_cases e1:i=j
    ·subst e1
     rw[ß rfl] at h;by_cases e2:i=k
     ·rw[ß e2] at g |-;exact ih s t h g
     ·rw[æ e2] at g |-;exact g
    ·rw[æ e1] at h
     have h:=ı h;by_cases e2:j=k
     ·subst e2
      rw[æ e1];exact à h
     ·rw[æ e2] at g
      have g:=ı g;rw[æ (by omega)];exact à (by omega)
def UQ:∀a b:List Int,lexLt a b=false->lexLt b a=false->a=b:=λa=>by
 induction a with
 |nil =>
  intro b h g
  cases b with
  |nil=>rfl
  |cons j s=>cases h
 |cons i r ih =>
  intro b h g
  cases b with
  |nil=>cases g
  |cons j s =>
   rw[j9] at h g;by_cases e:i=j
   ·subst e
    rw[ß rfl] at h g;rw[ih s h g]
   ·rw[æ e] at h
    rw[æ (œ e)] at g;have h:=of_decide_eq_false h;have g:=of_decide_eq_false g;omega
section
variable {prog:ö} {w:Ć} {A:Đ} {E:Ì->Ç->Prop} {s:Ç}
inductive pb (h:Ţ):List Ì->List (List Int)->Prop where
 |nil:pb h [] []
 |cons {a:â} {its:Array Ì} {ns:List Int} {us:List Ì} {kS:List (List Int)}:IsTup h a its->abb its.toList ns->pb h us kS->pb h (.ref a::us) (ns::kS)
def pb.keep (k:∀c o,h.get? c=some o->h'.get? c=some o) (t:pb h us kS):pb h' us kS:=by
 induction t with
 |nil=>exact .nil
 |cons a b _ ih =>
  obtain⟨o,Z,r⟩:=a;exact .cons ⟨o,k _ _ Z,r⟩ b ih
theorem pb.at (t:pb h us kS):∀i,i<us.length->∃a its,us.getD i Value.none=.ref a/\IsTup h a its/\abb its.toList (kS.getD i []):=by
 induction t with
 |nil=>intro i hi;simp at hi
 |cons a b _ ih =>
  intro i hi
  cases i with
  |zero=>exact⟨_,_,rfl,a,b⟩
  |succ i =>
   obtain⟨c,its,e,r⟩:=ih i (by simpa using hi);exact⟨c,its,by simpa using e,r⟩
inductive xX:List (Option Ì)->List (List Int)->Prop where
 |nil:xX [] []
 |au {fs:List (Option Ì)} {kS:List (List Int)}:xX fs kS->xX (none::fs) ([]::kS)
 |one {fs:List (Option Ì)} {kS:List (List Int)} {n:Int} {t:Tok} {r:List Int}:xX fs kS->xX (some (.int n t)::fs) ((n::r)::kS)
noncomputable def ins {α:Type} (O:Ord α) (a:α):List α->List α
 | []=>[a]
 |b::r=>if O.lt b a=true then b::ins O a r else a::b::r
def kC {α:Type} (O:Ord α):List α->List α
 | []=>[]
 |a::r=>ins O a (kC O r)
end
section
variable {α:Type} {O:Ord α}
def Jk (a:α) (l:List α):(ins O a l).Perm (a::l):=by
 induction l with
 |nil=>exact .refl _
 |cons b r ih =>
  unfold ins;split
  ·exact(List.Perm.cons b ih).trans (List.Perm.swap a b r)
  ·exact .refl _
def vi (l:List α):(kC O l).Perm l:=by
 induction l with
 |nil=>exact .refl _
 |cons a r ih=>exact(Jk a _).trans (ih.cons a)
def Wy (a:α) (l:List α) (h:l.Pairwise O.le):(ins O a l).Pairwise O.le:=by
 induction l with
 |nil=>exact aa2 _ _
 |cons b r ih =>
  obtain⟨X,W⟩:=ą.mp h;unfold ins
  split<;>rename_i Z
  ·refine ą.mpr ⟨λc Y=>?_,ih W⟩
   rcases Ó.mp ((Jk a r).mem_iff.mp Y) with e|e
   ·rw[e];exact Ord.le_of_lt Z
   ·exact X c e
  ·have Z:O.le a b:=by rw[aaa] at Z;exact Z
   refine ą.mpr ⟨λc Y=>?_,h⟩
   rcases Ó.mp Y with e|e
   ·rw[e];exact Z
   ·exact Ord.tY Z (X c e)
def Jl (l:List α):(kC O l).Pairwise O.le:=by
 induction l with
 |nil=>exact .nil
 |cons a r ih=>exact Wy a _ ih
def QR:∀{l m:List α},l.Perm m->l.Pairwise O.le->m.Pairwise O.le->l=m:=by
 intro l
 induction l with
 |nil=>intro m h _ _;exact h.nil_eq
 |cons a r ih =>
  intro m h Z Y
  cases m with
  |nil=>exact absurd h.length_eq (by simp)
  |cons b t =>
   obtain⟨a1,a2⟩:=ą.mp Z;obtain⟨X,W⟩:=ą.mp Y;have e:a=b:=by
    rcases Ó.mp (h.mem_iff.mp Î) with e|e
    ·exact e
    ·rcases Ó.mp (h.mem_iff.mpr Î) with e'|e'
     ·exact e'.symm
     ·exact Ord.Md (a1 b e') (X a e)
   subst e;rw[ih h.cons_inv a2 W]
def QS (hp:Pm xs.length q) (hu:Up O (ky (λi=>xs.getD i d) q) xs.length):q.toList.map (λi=>xs.getD i d)=kC O xs:=by
 refine QR ?_ ?_ (Jl xs)
 ·refine(hp.2.map _).trans ?_
  have:(Ø xs.length).map (λi=>xs.getD i d)=xs:=by
   apply Ŗ;intro i;by_cases hi:i<xs.length
   ·simp[hi]
   ·simp[hi,ψ hi]
  rw[this];exact(vi xs).symm
 ·rw[List.pairwise_iff_getElem]
  intro i j hi W Y;have V:(q.toList.map λi=>xs.getD i d).length=xs.length:=by rw[Ã,ý,hp.1]
  have Z:j<q.size:=by rw[hp.1];omega
  have X:i<q.size:=by omega
  have:=hu i j Y (by omega);unfold ky at this;simpa [abd,X,Z] using this
end
end ST
namespace DI
open PySem L2
section
variable {X:Cx} {Ξ:Wd->bt->Prop} {a e tg:Ņ} {p pos:Pos} {f:acn D} {fa:acn (List D)}
noncomputable def qR (n:Nat):List D:=(Ø n).map λi:Nat=>D.int ((n:Int)-1-i)
def QT (n:Nat):(qR n).length=n:=by simp[qR]
def QU (n i:Nat):(qR n)[i]?=if i<n then some (.int ((n:Int)-1-i)) else none:=by
 unfold qR;rw[á];split
 ·rename_i h;rw[č h];rfl
 ·rename_i h;rw[ú (by simp;omega)];rfl
def Ll:mi K w (Ay n) (qR n):=λX V W i=>by
 refine⟨λd Z=>?_,λY=>by rw[QT] at Y;exact Y⟩;rw[QU] at Z;split at Z
 ·cases Z
  exact⟨by assumption,λx U ⟨e1,e2⟩=>⟨X,e1.symm,Le.refl _,W,rfl,e2⟩⟩
 ·cases Z
def Gf (fa:acn (List D)):acn (List D):=λenv s=>ao (fa env s) λZ s=>match Z with
 | [.int j]=>if (kz j&&decide (0<=j))=true then ok (qR j.toNat) s else none
 |_=>none
def XW {p2 lM:Pos} (hg:Gl X "reversed") (hm:X.mg "reversed"=none) (FV:Gl X "range") (FW:X.mg "range"=none) (ha:PA X [a] (tA X.K Ξ fa))
  (he:Þ [a] X.env=(false,ś a X.env)::Þ [] X.env:=by rfl) (dA:(χ lM (Þ [] X.env)).any (·.1)=false:=by rfl)
  (hs:Þ [.Call (.Name "range" p2) [a] [] lM] X.env=[(false,ś (.Call (.Name "range" p2) [a] [] lM) X.env)]:=by rfl)
  (oo:Þ [.Call (.Name "range" p2) [a] [] lM] X.env=(false,ś (.Call (.Name "range" p2) [a] [] lM) X.env)::Þ [] X.env:=by rfl) :
  PI X tg (.Call (.Name "reversed" p) [.Call (.Name "range" p2) [a] [] lM] [] pos) (dC X.K Ξ (Gf fa)) :=
 tD (Wl hg hm (kY (BM O3 FV FW (by decide +kernel) ha (by decide) (by decide) he dA) nM oo) hs) fun σ H R V=>by
  obtain⟨w,env,U,S,T,h⟩:=V;subst U;refine⟨w,env,rfl,S,T,(Out.ao h).mono λQ M L P Z J O=>?_⟩;split at Z
  ·rename_i j
   split at Z
   ·rename_i Y
    simp only[kz,Ê,È] at Y;obtain⟨v,r,rfl,N,dr⟩:=O;have e1:v=.int j:=N;have e2:r=[]:=dr;subst e1 e2;refine⟨j,rfl,λq W=>?_⟩;refine⟨q,j.toNat,rfl,?_,by omega,?_⟩
    ·rw[eT,Int.toNat_of_nonneg Y.2]
    ·exact Z (Q.grow q (.bS 0 j)) (Fw.grow W).le (P.grow W) rfl _ Ll
   ·exact Z.elim
  ·exact Z.elim
end
end DI
namespace L2
open PySem PySem.Spec PyProof.Rows
structure Lm (sc:aaB) (cl iN:List (Str×â)) (C:Nat) (h:Ţ):Prop where
 old:∀n c,iN.lookup n=some c->(C<c/\(n,NameKind.cell)∈sc.names/\∃v,h.IsCell c v)\/cl.lookup n=some c
 own:∀n,sc.names.lookup n=some .cell\/(cl.lookup n).isSome=true->∃c,iN.lookup n=some c
 inj:(∀x y c,cl.lookup x=some c->cl.lookup y=some c->x=y)->(∀x c,cl.lookup x=some c->c<C)->∀x y c,iN.lookup x=some c->iN.lookup y=some c->x=y
theorem BS:∀(names:List (Str×aau)) (n:Nat) (acc:List (Str×â)),(aaD n names acc).lookup x=some c->((x,NameKind.cell)∈names/\n<=c)\/acc.lookup x=some c
 | [],n,acc,h=>.inr h
 |(y,k)::r,n,acc,h=>by
  unfold aaD at h;split at h
  ·rename_i Z
   have Z:k=.cell:=by simpa using Z
   subst Z
   rcases BS r (n+1) _ h with ⟨h1,Y⟩|h1
   ·exact .inl ⟨Ï _ h1,by omega⟩
   ·rw[Ŏ] at h1
    split at h1
    ·rename_i e
     have e:x=y:=by simpa using e
     subst e;cases h1;exact .inl ⟨Î,acr _⟩
    ·exact .inr h1
  ·rcases BS r n acc h with ⟨h1,Y⟩|h1
   ·exact .inl ⟨Ï _ h1,Y⟩
   ·exact .inr h1
theorem BU:∀(names:List (Str×aau)) (n:Nat) (acc:List (Str×â)),(∀x y c,acc.lookup x=some c->acc.lookup y=some c->x=y)->(∀x c,acc.lookup x=some c->c<n)->∀x y c,(aaD n names acc).lookup x=some c->(aaD n names acc).lookup y=some c->x=y
 | [],n,acc,hi,X=>hi
 |(z,k)::r,n,acc,hi,X=>by
  unfold aaD;split
  ·refine BU r (n+1) _ (λx y c Z Y=>?_) λx c Z=>?_
   ·rw[Ŏ] at Z Y
    split at Z
    ·rename_i e1
     split at Y
     ·rename_i e2
      exact(by simpa using e1:x=z).trans (by simpa using e2:y=z).symm
     ·cases Z
      exact absurd (X y _ Y) (ì _)
    ·split at Y
     ·cases Y
      exact absurd (X x _ Z) (ì _)
     ·exact hi x y c Z Y
   ·rw[Ŏ] at Z
    split at Z
    ·cases Z;exact aad _
    ·exact ĩ (X x c Z)
  ·exact BU r n acc hi X
theorem Cc {lo:Nat}:∀(names:List (Str×aau)) (h:Ţ) (acc:List (Str×â)),lo<=h.objs.size->(∀x c,acc.lookup x=some c->lo<=c->h.IsCell c none)->(aaD h.objs.size names acc).lookup x=some c->lo<=c->(pushCells h names).IsCell c none
 | [],h,acc,_,Z,e,Y=>Z x c e Y
 |(z,k)::r,h,acc,V,Z,e,Y=>by
  unfold aaD at e;unfold pushCells;split at e
  ·rename_i W
   rw[ß W];have U:(h.push { cls:=.type "cell",data:=.cell none }).objs.size=h.objs.size+1:=đ ..;refine Cc (lo:=lo) r _ ((z,h.objs.size)::acc) (by omega) (λy d X T=>?_) (by rw[U];exact e) Y;rw[Ŏ] at X;split at X
   ·cases X
    exact⟨_,Ð _ rfl,rfl⟩
   ·exact(Z y d X T).keeps λb o q=>Á _ q
  ·rename_i W
   rw[æ W];exact Cc r h acc V Z e Y
def Oo {E:Ì->Ç->Prop} {Q:Env->Ç->Prop}
 (hQ:∀iN h3,((∀x c,cl.lookup x=some c->c<s.heap.objs.size)->Lm scope cl iN s.heap.objs.size h3)->h3.Ns s.heap.objs.size (λ_=>none)->(∀b o,s.heap.get? b=some o->h3.get? b=some o)->Q (newEnv scope s.heap.objs.size globals iN qual none .none (some env) bi) { s with heap:=h3 }) :
  Ü M A (newFunctionEnv scope globals cl [] qual none .none (some env) bi) Q E s:=by
 simp only[newFunctionEnv,Option.isSome_some,ô];refine À (wpAny_alloc ?_)
 refine À (wpAny_layCells _ (λname kind cells=>by cases Z:kind==NameKind.cell<;>simp[Z]) _ _ _ _ ?_)
 rw[show ({ s with heap:=s.heap.push { cls:=.type "dict",data:=.dict #[] } }:Ç).heap.objs.size=s.heap.objs.size+1 from đ ..]
 simp only[List.forIn_nil];refine À (Â (Â ?_));have Y:(s.heap.push { cls:=.type "dict",data:=.dict #[] }).objs.size=s.heap.objs.size+1:=đ ..;refine hQ (aaD (s.heap.objs.size+1) scope.names cl) _ (λX=>⟨λn c e=>?_,λn W=>?_,λhi V=>BU _ _ _ hi λx c e=>ĩ (V x c e)⟩) ((Heap.Ns.new s.heap (.type "dict")).keeps (pushCells_keeps _ _)) λb o e=>pushCells_keeps _ _ b o (Á _ e)
 ·rcases BS _ _ _ e with ⟨h1,U⟩|h1
  ·exact .inl ⟨by omega,h1,none,Cc (lo:=s.heap.objs.size+1) scope.names _ cl (by omega) (λx d q T=>absurd (X x d q) (Nat.not_lt.mpr (Nat.le_of_succ_le T))) (by rw[Y];exact e) U⟩
  ·exact .inr h1
 ·exact Option.isSome_iff_exists.mp (aa8 scope.names _ cl W)
abbrev cx (X:Cx) (N:List Str) (sc:aaB) (cl:List (Str×â)) (C:â) (s:Ç) (H:Hp) (ex:List â) (pn:List (â×Obj)):Cx:={ cw X N sc cl C s H ex pn with fn:=λx=>sc.names.lookup x==some .cell }
structure ki (X:Cx) (sc:aaB) (N:List Str) (nt:Nat) (cap:List Nat):Prop where
 kind:sc.kind=.function
 names:∀x∈sc.names,x.2=.local->sc.names.lookup x.1=some .local
 cells:∀x∈sc.names,x.2=.cell->sc.names.lookup x.1=some .cell
 frees:∀x∈sc.names,x.2=.free->sc.names.lookup x.1=some .free/\(X.env.scope.names.lookup x.1=some .cell\/X.env.scope.names.lookup x.1=some .free)
 len:N.length=nt+cap.length
 EN:∀(k:Nat) j,cap[k]?=some j->∃x,X.N[j]?=some x/\N[nt+k]?=some x/\(x,Ą)∈sc.names
section
variable {X:Cx} {sc:aaB} {N:List Str} {nt:Nat} {cap:List Nat} {cl iN:List (Str×â)} {s:Ç} {h1:Ţ} {H:Hp} {σ:St} {π:List (â×Obj)} {fp:List â} {C:â} {t':Nat}
def Inv.Wz (I:Inv X π σ H s) (S:ki X sc N nt cap) (dE:∀n c,cl.lookup n=some c↔((n,Ą)∈sc.names/\X.env.cells.lookup n=some c)) (jh:Lm sc cl iN C h1) (hf:∀b∈fp,cu X π H b) (iK:∀b∈fp,b<s.heap.objs.size)
  (hk:∀b o,s.heap.get? b=some o->h1.get? b=some o) (hC:s.heap.objs.size<=C) (uH:∃m,h1.Ns C m):Inv (cx X N sc iN C s H fp (X.pn++π)) [] (mL nt cap σ) H { s with heap:=h1,toks:=t' }:=by
 have O:∀b∈iJ X.stack,b∈X.env.locals::X.fs:=I.lh;have J:∀x c,cl.lookup x=some c->c<s.heap.objs.size:=λx c e=>by
  obtain⟨v,o,V,_⟩:=I.cell x c ((dE x c).mp e).2;exact Ò V
 have G:∀x,(relabel sc X.env).names.lookup x=some .cell\/(relabel sc X.env).names.lookup x=some .free->(x,Ą)∈sc.names\/sc.names.lookup x=some .cell:=λx Z=>by
  rw[yn] at Z
  cases e:sc.names.lookup x with
  |none=>rw[e] at Z;rcases Z with z|z<;>cases z
  |some k =>
   have hm:(x,k)∈sc.names:=by
    obtain⟨l1,l2,e1,_⟩:=List.lookup_eq_some_iff.mp e;rw[e1];simp
   rw[e] at Z
   cases k with
   |free=>exact .inl hm
   |cell=>exact .inr rfl
   |_=>exfalso;revert Z;simp
 have F:∀x,(x,Ą)∈sc.names->∃c,X.env.cells.lookup x=some c:=λx Z=>I.ok.has x (S.frees _ Z rfl).2;have M:∀x c,(x,Ą)∈sc.names->X.env.cells.lookup x=some c->iN.lookup x=some c:=λx c Z R=>by
  have e:=(dE x c).mpr ⟨Z,R⟩;obtain⟨d,hd⟩:=jh.own x (.inr (by rw[e];rfl))
  rcases jh.old x d hd with ⟨_,q,_⟩|q
  ·have T:=S.cells _ q rfl
   have W:=(S.frees _ Z rfl).1;dsimp only at T W;rw[T] at W;cases W
  ·rw[e] at q
   cases q;exact hd
 have ok:Cx.Ok (cx X N sc iN C s H fp (X.pn++π)):=by
  refine⟨I.ok.mod,?_,I.ok.glob,I.ok.blt,hC,?_,?_,?_,I.ok.hd,I.ok.frames,.inl rfl,?_,I.bs,Û I.ok.jB I.sz,?_,?_,I.stack,I.Cw⟩
  ·exact S.kind
  ·exact jh.inj (λx y c Z E=>I.ok.inj x y c ((dE x c).mp Z).2 ((dE y c).mp E).2) λx c e=>É (J x c e) hC
  ·intro x Z
   rcases G x Z with hm|hm
   ·obtain⟨c,e⟩:=F x hm
    exact⟨c,M x c hm e⟩
   ·exact jh.own x (.inl hm)
  ·intro x c Z e
   rcases jh.old x c e with ⟨q,_,_⟩|q
   ·exact Û hC (Nat.le_of_lt q)
   ·have W:=(S.frees _ ((dE x c).mp q).1 rfl).1
    have T:sc.names.lookup x=some .cell:=by simpa using Z
    dsimp only at W;rw[T] at W;cases W
  ·intro b Y
   refine⟨ë (É (iK b Y) hC),λx c e=>?_⟩
   rcases jh.old x c e with ⟨q,_,_⟩|q
   ·exact Ŝ (É (iK b Y) (Û hC (Nat.le_of_lt q)))
   ·exact(hf b Y).2.2.2.2.1 x c ((dE x c).mp q).2
  ·intro b o e Y
   rcases(hf b Y).2.2.2.1 with z|z
   ·exact I.ok.mW b o e z
   ·exact absurd (É (Ò e) (Û I.ok.jB z)) (ì _)
  ·intro b Y z
   rcases Ó.mp (O b z) with e|e
   ·exact(hf b Y).2.1 e
   ·exact(hf b Y).2.2.1 e
 obtain⟨m,hm⟩:=uH;obtain⟨mX,ZC,D⟩:=I.loc;refine⟨ok,rfl,I.bare,Un.kept hk,⟨m,hm,λi x v e1 e2 e3=>?_⟩,λx c e=>?_,I.aH.fresh hC,λx c e=>?_,λp B=>?_,I.aH.kept hk,?_⟩
 ·
  have hi:nt<=i:=by
   apply ψ;intro L;have:(mL nt cap σ)[i]?=some none:=by
    unfold mL;rw[ã (by simpa using L),Ĵ,ß L]
   rw[this] at e2;cases e2
  have U:(cap.map λj=>(σ[j]?).getD none)[i-nt]?=some (some v):=by
   have e:=e2;unfold mL at e;rw[þ (by simpa using hi)] at e;simpa using e
  rw[á] at U
  cases Q:cap[i-nt]? with
  |none=>rw[Q] at U;cases U
  |some j =>
   rw[Q] at U;have ev:(σ[j]?).getD none=some v:=acs U;have A:σ[j]?=some (some v):=by
    cases q:σ[j]? with
    |none=>rw[q] at ev;cases ev
    |some z=>rw[q] at ev;exact Ŀ some ev
   obtain⟨y,f1,f2,K⟩:=S.EN _ _ Q;rw[Nat.add_sub_cancel' hi] at f2;have w:y=x:=acs (f2.symm.trans e1);subst w;obtain⟨g1,g2⟩:=S.frees _ K rfl;have t:w6 X.env.scope y:=.inr g2;obtain⟨u,r,l⟩:=D j y v f1 A t;refine⟨u,r,.inr ⟨?_,?_⟩⟩
   ·show (relabel sc X.env).names.lookup y=some .cell\/(relabel sc X.env).names.lookup y=some .free
    rw[yn,g1];simp only[Ŭ];split
    ·exact .inl rfl
    ·exact .inr rfl
   ·rcases l with ⟨k,_⟩ | ⟨_,c,R,h⟩
    ·exfalso
     have g:X.env.scope.names.lookup y=some .local:=k;dsimp only at g2;rw[g] at g2
     rcases g2 with z|z<;>cases z
    ·obtain⟨P,V,hd⟩:=h
     exact⟨c,M y c K R,P,hk _ _ V,hd⟩
 ·rcases jh.old x c e with ⟨_,_,q⟩|q
  ·exact q
  ·obtain⟨v,P,V,hd⟩:=I.cell x c ((dE x c).mp q).2
   exact⟨v,P,hk _ _ V,hd⟩
 ·rcases jh.old x c e with ⟨q,_,_⟩|q
  ·exact I.aH.fresh (by omega)
  ·exact I.fN x c ((dE x c).mp q).2
 ·have f:p∈X.pn++π:=by simpa using B
  obtain⟨e,n,ne,a,d⟩:=I.pin p f;refine⟨hk _ _ e,n,ë (É (Ò e) hC),λz=>?_,d⟩
  rcases Ó.mp (O p.1 z) with q|q
  ·exact ne q
  ·exact a q
 ·unfold mL
  rw[é,aan,Ã];exact S.len.symm
end
structure D7 (P:ö) (w:Ć) (E el tg src:Ņ) (tests:List Ņ) (new:Sem Ì) (ap:String) (mk:â->List V->HO) (lY:List V->Prop) where
 o0:Obj
 live:o0.isFreed=false
 Ac:â->List V->Ţ->Prop
 clauses:clausesOf E=[⟨tg,src,tests,0⟩]
 turns:∀{A:Đ} {R:Result->Ç->Prop} {s:Ç} {fV av:Ì} {ce:Env} (J:Nat->Ç->Prop)
  (turn:∀n s,J n s->Ü (í P w) A (Š fV) (λr s1=>match r with
   |none=>R (.ok .next) s1
   |some v=>Ü (í P w) A (Ń tg fV v) (λ_ s2=>Ü (í P w) A (aai tg ce v) (λ_ s3 =>
     Ü (í P w) A (forIn tests true λc r=>if r=true then do let ok <- aci c ce (ś c ce);pure (ŋ ok) else pure (ŋ r)) (λok s4 =>
      if ok=true then Ü (í P w) A (ś el ce) (λy s5=>Ü (í P w) A (call (.builtin ap) [av,y]) (λ_ s6=>∃m,m<n/\J m s6) (λ_ _=>False) s5) (λ_ _=>False) s4
      else ∃m,m<n/\J m s4) (λ_ _=>False) s3) (λ_ _=>False) s2) (λ_ _=>False) s1) (λ_ _=>False) s)
  (n:Nat) (_:J n s),ū (í P w) A (.compLoop E 0 fV av ce) R s
 new:∀{A:Đ} {X:Ì->Ç->Prop} {s:Ç} {Q:Ì->Ç->Prop},Q (.ref s.heap.objs.size) { s with heap:=s.heap.push o0 }->Ü (í P w) A new Q X s
 start:∀{A:Đ} {R:Result->Ç->Prop} {s:Ç} {it acc:Ì} {env:Env},ū (í P w) A (.compLoop E 0 it acc env) R s->Ü (í P w) A (acj it) (λiM s'=>ū (í P w) A (.compLoop E 0 iM acc env) R s') (notedBy (í P w) A env λx s'=>R (.error x) s') s->ū (í P w) A (.compStart E 0 it acc env) R s
 init:∀{D:â} {h:Ţ},h.get? D=some o0->Ac D [] h
 obj:∀{D:â} {acc:List V} {h:Ţ},Ac D acc h->∃o,h.get? D=some o/\∀v,o.data≠.cell v
 gb:∀{D:â} {acc:List V} {h h':Ţ},Ac D acc h->(∀o,h.get? D=some o->h'.get? D=some o)->Ac D acc h'
 Dy:∀{D:â} {acc:List V} {h:Ţ} {H:Hp},lY acc->Ac D acc h->dX P w (upd H D (mk D acc)) h D (mk D acc)
 add:∀{A:Đ} {s:Ç} {D:â} {acc:List V} {v:V} {y:Ì} {Q:Ì->Ç->Prop},Ac D acc s.heap->RelV v y->lY acc->lY (acc++[v])->(∀h' tk,Ľ D s.heap h'->Ac D (acc++[v]) h'->Q .none { s with heap:=h',toks:=tk })->Ü (í P w) A (call (.builtin ap) [.ref D,y]) Q (λ_ _=>False) s
section
variable {X:Cx}
def BF {E el tg src:Ņ} {tests:List Ņ} {sc:aaB} {N:List Str} {nt:Nat} {cap:List Nat} {wi:TI} {g:TG} {tf:TT} {te:TE} {p1:Pos} {use:Option (Ì->Sem Unit)} {R:Ì->Ç->Prop} {π:List (â×Obj)} {s:Ç} {σ:St} {H:Hp} {Q:VK} {new:Sem Ì} {ap:String} {mk:â->List V->HO} {lY:List V->Prop} (B:D7 X.prog X.w E el tg src tests new ap mk lY) (hc:X.calm=true) (S:ki X sc N nt cap) (ff:lX g nt) (hi:PI X tg src wi)
  (hY:∀(cl:List (Str×â)) (C:â) (s:Ç) (H:Hp) (ex:List â) (pn:List (â×Obj)),PG (cx X N sc cl C s H ex pn) tg g/\PF (cx X N sc cl C s H ex pn) tests tf/\PE (cx X N sc cl C s H ex pn) el te)
  (hs:∀x,ï src X.env x=pure x) (I:Inv X π σ H s) (h:wi σ H λJ H1=>Fv mk lY J nt (lq cap σ) g tf te H1 Q)
  (rm:∀(s':Ç) (H1:Hp) (D C:â) (m:Str->Option Ì),(∀h',Ľ C s'.heap h'->Inv X π σ H1 { s' with heap:=h' })->s'.heap.Ns C m->H1 C=none->C≠X.env.locals->C∉X.fs->X.eM.heap.objs.size<=C->(∀x c,X.env.cells.lookup x=some c->c≠C)->(∀p∈X.pn++π,p.1≠C)->Q (.ref D) H1->compPost (í X.prog X.w) X.A X.xe use R (.ref D) C (.ok .next) s') :
  Ü (í X.prog X.w) X.A (comprehension E sc X.env p1 new false (ś src X.env) use) R X.xe s:=by
 obtain⟨cl,wb,dE⟩:=Di (env:=X.env) (sc:=sc) λn hn=>I.ok.has n (S.frees _ hn rfl).2;refine aaU (use:=use) B.clauses hs wb S.kind S.names (aG (hi π s σ H _ I h) λxv s1 h1=>aG h1 λfV k h2=>?_);obtain⟨it,t,tn,J,H2,e,M,T,fJ,f2,W,⟨m0,w0⟩,turn⟩:=h2;subst e;refine B.new (Oo λiN h3 j iG pN=>?_);dsimp only at j iG pN |-;generalize hD:k.heap.objs.size=D at j iG pN |-;generalize hG:k.heap.push B.o0=G at j iG pN |-;generalize xI:G.objs.size=C at j iG pN |-;have hC:C=D+1:=by rw[<- xI,<- hG,đ,hD]
 have mr:D≠C:=by omega
 have d:k.heap.objs.size<=D:=ŝ hD;have l:k.heap.objs.size<=C:=by omega
 have old:∀b o,k.heap.get? b=some o->h3.get? b=some o:=λb o e=>pN b o (hG ▸ Á _ e);have iR:B.Ac D [] h3:=B.init (pN _ _ (hG ▸ hD ▸ Ð _ B.live));have iK:∀b∈t,b<k.heap.objs.size:=λb P=>by
  obtain⟨o,e,_⟩:=T.obj _ _ fJ b P;exact Ò e
 have j:=j λx c e=>by
  obtain⟨v,o,ho,_⟩:=M.cell x c ((dE x c).mp e).2;exact É (Ò ho) l
 have IB:=M.Wz (t':=k.toks) S dE j f2 iK old l ⟨_,iG⟩;have xJ:D∉iJ X.stack:=λz=>by
  rcases Ó.mp (M.lh D z) with e|e
  ·exact absurd (É M.lt d) (by rw[e];exact ì _)
  ·exact M.qX d e
 have mm:D∉t:=λz=>absurd (É (iK D z) d) (ì _);have vK:∀x c,iN.lookup x=some c->c≠D:=λx c e z=>by
  rcases j.old x c e with ⟨q,_,_⟩|e
  ·rw[z] at q
   exact absurd q (by rw[hC];exact Nat.not_lt.mpr (Ů D))
  ·obtain⟨v,o,ho,_⟩:=M.cell x c ((dE x c).mp e).2
   exact absurd (É (Ò ho) (by rw[z];exact d)) (ì _)
 have wc:∀p∈X.pn++π,p.1≠D:=λp L z=>absurd (É (Ò (M.pin p L).1) (by rw[z];exact d)) (ì _);generalize O:cx X N sc iN C k H2 t (X.pn++π)=Y at IB;have mq:∀{U:Hp} {pl:List (â×Obj)},(∀b∈t,U b=none)->(∀p∈pl,p.1∉t)->∀b∈t,cu Y pl U b:=λ{U pl} hn L b P=>by
  subst O;obtain⟨_,f1,oq,f3,f4,f5⟩:=f2 b P;refine⟨hn b P,ë (É (iK b P) l),λz=>?_,.inl P,λx c e=>(j.old x c e).elim (λq z=>Ŝ (É (iK b P) (Û l (Nat.le_of_lt q.1))) z) λe=>f4 x c ((dE x c).mp e).2,λp r9=>?_⟩
  ·rcases Ó.mp (M.lh b z) with e|e
   ·exact f1 e
   ·exact oq e
  ·rcases ä.mp r9 with z|z
   ·exact f5 p z
   ·exact λe=>L p z (e ▸ P)
 have xK:PG Y tg g:=by subst O;exact(hY _ _ _ _ _ _).1
 have xM:PF Y tests tf:=by subst O;exact(hY _ _ _ _ _ _).2.1
 have hE1:PE Y el te:=by subst O;exact(hY _ _ _ _ _ _).2.2
 have eP:Y.prog=X.prog:=by subst O;rfl
 have eW:Y.w=X.w:=by subst O;rfl
 have eA:Y.A=X.A:=by subst O;rfl
 have eK:Y.K=X.K:=by subst O;rfl
 have eE:Y.env=compEnvC sc iN C X.env:=by subst O;rfl
 have eX:Y.xe=λ_ _=>False:=by subst O;rfl
 have eC:Y.calm=true:=by subst O;exact hc
 have eS:Y.eM.heap.objs.size<=D:=by subst O;exact d
 have eF:D∉Y.fs:=by subst O;exact xJ
 have eL:D≠Y.env.locals:=by subst O;exact mr
 have eCl:∀x c,Y.env.cells.lookup x=some c->c≠D:=by subst O;exact vK
 have eN:∀p∈Y.pn,p.1≠D:=by subst O;exact wc
 have fin:∀(s':Ç) (a:St) (U:Hp) (Z:List V),Inv Y [] a U s'->B.Ac D Z s'.heap->U D=none->lY Z->(∀D,U D=none->Q (.ref D) (upd U D (mk D Z))) ->
   compPost (í X.prog X.w) X.A X.xe use R (.ref D) C (.ok .next) s':=by
  intro s' a U Z F pl hn hz q;subst O;obtain⟨m,hm,_⟩:=id F.loc;refine rm s' (upd U D (mk D Z)) D C m (λh' sb=>?_) hm ?_ (λz=>absurd (É M.lt l) (by rw[z];exact ì _)) (M.qX l) (Û M.sz l) (λx c e z=>?_) (λp L z=>absurd (É (Ò (M.pin p L).1) (by rw[z];exact l)) (ì _)) (q D hn)
  ·have wL:cM X.prog X.w U h':=F.aH.but F.free sb
   have u:=(F.base.but l sb).adopt (o:=mk D Z) d hn
   refine M.zU (s':={ s' with heap:=h' }) (ch:=t) F.os u (wL.adopt hn (B.Dy hz (B.gb pl λo e=>(sb.2 D mr).trans e))) F.bare (λb P=>?_)
   obtain⟨_,f1,_,f3,f4,f5⟩:=f2 b P;exact⟨f3,f1,f4,f5⟩
  ·rw[bK (œ mr)]
   exact F.free
  ·obtain⟨v,o,jC,_⟩:=M.cell x c e
   exact absurd (É (Ò jC) (by rw[z];exact l)) (ì _)
 have loop:ū (í X.prog X.w) X.A (.compLoop E 0 (.ref it) (.ref D) (compEnvC sc iN C X.env)) (compPost (í X.prog X.w) X.A X.xe use R (.ref D) C)
   { k with heap:=h3 }:=by
  refine B.turns (λn s'=>∃i Z o U,Inv Y [] (o++lq cap σ) U s'/\o.length=nt/\tn i s'.heap/\(∀b∈t,U b=none)/\B.Ac D Z s'.heap/\U D=none/\W i n Z U) ?_ m0
   ⟨0,[],Ñ nt none,H2,IB,by simp,T.keep _ _ _ fJ λb _ o e=>old b o e,λb P=>(f2 b P).1,iR,M.aH.fresh d,w0⟩
  rintro n s3 ⟨i,Z,o3,H3,I3,NC,jY,pA,ND,nD3,w3⟩;generalize hτ:o3++lq cap σ=a at I3;obtain⟨f,ho,XX⟩:=B.obj ND;have xG:Inv Y [(D,f)] a H3 s3:=I3.i7 λp L=>by
   have e:p=(D,f):=by simpa using L
   subst e;exact⟨ho,nD3,eL,eF,XX⟩
  have sd:∀p∈[(D,f)],p.1∉t:=λp L=>by
   have e:p=(D,f):=by simpa using L
   subst e;exact mm
  have uQ:∀{pl:List (â×Obj)} {dF:St} {U:Hp} {s':Ç},Inv Y ([(D,f)]++pl) dF U s'->B.Ac D Z s'.heap/\U D=none:=λ{pl dF U s'} F=>by
   have q:=F.pin (D,f) (Æ _ (ī _ (by simp)));exact⟨B.gb ND λo e=>by rw[ho] at e;cases e;exact q.1,q.2.1⟩
  rcases turn i n Z H3 w3 with ⟨stop,hz,q⟩ | ⟨go,hz,N',hN,step⟩
  ·have hd:=T.done Y eP eW eK eC i [(D,f)] s3 a H3 (λ_ _=>False) xG (mq pA sd) jY stop
   rw[eA] at hd;refine aG hd λr s4 h4=>?_;obtain⟨hr,I4⟩:=h4;subst hr;obtain⟨F1,n4⟩:=uQ (pl:=[]) (by simpa using I4);exact fin s4 a H3 Z (Inv.jH (π:=[]) I4) F1 n4 hz q
  ·have hd:=T.item Y eP eW eK eC i [(D,f)] s3 a H3 (λ_ _=>False) xG (mq pA sd) jY go
   rw[eA] at hd;refine aG hd λr s4 h4=>?_;obtain⟨u,hr,h4⟩:=h4;subst hr;refine aG h4 λ_ s5 h5=>?_;obtain⟨x,H5,I5,r5,y5,lU,xf⟩:=h5;have xg:=I5.pinned (mq xf sd) (T.obj _ _ lU);have q5:=xK _ s5 a H5 x u _ xg r5 (hτ ▸ ff x o3 _ H5 _ NC (step o3 x H5 NC y5));rw[eP,eW,eA,eE,eX] at q5;refine aG q5 λ_ s6 h6=>?_;obtain⟨uR,H6,I6,⟨o6,xH,AH⟩,q6⟩:=h6;have q7:=xM _ s6 uR H6 _ I6 q6;rw[eP,eW,eA,eE,eX] at q7;refine aG q7 λb s7 h7=>?_;obtain⟨H7,I7,q7⟩:=h7;have wK:∀{dF:St} {U:Hp} {s':Ç},Inv Y ([(D,f)]++oJ t s5.heap) dF U s'->tn (i+1) s'.heap/\∀b∈t,U b=none:=λ{dF U s'} F=>by
    refine⟨T.keep _ _ _ lU λb P o e=>(F.pin (b,o) (Æ _ (Æ _ (sO P e)))).1,λb P=>?_⟩;obtain⟨o,e,_⟩:=T.obj _ _ lU b P;exact(F.pin (b,o) (Æ _ (Æ _ (sO P e)))).2.1
   cases b with
   |false =>
    rw[æ Í] at q7 |-;obtain⟨m',hm,w7⟩:=hN _ _ q7;obtain⟨A8,n7⟩:=uQ I7;obtain⟨t7,f7⟩:=wK I7;exact⟨m',hm,i+1,Z,o6,H7,AH ▸ I7.i7 (λp L=>by simp at L),xH,t7,f7,A8,n7,w7⟩
   |true =>
    rw[ß rfl] at q7 |-;have q8:=hE1 _ s7 uR H7 _ I7 q7;rw[eP,eW,eA,eE,eX] at q8;refine aG q8 λy s8 h8=>?_;obtain⟨v,H8,I8,r8,q9⟩:=h8;obtain⟨m',hm,w8⟩:=hN _ _ q9;obtain⟨FX,n8⟩:=uQ I8;obtain⟨t8,f8⟩:=wK I8;have kN:lY (Z++[v]):=by
     rcases turn (i+1) m' (Z++[v]) H8 w8 with q|q
     ·exact q.2.1
     ·exact q.2.1
    refine B.add FX r8 hz kN λh9 tk9 uP FY=>?_;have FZ:Inv Y [] uR H8 s8:=I8.i7 (λp L=>by simp at L)
    have I9:Inv Y [] uR H8 { s8 with heap:=h9,toks:=tk9 }:=FZ.turned (it:=D) (λb o P e=>(uP.2 b P).trans e) n8 eL (.inr eS) eCl (λp L=>eN p (by simpa using L))
    exact⟨m',hm,i+1,Z++[v],o6,H8,AH ▸ I9,xH,T.keep _ _ _ t8 λb P o e=>(uP.2 b (λz=>mm (z ▸ P))).trans e,f8,FY,n8,w8⟩
 exact B.start loop (T.self _ _ _ _ _ (T.keep _ _ _ fJ λb _ o e=>old b o e) loop)
def MU {P:ö} {w:Ć} {el tg src:Ņ} {tests:List Ņ} {sc:aaB} {ps:Pos}:D7 P w (.ListComp el [⟨tg,src,tests,0⟩] sc ps) el tg src tests (newList []) "list.append" (λ_ acc=>.lst acc) (λacc=>acc.length<=Õ) where
 o0:={ cls:=.type "list",dict:=none,data:=.seq ([]:List Ì).toArray }
 live:=rfl
 Ac:=λD acc h=>∃Z,h.PlainList D Z/\Vals acc Z.toList
 clauses:=rfl
 turns:=Py
 new:=λh=>î h
 start:=aba
 init:=λe=>⟨#[],⟨_,e⟩,.nil⟩
 obj:=λ⟨_,⟨_,e⟩,_⟩=>⟨_,e,λ_ z=>by cases z⟩
 gb:=λ⟨Z,⟨n,e⟩,r⟩ k=>⟨Z,⟨n,k _ e⟩,r⟩
 Dy:=λX ⟨Z,⟨n,e⟩,r⟩=>⟨X,Z.toList,n,r,by simpa using e⟩
 add:=λ{A s D acc v y Q} ⟨Z,W,r⟩ V X _ q=>wpAny_list_append_plain (hsz:=by have e:=r.length;simp only[ý] at e;omega) W λU Y T=>q U s.toks T ⟨Z.push y,Y,by rw[abh];exact Vals.append r (.cons V .nil)⟩
def Cd (hc:X.calm=true) (S:ki X sc N nt cap) (ff:lX g nt) (hi:PI X tg src wi)
 (hY:∀(cl:List (Str×â)) (C:â) (s:Ç) (H:Hp) (ex:List â) (pn:List (â×Obj)),PG (cx X N sc cl C s H ex pn) tg g/\PF (cx X N sc cl C s H ex pn) tests tf/\PE (cx X N sc cl C s H ex pn) el te)
 (hs:∀x,ï src X.env x=pure x:=by intro _;rfl):PE X (.ListComp el [⟨tg,src,tests,0⟩] sc ps) (nU wi nt cap g tf te):=by
 intro T s σ H Q I h;rw[eval_ListComp];exact BF MU (use:=none) hc S ff hi hY hs I h λR Z D C m Y W _ _ _ _ _ _ q=>⟨m,W,λV U=>⟨.ref D,Z,Y V U,rfl,q⟩⟩
def So {el tg src:Ņ} {tests:List Ņ} {sc:aaB} {ps pos pos':Pos} {N:List Str} {nt:Nat} {cap:List Nat} {wi:TI} {g:TG} {tf:TT} {te:TE} {i0:Nat} {x0:Str} (se:X.N.Nodup) (sf:X.N[i0]?=some x0) (ot:Loc X.env.scope x0) (hc:X.calm=true) (S:ki X sc N nt cap) (ff:lX g nt) (hi:PI X tg src wi)
  (hY:∀(cl:List (Str×â)) (C:â) (s:Ç) (H:Hp) (ex:List â) (pn:List (â×Obj)),PG (cx X N sc cl C s H ex pn) tg g/\PF (cx X N sc cl C s H ex pn) tests tf/\PE (cx X N sc cl C s H ex pn) el te)
  (hs:∀x,ï src X.env x=pure x:=by intro _;rfl)
  (sg:abL (.ListComp el [⟨tg,src,tests,0⟩] sc ps) (some (.Name x0 pos')) pos.line X.env=pure true:=by rfl)
  (si:X.fn x0=true\/X.env.scope.names.lookup x0=some .local:=by first|exact .inl rfl|exact .inr rfl|assumption):PS X (.Assign [.Name x0 pos'] (.ListComp el [⟨tg,src,tests,0⟩] sc ps) pos) (qY (nU wi nt cap g tf te) (lp i0)):=by
 intro W s σ H V I h;rw[exec_Assign_Name_used _ _ _ _ sg];refine À (ł (À ?_));obtain⟨Q,P⟩:∃Q:VK,Q=λv Z=>lp i0 v σ Z V.nx:=⟨_,rfl⟩;have h:nU wi nt cap g tf te σ H Q:=by rw[P];exact h
 have G:∀v Z,Q v Z->V.nx (σ.set i0 (some v)) Z:=λv Z q=>by rw[P] at q;exact q
 unfold evalThenUse
 refine À (ĝ (Q:=λ_ Y=>SP X W V .next Y) ?_ (λ_ Y q=>Â (Â q)) (λ_ _ z=>z))
 refine BF MU (use:=some (aai (.Name x0 pos') X.env)) hc S ff hi hY hs I h λY Z D C m F E O M B A y w q=>?_;have L:Inv X W σ Z Y:=F Y.heap (Heap.SameBut.refl _ _);obtain⟨U,u,t,r,K,n⟩:=id E;have l:Inv X ((C,U)::W) σ Z Y:=L.i7 λp T=>by
  rcases Ó.mp T with e|e
  ·subst e
   exact⟨r,O,M,B,λv z=>by rw[K] at z;cases z⟩
  ·exact L.pin p (Æ _ e)
 show Ü _ _ (aai (.Name x0 pos') X.env (.ref D)) _ _ Y;refine wpAny_assign_Name (nD l se sf ot (show RelV (.ref D) (.ref D) from rfl) (λJ R=>?_) si);have k:=(R.pin (C,U) (Æ _ (Î ..))).1;refine⟨m,⟨U,u,t,k,K,n⟩,λd j=>⟨_,Z,?_,G _ _ q⟩⟩;have i:Inv X W (σ.set i0 (some (.ref D))) Z J:=R.i7 λp T=>R.pin p (Æ _ (Ï _ T));exact i.turned (it:=C) (t':=J.toks) (λb o f e=>(j.2 b f).trans e) O M (.inr A) y w
end
noncomputable def Dz (sc:aaB) (on:List (Str×aau)) (oN N:List Str) (nt:Nat) (cap:List Nat):Bool :=
 decide (sc.kind=.function)&&sc.names.all (λx=>decide (x.2=.local->sc.names.lookup x.1=some .local))&&sc.names.all (λx=>decide (x.2=.cell->sc.names.lookup x.1=some .cell)) &&
 sc.names.all (λx=>decide (x.2=.free->sc.names.lookup x.1=some .free/\(on.lookup x.1=some .cell\/on.lookup x.1=some .free)))&&decide (N.length=nt+cap.length) &&
 (Ø cap.length).all (λk=>match cap[k]? with
  |some j=>match oN[j]? with
   |some x=>decide (N[nt+k]?=some x)&&decide ((x,Ą)∈sc.names)
   |none=>false
  |none=>true)
def f9 (h:Dz sc X.env.scope.names X.N N nt cap=true):ki X sc N nt cap:=by
 unfold Dz at h;simp only[Ê,Ĕ,È] at h;obtain⟨⟨⟨⟨⟨Z,Y⟩,W⟩,V⟩,U⟩,T⟩:=h;refine⟨Z,Y,W,λx S e=>V x S e,U,λk j e=>?_⟩;have R:k<cap.length:=(Å.mp e).1;have:=T k (ñ.mpr R);rw[e] at this;dsimp only at this
 cases ex:X.N[j]? with
 |none=>rw[ex] at this;cases this
 |some x =>
  rw[ex] at this;simp only[Ê,È] at this;exact⟨x,rfl,this.1,this.2⟩
end L2
namespace DI
open PySem L2
section
variable {X:Cx} {Ξ:Wd->bt->Prop} {e a b c tg el src:Ņ} {es rest tests:List Ņ} {pos:Pos} {f g h:acn D} {fa:acn (List D)} {ft gt:acn Bool}
def qj (hc:X.calm=true) (S:ki X sc N nt cap) (T:Tg X.K g0 gd nt) (hi:PI X tg src (dC X.K Ξ it))
 (hY:∀(cl:List (Str×â)) (C:â) (s:Ç) (H:Hp) (ex:List â) (pn:List (â×Obj)),PG (cx X N sc cl C s H ex pn) tg g0/\PF (cx X N sc cl C s H ex pn) tests (tT X.K bj ft)/\PE (cx X N sc cl C s H ex pn) el (tE X.K bj f))
 (hs:∀x,ï src X.env x=pure x:=by intro _;rfl):PE X (.ListComp el [⟨tg,src,tests,0⟩] sc ps) (tE X.K Ξ (aM nt cap it gd ft f)) :=
 dg (Cd hc S T.jj hi hY hs) fun σ H Q h=>yB T.imp (λR Z i h=>vw R Z i h) (Jc σ H Q h)
def nJ {sc:aaB} {ps pos':Pos} {N:List Str} {nt:Nat} {cap:List Nat} {it:acn (List D)} {gd:D->Env->Option Env} {g0:TG} (i0:Nat) {x0:Str} (se:X.N.Nodup) (hc:X.calm=true) (S:ki X sc N nt cap) (T:Tg X.K g0 gd nt) (hi:PI X tg src (dC X.K Ξ it))
  (hY:∀(cl:List (Str×â)) (C:â) (s:Ç) (H:Hp) (ex:List â) (pn:List (â×Obj)),PG (cx X N sc cl C s H ex pn) tg g0/\PF (cx X N sc cl C s H ex pn) tests (tT X.K bj ft)/\PE (cx X N sc cl C s H ex pn) el (tE X.K bj f))
  (sf:X.N[i0]?=some x0:=by rfl) (ot:Loc X.env.scope x0:=by first|exact Ş rfl|exact ack rfl)
  (hs:∀x,ï src X.env x=pure x:=by intro _;rfl)
  (sg:abL (.ListComp el [⟨tg,src,tests,0⟩] sc ps) (some (.Name x0 pos')) pos.line X.env=pure true:=by rfl)
  (si:X.fn x0=true\/X.env.scope.names.lookup x0=some .local:=by first|exact .inl rfl|exact .inr rfl):PS X (.Assign [.Name x0 pos'] (.ListComp el [⟨tg,src,tests,0⟩] sc ps) pos) (tS X.K Ξ (aK (aM nt cap it gd ft f) (gN i0))) :=
 kg (So se sf ot hc S T.jj hi hY hs sg si) λD σ H h=>by
  have Z:=BO (te:=tE X.K Ξ f) D σ H (zb D σ H h);exact yB T.imp (λR Y i h=>vw R Y i h) (Jc σ H _ Z)
def Ce (hc:X.calm=true) (S:ki X sc N nt cap) (T:Tg X.K g0 gd nt) (hi:PI X tg src (dC X.K Ξ it))
 (hY:∀(cl:List (Str×â)) (C:â) (s:Ç) (H:Hp) (ex:List â) (pn:List (â×Obj)),PG (cx X N sc cl C s H ex pn) tg g0/\PF (cx X N sc cl C s H ex pn) tests (tT X.K bj ft)/\PE (cx X N sc cl C s H ex pn) el (tE X.K bj f))
 (hs:∀x,ï src X.env x=pure x:=by intro _;rfl):PE X (.ListComp el [⟨tg,src,tests,0⟩] sc ps) (tE X.K Ξ (oK nt cap it gd ft f)) :=
 dg (Cd hc S T.jj hi hY hs) fun σ H Q h=>yB T.imp (λR Z i h=>vw R Z i h) (QJ σ H Q h)
end
end DI
namespace L2
open PySem PySem.Spec PyProof.Rows
section
variable {X:Cx} {tg:Ņ}
def Kb (h:-1<=i):Ť i (-1) (-1)=i+1:=by
 unfold Ť;simp;omega
def XY (ta:TA):TI:=fun σ H R=>ta σ H λZ Y=>∃i:Int,Z=[.int i,.int (-1),.int (-1)]/\-1<=i/\i<1000000/\R (Ay (i+1).toNat) Y
def QV {a b c:Ņ} {ta:TA} {p pos:Pos} (hg:Gl X "range") (hm:X.mg "range"=none) (ha:PA X [a,b,c] ta) (hs:Þ [a,b,c] X.env=[(false,ś a X.env),(false,ś b X.env),(false,ś c X.env)]:=by rfl) (bU:Þ [b,c] X.env=[(false,ś b X.env),(false,ś c X.env)]:=by rfl) :
  PI X tg (.Call (.Name "range" p) [a,b,c] [] pos) (XY ta):=by
 intro S s σ H R I h;refine Call_ (nL I hg hm boot_range (ŀ (aG (ha pos S s σ H _ I h) λK Z P=>?_) (by rw[hs,bU]) (by rw[bU];rfl)));obtain⟨J,Q,O,N,W⟩:=P;obtain⟨i,e,W,G,q⟩:=W;subst e
 cases N with
 |cons r Y =>
  cases Y with
  |cons M Y =>
   cases Y with
   |cons U Y =>
    cases Y;obtain⟨t,rfl⟩:=r;obtain⟨t',rfl⟩:=M;obtain⟨V,rfl⟩:=U;refine call_range_3 (by decide) ?_ (.inl (PyProof.noPylong_small (by omega)));refine wpAny_pyIter_range (IsRange.new ..) ?_ ?_
    ·unfold Builtin.Range.small
     rw[Kb W];simp only[Ĥ,Ê,aao,È,beq_iff_eq,show ¬ (-1:Int) > 0 by decide,ê];omega
    ·have T:Inv X S σ Q { Z with heap:=Z.heap.push { cls:=.type "range",data:=.fields #[.int i t,.int (-1) t',.int (-1) V] },toks:=Z.toks }:=O.kept λb o e=>Á _ e
     rw[Kb W];refine⟨(Z.heap.push { cls:=.type "range",data:=.fields #[.int i t,.int (-1) t',.int (-1) V] }).objs.size,[(Z.heap.push { cls:=.type "range",data:=.fields #[.int i t,.int (-1) t',.int (-1) V] }).objs.size],_,_,Q,rfl,
      T.kept (t':=Z.toks) λb o e=>Á _ e,Ja _ (i+1).toNat,?_,λb L=>?_,q⟩
     ·have e1:(((i+1).toNat:Nat):Int)-1+((0:Nat):Int)*(-1)=i:=by simp;omega
      have e2:(((i+1).toNat:Nat):Int)-((0:Nat):Int)=i+1:=by simp;omega
      show IsRangeIter _ _ ((((i+1).toNat:Nat):Int)-1+((0:Nat):Int)*(-1)) ((((i+1).toNat:Nat):Int)-((0:Nat):Int)) (-1);rw[e1,e2];exact Ð _ rfl
     ·have e:b=(Z.heap.push { cls:=.type "range",data:=.fields #[.int i t,.int (-1) t',.int (-1) V] }).objs.size:=by simpa using L
      subst e;exact T.mZ (acr _) (T.aH.fresh (acr _))
end
end L2
namespace DI
open PySem L2
section
variable {X:Cx} {Ξ:Wd->bt->Prop} {a b c tg:Ņ} {pos:Pos} {fa:acn (List D)}
def Gg (fa:acn (List D)):acn (List D):=λenv s=>ao (fa env s) λZ s=>match Z with
 | [.int i,.int (-1),.int (-1)]=>if (decide (-1<=i)&&decide (i<1000000))=true then ok (qR (i+1).toNat) s else none
 |_=>none
def WA {p:Pos} (hg:Gl X "range") (hm:X.mg "range"=none) (ha:PA X [a,b,c] (tA X.K Ξ fa)) (hs:Þ [a,b,c] X.env=[(false,ś a X.env),(false,ś b X.env),(false,ś c X.env)]:=by rfl) (bU:Þ [b,c] X.env=[(false,ś b X.env),(false,ś c X.env)]:=by rfl):PI X tg (.Call (.Name "range" p) [a,b,c] [] pos) (dC X.K Ξ (Gg fa)) :=
 tD (QV hg hm ha hs bU) fun σ H R W=>by
  obtain⟨w,env,V,S,U,h⟩:=W;subst V;refine⟨w,env,rfl,S,U,(Out.ao h).mono λG F E T Z D Q=>?_⟩;split at Z
  ·rename_i i
   split at Z
   ·rename_i Y
    simp only[Ê,È] at Y;obtain⟨v,r,rfl,P,v2,C,rfl,O,N,M,rfl,L,dr⟩:=Q;have e1:v=.int i:=P;have e2:v2=.int (-1):=O;have J:N=.int (-1):=L;have I:M=[]:=dr;subst e1 e2 J I;exact⟨i,rfl,Y.1,Y.2,aF T Z _ Ll⟩
   ·exact Z.elim
  ·exact Z.elim
end
end DI
namespace L2
open PySem PySem.Spec PyProof.Rows
section
variable {X:Cx}
end
end L2
namespace DI
open PySem L2
section
variable {X:Cx} {Ξ:Wd->bt->Prop} {a:Ņ} {p pos:Pos} {fa:acn (List D)}
end
section
variable {X:Cx} {Ξ:Wd->bt->Prop} {a:Ņ} {p pos:Pos} {f g:acn D} {fa:acn (List D)}
theorem ar.erase:∀{ds:List D} {xs:List V} (j:Nat),ar K w ds xs->ar K w (ds.eraseIdx j) (xs.eraseIdx j)
 | [],xs,j,h=>by
  have e:xs=[]:=h;subst e;exact h
 |d::ds,xs,0,h=>by
  obtain⟨v,r,rfl,_,dr⟩:=h;exact dr
 |d::ds,xs,j+1,h=>by
  obtain⟨v,r,rfl,Z,dr⟩:=h;exact⟨v,r.eraseIdx j,rfl,Z,ar.erase j dr⟩
end
open HT PyProof.Rows
section
variable {X:Cx} {Ξ:Wd->bt->Prop}
def QW (h:Vals xs us):∀{q:List Nat},(∀i∈q,i<us.length)->Vals (q.map λi=>xs.getD i .au) (q.map λi=>us.getD i Value.none):=by
 intro q
 induction q with
 |nil=>intro _;exact .nil
 |cons i q ih =>
  intro Z;refine .cons ?_ (ih λj Y=>Z j (Ï _ Y));have hi:=Z i Î;clear ih Z
  induction h generalizing i with
  |nil=>simp at hi
  |cons a _ ih =>
   cases i with
   |zero=>exact a
   |succ i=>simpa using ih i (by simpa using hi)
def Sq {K:ļ} {w:Wd} {ds:List D} {xs:List V} (h:ar K w ds xs):∀{q:List Nat},(∀i∈q,i<ds.length)->ar K w (q.map λi=>ds.getD i .au) (q.map λi=>xs.getD i .au):=by
 intro q
 induction q with
 |nil=>intro _;exact rfl
 |cons i q ih =>
  intro Z;have hi:=Z i Î;obtain⟨v,e,Y⟩:=h.get' i _ (Ë hi);refine⟨_,_,rfl,?_,ih λj X=>Z j (Ï _ X)⟩;have e1:ds.getD i .au=ds[i]:=by simp[hi]
  have e2:xs.getD i .au=v:=by simp[e]
  show DV K w (ds.getD i .au) (xs.getD i .au);rw[e1,e2];exact Y
def Sr {α:Type} {O:ST.Ord α} {ks:List α} {f:α->D} {d:α} {q:Array Nat} (hp:ST.Pm ks.length q) (hu:ST.Up O (ST.ky (λi=>ks.getD i d) q) ks.length):q.toList.map (λi=>(ks.map f).getD i .au)=(ST.kC O ks).map f:=by
 rw[<- ST.QS hp hu,ĉ];refine aaP λi hi=>?_;have:i<ks.length:=ñ.mp (hp.2.mem_iff.mp hi);simp[this]
end
end DI
namespace TK
open PySem PySem.W PyProof.Rows DI
mutual
noncomputable def kd:D->Bool
 | .int _=>true
 | .str x=>abx x
 | .tup Z=>cU Z
 |_=>false
noncomputable def cU:List D->Bool
 | []=>true
 |k::Z=>kd k&&cU Z
end
mutual
def KA (h:Ţ):D->Ì->Prop
 | .int i,v=>∃t,v=.int i t
 | .str x,v=>∃t,v=.str x t
 | .tup Z,v=>∃a o its n,v=.ref a/\h.get? a=some o/\o.cls=.type "tuple"/\o.data=.seq its n/\dH h Z its.toList
 |_,_=>False
def dH (h:Ţ):List D->List Ì->Prop
 | [],Z=>Z=[]
 |k::Y,Z=>∃v r,Z=v::r/\KA h k v/\dH h Y r
end
mutual
theorem qv:∀k:D,kd k=true->lay k=true
 | .int _,_=>rfl
 | .str _,h=>h
 | .tup Z,h=>by simp only[kd] at h;simp only[lay];exact yQ Z h
 | .au,h=>by cases h
 | .bl _,h=>by cases h
 | .lst _,h=>by cases h
 | .bJ _,h=>by cases h
 | .ai _,h=>by cases h
 | .ty _,h=>by cases h
 | .bQ _,h=>by cases h
theorem yQ:∀ks:List D,cU ks=true->dq ks=true
 | [],_=>rfl
 |k::ks,h=>by
  simp only[cU,dq,Ê] at h |-;exact⟨qv k h.1,yQ ks h.2⟩
end
mutual
theorem tH:∀x y:D,kd x=true->kd y=true->(beq x y=true↔x=y)
 | .int i,.int j,_,_=>by simp[beq]
 | .str i,.str j,_,_=>by simp[beq]
 | .tup Z,.tup Y,h,g=>by
  simp only[kd] at h g;simp only[beq,Cf Z Y h g];exact⟨λe=>by rw[e],λe=>by injection e⟩
 | .int _,.str _,_,_=>by simp[beq]
 | .int _,.tup _,_,_=>by simp[beq]
 | .str _,.int _,_,_=>by simp[beq]
 | .str _,.tup _,_,_=>by simp[beq]
 | .tup _,.int _,_,_=>by simp[beq]
 | .tup _,.str _,_,_=>by simp[beq]
 | .au,_,h,_=>by cases h
 | .bl _,_,h,_=>by cases h
 | .lst _,_,h,_=>by cases h
 | .bJ _,_,h,_=>by cases h
 | .ai _,_,h,_=>by cases h
 | .ty _,_,h,_=>by cases h
 | .bQ _,_,h,_=>by cases h
 |_,.au,_,h=>by cases h
 |_,.bl _,_,h=>by cases h
 |_,.lst _,_,h=>by cases h
 |_,.bJ _,_,h=>by cases h
 |_,.ai _,_,h=>by cases h
 |_,.ty _,_,h=>by cases h
 |_,.bQ _,_,h=>by cases h
theorem Cf:∀xs ys:List D,cU xs=true->cU ys=true->(ik xs ys=true↔xs=ys)
 | [],[],_,_=>by simp[ik]
 | [],_::_,_,_=>by simp[ik]
 |_::_,[],_,_=>by simp[ik]
 |x::xs,y::ys,h,g=>by
  simp only[cU,Ê] at h g;simp only[ik,Ê,tH x y h.1 g.1,Cf xs ys h.2 g.2,aa4]
end
mutual
theorem KA.reads:∀(k:D) (v:Ì),KA h k v->∃as,Reads h v (py k) as
 | .int i,v,q=>by obtain⟨t,rfl⟩:=q;exact⟨_,.int i t⟩
 | .str x,v,q=>by obtain⟨t,rfl⟩:=q;exact⟨_,.str x t⟩
 | .tup Z,v,q=>by
  simp only[KA] at q;obtain⟨a,o,its,n,rfl,Y,X,W,r⟩:=q;obtain⟨as,r⟩:=dH.reads Z _ r;exact⟨as,.tuple Y X W r⟩
 | .au,_,q=>by cases q
 | .bl _,_,q=>by cases q
 | .lst _,_,q=>by cases q
 | .bJ _,_,q=>by cases q
 | .ai _,_,q=>by cases q
 | .ty _,_,q=>by cases q
 | .bQ _,_,q=>by cases q
theorem dH.reads:∀(ks:List D) (vs:List Ì),dH h ks vs->∃as,ReadsAll h vs (cO ks) as
 | [],vs,q=>by cases q;exact⟨_,.nil⟩
 |k::ks,vs,q=>by
  obtain⟨v,r,rfl,Z,Y⟩:=q;obtain⟨as,Z⟩:=KA.reads k v Z;obtain⟨bs,Y⟩:=dH.reads ks r Y;exact⟨_,.cons Z Y⟩
end
def WB (q:KA h y (.int i t)):y=.int i:=by
 cases y with
 |int j=>obtain⟨_,e⟩:=q;cases e;rfl
 |str j=>obtain⟨_,e⟩:=q;cases e
 |tup Z=>simp only[KA] at q;obtain⟨_,_,_,_,e,_⟩:=q;cases e
 |_=>cases q
def WC (q:KA h y (.str i t)):y=.str i:=by
 cases y with
 |str j=>obtain⟨_,e⟩:=q;cases e;rfl
 |int j=>obtain⟨_,e⟩:=q;cases e
 |tup Z=>simp only[KA] at q;obtain⟨_,_,_,_,e,_⟩:=q;cases e
 |_=>cases q
def WD (q:KA h y (.ref a)):∃ks o its n,y=.tup ks/\h.get? a=some o/\o.cls=.type "tuple"/\o.data=.seq its n/\dH h ks its.toList:=by
 cases y with
 |str j=>obtain⟨_,e⟩:=q;cases e
 |int j=>obtain⟨_,e⟩:=q;cases e
 |tup ks =>
  simp only[KA] at q;obtain⟨_,o,its,n,e,r⟩:=q;cases e;exact⟨ks,o,its,n,rfl,r⟩
 |_=>cases q
mutual
theorem KA.inj:∀(x y:D) (v:Ì),KA h x v->KA h y v->x=y
 | .int i,y,v,p,q=>by
  obtain⟨t,rfl⟩:=p;exact(WB q).symm
 | .str i,y,v,p,q=>by
  obtain⟨t,rfl⟩:=p;exact(WC q).symm
 | .tup Y,y,v,p,q=>by
  simp only[KA] at p;obtain⟨a,o,its,n,rfl,X,S,W,r⟩:=p;obtain⟨R,Q,Z,P,rfl,V,O,U,T⟩:=WD q;cases X.symm.trans V;cases W.symm.trans U;rw[dH.inj Y _ _ r T]
 | .au,_,_,q,_=>by cases q
 | .bl _,_,_,q,_=>by cases q
 | .lst _,_,_,q,_=>by cases q
 | .bJ _,_,_,q,_=>by cases q
 | .ai _,_,_,q,_=>by cases q
 | .ty _,_,_,q,_=>by cases q
 | .bQ _,_,_,q,_=>by cases q
theorem dH.inj:∀(xs ys:List D) (vs:List Ì),dH h xs vs->dH h ys vs->xs=ys
 | [],ys,vs,p,q=>by
  cases p
  cases ys with
  |nil=>rfl
  |cons y ys=>obtain⟨_,_,e,_⟩:=q;cases e
 |x::xs,ys,vs,p,q=>by
  obtain⟨v,r,rfl,Z,Y⟩:=p
  cases ys with
  |nil=>cases q
  |cons y ys =>
   obtain⟨X,W,e,g1,g2⟩:=q;cases e;rw[KA.inj x y v Z g1,dH.inj xs ys r Y g2]
end
mutual
theorem KA.keep (hk:∀a o,h.get? a=some o->o.cls=.type "tuple"->(∃its n,o.data=.seq its n)->h'.get? a=some o):∀(x:D) (v:Ì),KA h x v->KA h' x v
 | .int i,v,p=>p
 | .str i,v,p=>p
 | .tup X,v,p=>by
  simp only[KA] at p |-;obtain⟨a,o,its,n,e,W,Z,Y,r⟩:=p;exact⟨a,o,its,n,e,hk a o W Z ⟨its,n,Y⟩,Z,Y,dH.keep hk X _ r⟩
 | .au,_,q=>by cases q
 | .bl _,_,q=>by cases q
 | .lst _,_,q=>by cases q
 | .bJ _,_,q=>by cases q
 | .ai _,_,q=>by cases q
 | .ty _,_,q=>by cases q
 | .bQ _,_,q=>by cases q
theorem dH.keep (hk:∀a o,h.get? a=some o->o.cls=.type "tuple"->(∃its n,o.data=.seq its n)->h'.get? a=some o):∀(xs:List D) (vs:List Ì),dH h xs vs->dH h' xs vs
 | [],vs,p=>p
 |x::xs,vs,p=>by
  obtain⟨v,r,e,Z,Y⟩:=p;exact⟨v,r,e,KA.keep hk x v Z,dH.keep hk xs r Y⟩
end
def Kc (h:k∈ks):dep k<=cv ks:=by
 induction ks with
 |nil=>cases h
 |cons x Z ih =>
  simp only[cv]
  rcases Ó.mp h with rfl|h
  ·exact Nat.le_max_left _ _
  ·exact Û (ih h) (abz _ _)
mutual
noncomputable def hs (w:Ć):D->Int
 | .int i=>hashInt i
 | .str x=>hashStr w x
 | .tup Z=>reduceHash (aaJ (nu w Z))
 |_=>0
noncomputable def nu (w:Ć):List D->List Int
 | []=>[]
 |k::Z=>hs w k::nu w Z
end
mutual
noncomputable def dr:D->Nat
 | .int _=>1
 | .str _=>1
 | .tup Z=>my Z+1
 |_=>0
noncomputable def my:List D->Nat
 | []=>0
 |k::Z=>dr k+my Z
end
def Kd (w:Ć) (xs ys:List D):nu w (xs++ys)=nu w xs++nu w ys:=by
 induction xs with
 |nil=>rfl
 |cons x xs ih=>simp only[ĕ,nu,ih]
def Ke (xs ys:List D):my (xs++ys)=my xs+my ys:=by
 induction xs with
 |nil=>simp[my]
 |cons x xs ih=>simp only[ĕ,my,ih,abJ]
section
variable {prog:ö} {w:Ć}
def Su (hu:A.units<abr) (ho:s.heap.get? a=some o) (hc:o.cls=.type "tuple") (hd:o.data=.seq items m) (hi:dH s.heap ks items.toList)
 (ih:∀k∈ks,∀(A':Đ) (s':Ç) (v:Ì) (E':Ì->Ç->Prop) (Q':Int->Ç->Prop),A'.units<=A.units+1->KA s'.heap k v->Q' (hs w k) { s' with toks:=s'.toks+dr k }->Ü (í prog w) A' (pyHash v) Q' E' s')
 (h:Q (hs w (.tup ks)) { s with toks:=s.toks+dr (.tup ks) }):Ü (í prog w) A (pyHash (.ref a)) Q E s:=by
 have Z:s.TypeIs (.ref a) "tuple":=⟨o,ho,hc⟩;unfold pyHash
 first|unfold pyHashByItsType|skip
 first|refine À (wpAny_cRoomFor_or (.inr hu) ?_)|skip
 refine À (abT Z abj.lookup ?_)
 show Ü _ _ (if (some (Value.builtin "tuple.__hash__")==some Value.none)=true then _ else _) Q E s
 rw[æ (by rw[beq_builtin_none];exact Í)];refine À (abT Z abj.lookup ?_);show Ü _ _ (callSpecialIfBoundUnlessNone? (.ref a) "__hash__" _ >>= _) Q E s;refine À (wpAny_callSpecialIfBoundUnlessNone?_slot Z abj (ÿ abj Z F.entry_tuple_hash ?_ (F.args_tuple_hash_1 _)));show Ü _ _ (Œ (.ref a) >>= _) _ _ s;refine À (wpAny_tupleItemsOf ho hd ?_);refine À ?_;rw[<- Array.forIn_toList];refine wpAny_forIn_list _
  (λrest (b:Array Int) s'=>∃done left,ks=done++left/\dH s.heap left rest/\b.toList=nu w done/\s'={ s with toks:=s.toks+my done })
  _ ?_ ?_ _ _ ⟨[],ks,rfl,hi,rfl,rfl⟩
 ·rintro x rest b s' ⟨done,left,e,Y,X,rfl⟩
  cases left with
  |nil=>cases Y
  |cons k left =>
   obtain⟨T,S,ex,U,V⟩:=Y;cases ex
   refine À (ih k (by rw[e];simp) _ { s with toks:=s.toks+my done } _ _ _ ?_ U ?_)
   ·exact acr _
   ·first
     |exact Â ⟨done++[k],left,by simp[e],V,by simp[X,Kd,nu],by simp[abJ,Ke,my]⟩
     |exact À (Â (Â ⟨done++[k],left,by simp[e],V,by simp[X,Kd,nu],by simp[abJ,Ke,my]⟩))
 ·rintro b s' ⟨done,left,e,Y,X,rfl⟩
  cases left with
  |cons k left=>obtain⟨_,_,ex,_⟩:=Y;cases ex
  |nil =>
  rw[Ķ] at e;subst e;simp only[hs,dr] at h;show Ü _ _ (retInt (aaJ b.toList)) _ _ _;rw[X];generalize aaJ (nu w ks)=z at h |-;refine wpAny_ret_mkInt ?_
  show Ü _ _ (if (decide (-(2:Int) ^ 63<=z)&&decide (z<2 ^ 63))=true then _ else _) Q E _
  unfold reduceHash at h;by_cases W:(decide (-(2:Int) ^ 63<=z)&&decide (z<2 ^ 63))=true
  ·rw[ß W]
   rw[ß W] at h;exact Â (by simpa [abJ] using h)
  ·rw[æ W]
   rw[æ W] at h;exact À (Ŕ (Â (by simpa [abJ] using h)))
def UR:∀(n:Nat) (k:D),dep k<=n->∀(A:Đ) (s:Ç) (v:Ì) (E:Ì->Ç->Prop) (Q:Int->Ç->Prop),KA s.heap k v->A.units+n<abr->Q (hs w k) { s with toks:=s.toks+dr k }->Ü (í prog w) A (pyHash v) Q E s:=by
 intro n
 induction n with
 |zero =>
  intro k Z A s v E Q q Y h
  cases k with
  |int i=>obtain⟨t,rfl⟩:=q;exact wpAny_pyHash_int h
  |str i=>obtain⟨t,rfl⟩:=q;exact wpAny_pyHash_str h
  |tup X=>simp[dep] at Z
  |_=>cases q
 |succ n ih =>
  intro k Z A s v E Q q Y h
  cases k with
  |int i=>obtain⟨t,rfl⟩:=q;exact wpAny_pyHash_int h
  |str i=>obtain⟨t,rfl⟩:=q;exact wpAny_pyHash_str h
  |tup X =>
   simp only[dep] at Z;simp only[KA] at q;obtain⟨a,o,items,m,rfl,W,V,U,hi⟩:=q;exact Su (by omega) W V U hi (λk T S R v P O L N M=>ih k (by have:=Kc T;omega) S R v P O N (by omega) M) h
  |_=>cases q
def Sv:∀(n:Nat) (k:D),dep k<=n->∀{A:Đ} {s:Ç} {v:Ì} {E:Ì->Ç->Prop} {Q:Bool->Ç->Prop},KA s.heap k v->Q true s->Ü (í prog w) A (eqIsQuiet n v) Q E s:=by
 intro n
 induction n with
 |zero =>
  intro k Z A s v E Q q h
  cases k with
  |int i=>obtain⟨t,rfl⟩:=q;rw[abk _ rfl];exact Â h
  |str i=>obtain⟨t,rfl⟩:=q;rw[abk _ rfl];exact Â h
  |tup V=>simp[dep] at Z
  |_=>cases q
 |succ n ih =>
  intro k Z A s v E Q q h
  cases k with
  |int i=>obtain⟨t,rfl⟩:=q;rw[abk _ rfl];exact Â h
  |str i=>obtain⟨t,rfl⟩:=q;rw[abk _ rfl];exact Â h
  |tup V =>
   simp only[dep] at Z;simp only[KA] at q;obtain⟨a,o,items,m,rfl,U,P,O,hi⟩:=q;have T:s.TypeIs (.ref a) "tuple":=⟨o,U,P⟩;unfold eqIsQuiet;refine À (abT T F.slot_tuple_eq.lookup ?_);show Ü _ _ (isInstance (.ref a) (.type "tuple") >>= _) _ _ s;refine À (aaL T isSubtype_tuple_tuple ?_);simp only[Ā,Ä,ê];refine À (Ğ U O ?_);refine À ?_;show Ü _ _ (forIn items _ _) _ _ s;rw[<- Array.forIn_toList];refine wpAny_forIn_list _ (λrest r Y=>r.1=none/\Y=s/\∃left,dH s.heap left rest/\∀k∈left,dep k<=n) _ ?_ ?_ _ _ ⟨rfl,rfl,V,hi,λk N=>by have:=Kc N;omega⟩
   ·rintro v rest r Y ⟨X,rfl,left,S,R⟩
    cases left with
    |nil=>cases S
    |cons k left =>
     obtain⟨K,J,ex,M,L⟩:=S;cases ex;refine À (ih k (R k Î) M ?_);simp only[Ā,Ä,ê];exact Â ⟨rfl,rfl,left,L,λu W=>R u (Ï _ W)⟩
   ·rintro ⟨I,H⟩ Y ⟨X,rfl,_⟩
    simp only at X;subst X;exact Â h
  |_=>cases q
def Bf (h:Ţ) (ks:List D) (a:â):Prop:=cU ks=true/\cv ks<=6/\KA h (.tup ks) (.ref a)
noncomputable instance ab0:DecidableEq (List D):=λa b=>Classical.propDecidable (a=b)
def WE (hu:A.units+10<abr) (hx:Bf s.heap x a) (hy:Bf s.heap y b) (h:Q (decide (x=y)) s):Ü (í prog w) A (PySem.eqBool (.ref a) (.ref b)) Q E s:=by
 obtain⟨W,N,Z⟩:=hx;obtain⟨V,M,Y⟩:=hy;obtain⟨as,Z⟩:=KA.reads _ _ Z;obtain⟨bs,Y⟩:=KA.reads _ _ Y;have U:lay (.tup x)=true:=by simp only[lay];exact yQ x W
 have T:lay (.tup y)=true:=by simp only[lay];exact yQ y V
 obtain⟨S,R⟩:=ll _ U;obtain⟨P,O⟩:=ll _ T;have e:=SeqAt.eqAt_reads _ _ A s _ _ as bs Z Y S P (by rw[R,O];simp only[dep];omega);rw[tF _ _ U T] at e;refine e prog w E Q ?_;have:beq (.tup x) (.tup y)=decide (x=y):=by
  have:=Cf x y W V;simp only[beq]
  cases X:ik x y with
  |true=>exact(à (this.mp X)).symm
  |false=>exact(è λz=>by rw[this.mpr z] at X;cases X).symm
 rw[this];exact h
def kind (prog:ö) (w:Ć):HeapKind prog w (List D) where
 is:=Bf
 hash:=λX=>hs w (.tup X)
 draws:=λX=>dr (.tup X)
 room:=λA=>A.units+10<abr
 inj:=λW V=>by have:=KA.inj _ _ _ W.2.2 V.2.2;injection this
 keeps:=λ{h Q k a d o P O} x S R hs=>⟨x.1,x.2.1,KA.keep (λb u U N Y=>(hs.2 b (λe=>by
  subst e;rw[S] at U;cases U;obtain⟨_,_,Y⟩:=Y;rw[R] at Y;cases Y)).trans U) _ _ x.2.2⟩
 pyHash:=λT Z h=>UR 7 _ (by simp only[dep];have:=Z.2.1;omega) _ _ _ _ _ Z.2.2 (by omega) h
 eqBool:=λT W V h=>WE T W V h
 quiet:=λZ h=>Sv 8 _ (by simp only[dep];have:=Z.2.1;omega) Z.2.2 h
end
end TK
namespace TK
open PySem PySem.W PyProof.Rows DI L2
def DX.gb (h1 h2:Ţ) (h:DX a es h1) (k:∀o,h1.get? a=some o->h2.get? a=some o):DX a es h2:=by
 obtain⟨z,o,Z,Y,X,r⟩:=h;exact⟨z,o,Z,Y,k o X,r⟩
def Mf (x:DX a es h):dX P w H h a (.ext (DX a es)):=by
 obtain⟨z,o,Y,X,Z,r⟩:=id x;exact⟨x,⟨o,Z⟩,DX.gb⟩
def AllK (w:Ć) (ak:List (D×Int)):Prop:=∀p∈ak,∃Z,p.1=.tup Z/\cU Z=true/\cv Z<=6/\p.2=hs w p.1
noncomputable def its:D->List D
 | .tup Z=>Z
 |_=>[]
def XS:List (D×Int)->List â->List (List D×â×Ì)
 |p::r,a::as=>(its p.1,a,.bool true)::XS r as
 |_,_=>[]
def WG:∀{as:List â},ak.length=as.length->∀(p:D×Int) (a:â),XS (ak++[p]) (as++[a])=XS ak as++[(its p.1,a,.bool true)]:=by
 induction ak with
 |nil =>
  intro as e p a
  cases as with
  |nil=>rfl
  |cons _ _=>simp at e
 |cons q r ih =>
  intro as e p a
  cases as with
  |nil=>simp at e
  |cons b as =>
   simp only[ĕ,XS];rw[ih (by simpa using e)]
def WH:∀{as:List â},ak.length=as.length->(XS ak as).length=ak.length:=by
 induction ak with
 |nil=>intro as e;cases as<;>rfl
 |cons q r ih =>
  intro as e
  cases as with
  |nil=>simp at e
  |cons b as=>simp only[XS,ù,ih (by simpa using e)]
def CP:∀{as:List â},AllK w ak->ak.length=as.length->(XS ak as).map (λx=>D.tup x.1)=ak.map (·.1):=by
 induction ak with
 |nil=>intro as _ e;cases as<;>rfl
 |cons q r ih =>
  intro as k e
  cases as with
  |nil=>simp at e
  |cons b as =>
   obtain⟨Y,e1,_⟩:=k q Î;simp only[XS,Ö,ih (λp Z=>k p (Ï _ Z)) (by simpa using e),e1,its]
def Cg:∀{as:List â},AllK w ak->ak.length=as.length ->
  (((ak.map (·.2)).zip as).map λp=>(⟨p.1,.ref p.2,.bool true⟩:acd))=(XS ak as).map (entryOfKey (kind P w)):=by
 induction ak with
 |nil=>intro as _ e;cases as<;>rfl
 |cons q r ih =>
  intro as k e
  cases as with
  |nil=>simp at e
  |cons b as =>
   obtain⟨Y,e1,_,_,e2⟩:=k q Î;simp only[XS,Ö,ġ,ih (λp Z=>k p (Ï _ Z)) (by simpa using e)];rw[e2,e1];rfl
section
variable {X:Cx} {π:List (â×Obj)} {σ:L2.St} {s:Ç} {w:Wd}
mutual
theorem Ah (I:Inv X π σ w.H s):∀(d:D) (v:V) (u:Ì),kd d=true->DI.DV X.K w d v->RelV v u->KA s.heap d u
 | .int i,v,u,_,h,r=>by cases h;exact r
 | .str x,v,u,_,h,r=>by cases h;exact r
 | .tup Z,v,u,k,h,r=>by
  simp only[DI.DV] at h;obtain⟨a,Y,rfl,W,U⟩:=h;cases r;obtain⟨its,T,⟨o,S,R,n,Q⟩,_⟩:=I.tuple W;simp only[kd] at k;simp only[KA];exact⟨a,o,_,n,rfl,S,R,Q,DA I Z Y _ k U (by simpa using T)⟩
 | .au,_,_,k,_,_=>by cases k
 | .bl _,_,_,k,_,_=>by cases k
 | .lst _,_,_,k,_,_=>by cases k
 | .bJ _,_,_,k,_,_=>by cases k
 | .ai _,_,_,k,_,_=>by cases k
 | .ty _,_,_,k,_,_=>by cases k
 | .bQ _,_,_,k,_,_=>by cases k
theorem DA (I:Inv X π σ w.H s):∀(ds:List D) (vs:List V) (us:List Ì),cU ds=true->DI.ar X.K w ds vs->Vals vs us->dH s.heap ds us
 | [],vs,us,_,h,r=>by cases h;cases r;rfl
 |d::ds,vs,us,k,h,r=>by
  obtain⟨v,Z,rfl,Y,W⟩:=h;simp only[cU,Ê] at k
  cases r with
  |cons r U=>exact⟨_,_,rfl,Ah I d v _ k.1 Y r,DA I ds Z _ k.2 W U⟩
end
def Mg (I:Inv X π σ w.H s):∀{ak:List (D×Int)} {as:List â},AllK W ak->DI.ar X.K w (ak.map (·.1)) (as.map V.ref)->∀x∈XS ak as,Bf s.heap x.1 x.2.1:=by
 intro ak
 induction ak with
 |nil =>
  intro as _ _ x hx
  cases as<;>cases hx
 |cons q r ih =>
  intro as k U x hx
  cases as with
  |nil=>cases hx
  |cons b as =>
   obtain⟨v,P,e,Z,T⟩:=U
   injection e with e1 e2
   subst e1 e2;obtain⟨S,e1,Y,R,_⟩:=k q Î
   rcases Ó.mp hx with rfl|hx
   ·refine⟨by simpa only [e1,its] using Y,by simpa only [e1,its] using R,?_⟩
    have Z:DI.DV X.K w q.1 (V.ref b):=Z;rw[e1] at Z;simpa only [e1,its] using Ah I (.tup S) (.ref b) (.ref b) (by simpa only [kd] using Y) Z rfl
   ·exact ih (λp Q=>k p (Ï _ Q)) T x hx
end
def fR (w:Ć) (ak:List (D×Int)) (k:D):List (D×Int):=if (ak.any λp=>beq p.1 k)=true then ak else ak++[(k,hs w k)]
def keyOk (w:Ć) (p:D×Int):Bool:=match p.1 with
 | .tup Z=>cU Z&&decide (cv Z<=6)&&decide (p.2=hs w p.1)
 |_=>false
def Iv (h:ak.all (keyOk w)=true):AllK w ak:=λp Z=>by
 have:=Ĕ.mp h p Z;unfold keyOk at this;split at this
 ·rename_i Y e
  simp only[Ê,È] at this;exact⟨Y,e,this.1.1,this.1.2,this.2⟩
 ·cases this
def kZ (k:AllK w ak) (hk:cU ks=true):(ak.any λp=>beq p.1 (.tup ks))=true↔D.tup ks∈ak.map (·.1):=by
 rw[ŏ,ó];constructor
 ·rintro ⟨p,Z,Y⟩
  obtain⟨ls,e,X,_⟩:=k p Z;refine⟨p,Z,?_⟩;exact(tH p.1 (.tup ks) (by rw[e];simpa only [kd] using X) (by simpa only [kd] using hk)).mp Y
 ·rintro ⟨p,Z,e⟩
  exact⟨p,Z,by rw[e];exact(tH _ _ (by simpa only [kd] using hk) (by simpa only [kd] using hk)).mpr rfl⟩
def DB (k:AllK w ak) (e:ak.length=as.length) (ks:List D):ks∈(XS ak as).map (·.1)↔D.tup ks∈ak.map (·.1):=by
 rw[<- CP k e,ó,ó];exact⟨λ⟨x,Z,e⟩=>⟨x,Z,by rw[e]⟩,λ⟨x,Z,e⟩=>⟨x,Z,by injection e⟩⟩
def OI {xs:List (List D×â×Ì)} (h:∀x∈xs,x.2.2=Value.bool true) (k:List D):xs.map (putAt k (.bool true))=xs:=by
 induction xs with
 |nil=>rfl
 |cons x xs ih =>
  rw[Ö,ih λy Z=>h y (Ï _ Z)];congr 1;unfold putAt;split
  ·obtain⟨a,b,c⟩:=x
   have:=h (a,b,c) Î;simp only at this;rw[this]
  ·rfl
theorem Kf:∀(ak:List (D×Int)) (as:List â),∀x∈XS ak as,x.2.2=Value.bool true
 | [],as,x,h=>by cases as<;>cases h
 |p::r,[],x,h=>by cases h
 |p::r,a::as,x,h=>by
  rcases Ó.mp h with rfl|h
  ·rfl
  ·exact Kf r as x h
def QX {w:Ć} {ak:List (D×Int)} {as:List â} (k:AllK w ak) (e:ak.length=as.length) {ks:List D} (hk:cU ks=true) (a:â) :
  storedH (XS ak as) ks a (.bool true)=XS (fR w ak (.tup ks)) (if (ak.any λp=>beq p.1 (.tup ks))=true then as else as++[a]):=by
 unfold fR;by_cases Z:(ak.any λp=>beq p.1 (.tup ks))=true
 ·rw[ß Z,ß Z]
  have Y:=(DB k e ks).mpr ((kZ k hk).mp Z)
  cases h:atKey (XS ak as) ks with
  |none =>
   exfalso;obtain⟨x,X,W⟩:=ó.mp Y;unfold atKey at h;rw[Option.map_eq_none_iff,List.find?_eq_none] at h;exact h x X (à W)
  |some p=>rw[storedH_old h,OI (Kf ak as)]
 ·rw[æ Z,æ Z]
  have Y:ks∉(XS ak as).map (·.1):=λz=>Z ((kZ k hk).mpr ((DB k e ks).mp z));have h:atKey (XS ak as) ks=none:=by
   unfold atKey;rw[Option.map_eq_none_iff,List.find?_eq_none];intro x X z;exact Y (ó.mpr ⟨x,X,ı z⟩)
  rw[storedH_new h,WG e];rfl
def Sw (k:AllK w ak) (hk:cU ks=true) (hd:cv ks<=6):AllK w (fR w ak (.tup ks)):=by
 unfold fR;split
 ·exact k
 ·intro p hp
  rcases ä.mp hp with hp|hp
  ·exact k p hp
  ·rw[å.mp hp]
   exact⟨ks,rfl,hk,hd,rfl⟩
def PZ (k:AllK w ak) (hk:cU ks=true) (h:(ak.map (·.1)).Nodup):((fR w ak (.tup ks)).map (·.1)).Nodup:=by
 unfold fR;split
 ·exact h
 ·rename_i Y
  rw[õ,aax];refine⟨h,by simp,λa Z b X=>?_⟩;have:b=.tup ks:=by simpa using X
  rw[this];intro z;rw[z] at Z;exact Y ((kZ k hk).mpr Z)
def jT (w:Ć) (d k x:D) (s:ag):Option ag:=match d,k,x with
 | .ai j,.tup Z,.bl true=>match s[j]? with
  |some (.dT Y)=>if (cU Z&&decide (cv Z<=6)&&Y.all (keyOk w)&&decide (Y.length<Õ))=true then some (s.set j (.dT (fR w Y (.tup Z)))) else none
  |_=>none
 |_,_,_=>none
def mT (w:Ć) (f o i:DI.acn D):DI.acn Fl:=λenv s=>ao (f env s) λx s=>ao (o env s) λd s=>ao (i env s) λn s=>match jT w d n x s with
 |some Z=>ok (.nx env) Z
 |none=>none
def wo:DI.acn D:=λ_ s=>ok (.ai s.length) (s++[.dT []])
section
variable {X:Cx} {Ξ:Wd->bt->Prop} {e o i:Ņ} {pos jf:Pos} {f fo fi:DI.acn D}
def US:PE X (.Dict [] [] pos) (λ_ H Q=>∀p,H p=none->Q (.ref p) (upd H p (.ext (DX p [])))):=λY s σ H Q I h=>by
 refine wpAny_Dict_empty ⟨.ref s.heap.objs.size,_,I.laid (a:=s.heap.objs.size) (o:=.ext (DX s.heap.objs.size [])) (t':=s.toks) (λ_ _ q=>Á _ q) (acr _) (Mf ?_),rfl,h _ (I.aH.fresh (acr _))⟩;have Z:=I.big;exact⟨by simp only[beq_eq_false_iff_ne,ne_eq];intro z;rw[z] at Z;exact ì _ Z,_,#[],0,Ð _ rfl,⟨rfl,rfl,rfl⟩,rfl,rfl⟩
def Ln:PE X (.Dict [] [] pos) (tE X.K Ξ wo):=dg US fun σ H Q Y=>by
 obtain⟨w,env,W,S,V,h⟩:=Y;subst W;intro p Z;have le:=(Fw.cell (o:=.ext (DX p [])) (c:=.dT []) S Z).le (K:=X.K);refine h (w.cell p (.ext (DX p [])) (.dT [])) le (S.zY Z ⟨[],eT,rfl,aae⟩) rfl (.ref p) ⟨p,?_,rfl⟩;show (w.ρ++[p])[w.aA.length]?=some p;rw[<- S.len];simp
def XZ (K:ļ) (W:Ć):Ao:=λo i v H Q=>∃(w:Wd) (d b:â) (Z:List (D×Int)) (as:List â) (Y:List D),w.H=H/\o=.ref d/\i=.ref b/\v=.bl true/\H d=some (.ext (DX d ((Z.map (·.2)).zip as))) /\
 AllK W Z/\Z.length<Õ/\DI.ar K w (Z.map (·.1)) (as.map V.ref)/\(Z.map (·.1)).Nodup/\cU Y=true/\cv Y<=6/\DI.DV K w (.tup Y) (.ref b) /\
 Q (upd H d (.ext (DX d (((fR W Z (.tup Y)).map (·.2)).zip (if (Z.any λp=>beq p.1 (.tup Y))=true then as else as++[b])))))
def Sx {w:Ć} {ak:List (D×Int)} {as:List â} {ks:List D} {b:â} (e:ak.length=as.length):(fR w ak (.tup ks)).length=(if (ak.any λp=>beq p.1 (.tup ks))=true then as else as++[b]).length:=by
 unfold fR
 split<;>simp[e]
def X0 (hr:bZ k X.A):EE X (XZ X.K X.w):=by
 rintro f s σ H o i v c iv u Q I N M L ⟨w,d,b,Y,as,J,rfl,rfl,rfl,rfl,U,Z,G,T,V,W,S,F,q⟩;cases N;cases M;cases L;have len:Y.length=as.length:=by have:=T.length;simpa using this
 obtain⟨⟨E,C,B,z,y,hex,t,r⟩,_,_⟩:=I.aH _ _ U;have p:s.heap.DictOfH (kind X.prog X.w) d (XS Y as):=⟨C,B,z,y,hex,t,by rw[r,Cg Z len],Mg I Z T,by
  have:=CP Z len;rw[<- this] at V;have e:(XS Y as).map (λx=>D.tup x.1)=((XS Y as).map (·.1)).map D.tup:=by rw[ĉ];rfl
  rw[e] at V;exact List.Pairwise.of_map D.tup (λa b h e=>h (by rw[e])) V⟩
 have hu:X.A.units+100<abr:=by have:=hr.un;have:abr=9900:=rfl;omega
 refine wpAny_setItem_heap (hsz:=by rw[WH len];exact Nat.le_of_lt G) (knd:=kind X.prog X.w) (show X.A.in1.units+10<abr from ?_) ⟨W,S,Ah I (.tup J) (.ref b) (.ref b) (by simpa only [kd] using W) F rfl⟩ p λh' R hs=>⟨_,?_,q⟩
 ·have:X.A.in1.units<=X.A.units+1:=by first|exact acr _|exact Ů _
  omega
 ·rw[QX Z len W] at R
  obtain⟨P,n,m,O,l,j,g,_⟩:=R;refine Ut I (by rw[U];exact True.intro) hs ⟨P,O⟩ (Mf ⟨E,P,n,m,O,l,j,?_⟩);rw[g];exact(Cg (Sw Z W S) (Sx len)).symm
def DC (hW:X.w=W) (hr:bZ k X.A) (he:PE X e (tE X.K Ξ f)) (ho:PE X o (tE X.K Ξ fo)) (hi:PE X i (tE X.K Ξ fi))
 (ha:∀v,aai (.Subscript o i jf) X.env v=(do
   let ov <- aaj [v] (ś o X.env)
   let iv <- aaj [v,ov] (ś i X.env)
   aak jf
   aaj [v,ov,iv] (setItem ov iv v)
   release [v,ov,iv] []):=by intro _;rfl)
 (hs:θ [.Subscript o i jf] e pos.line X.env=pure false:=by rfl) (hw:ι [.Subscript o i jf] e X.env=pure none:=by rfl)
 (h1:(ų [.Subscript o i jf] X.env).map (·.2)=[aai (.Subscript o i jf) X.env]:=by rfl):PS X (.Assign [.Subscript o i jf] e pos) (tS X.K Ξ (mT W f fo fi)) :=
 kg (Dd he (KQ ho hi (X0 hr) ha) hs hw h1) λD0 σ H C=>by
  subst hW;obtain⟨w,env,B,S,V,h⟩:=C;subst B;refine⟨w,env,rfl,S,V,(Out.ao h).mono λy x Q t h1 u s=>?_⟩;refine⟨y,env,rfl,t,V.le Q,(Out.ao h1).mono λr d P q l v g=>?_⟩;refine⟨r,env,rfl,q,V.le (Q.trans P),(Out.ao l).mono λO n N M U m L=>?_⟩
  cases Z:jT X.w d n x O.aA with
  |none=>rw[Z] at U;exact U.elim
  |some s' =>
   rw[Z] at U;unfold jT at Z;split at Z
   ·rename_i j T
    split at Z
    ·rename_i Y J
     split at Z
     ·rename_i I
      simp only[Ê,È] at I;obtain⟨⟨⟨G,k2⟩,k3⟩,k4⟩:=I;cases Z;obtain⟨a,e1,rfl⟩:=(N _ _ g);obtain⟨as,q1,R,F⟩:=M.cell j a _ e1 J;have E:=Iv k3;have eu:u=.bl true:=((P.trans N) _ _ s);have D:=L;simp only[DI.DV] at D;obtain⟨b,_,rfl,_⟩:=D;have len:Y.length=as.length:=by have:=R.length;simpa using this
      have le:=(Fw.put (o:=.ext (DX a (((fR X.w Y (.tup T)).map (·.2)).zip (if (Y.any λp=>beq p.1 (.tup T))=true then as else as++[b])))) (c:=.dT (fR X.w Y (.tup T))) M e1 J (by intro z;cases z)).le
      refine⟨O,a,b,Y,as,T,rfl,rfl,rfl,eu,q1,E,k4,R,F,G,k2,L,?_⟩;refine U (O.put j a _ _) le (M.EU e1 J (by intro z;cases z) ⟨_,eT,?_,PZ E G F⟩) rfl σ (V.le (Q.trans (P.trans (N.trans le))));refine le.all ?_;unfold fR;split
      ·exact R
      ·rw[õ,õ]
       exact R.append (ar.one L)
     ·cases Z
    ·cases Z
   ·cases Z
end
end TK
namespace TK
open PySem PySem.W PyProof.Rows DI L2
def jU (h:Ţ) (d:â) (es:Array acd) (ep:Nat):Prop:=∃o,h.get? d=some o/\o.ExactDict/\o.data=.dict es ep
section
variable {prog:ö} {w:Ć} {A:Đ} {E:Ì->Ç->Prop} {s:Ç} {d it:â} {es:Array acd} {ep i:Nat}
def jU.ty (r:jU s.heap d es ep):s.TypeIs (.ref d) "dict":=by obtain⟨o,Z,x,_⟩:=r;exact⟨o,Z,x.1⟩
def jU.lt (r:jU h d es ep):d<h.objs.size:=by obtain⟨o,Z,_⟩:=r;exact Ò Z
def Sy (hd:(d==Ų)=false) (r:jU s.heap d es ep)
 (hQ:Q (.ref s.heap.objs.size) { s with heap:=s.heap.push { cls:=.type "dict_keyiterator",data:=.fields #[.ref d,.int 0 0,.int es.size 0,.int ep 0] } }):Ü (í prog w) A (acj (.ref d)) Q E s:=by
 have ty:=r.ty;obtain⟨o,Z,x,Y⟩:=r;refine wpAny_pyIter_slot ty F.slot_dict_iter (ÿ F.slot_dict_iter ty F.entry_dict_iter ?_ (F.args_dict_iter_1 _));unfold ő.«dict.__iter__» Builtin.Dict.dictSlotNone;refine À (À (wpAny_notOrdered_dict ty ?_));refine(Â ?_:Ü _ _ (pure (υ d)) _ _ s);show Ü _ _ (Builtin.Dict.showsAll d >>= _) _ _ s;unfold Builtin.Dict.showsAll;rw[æ (by rw[hd];decide)];refine À (Â (À (wpAny_dictEntries Z Y (À (wpAny_dictEpoch Z Y ?_)))));refine À (î (Â ⟨_,rfl,"dict_keyiterator",_,⟨_,Ð _ rfl,rfl⟩,ň.lookup,?_⟩));simpa [Ř] using hQ
def Sz (hit:s.heap.IsKeyIter it d i es.size ep) (r:jU s.heap d es ep) (he:es[i]?=some e)
 (hQ:∀h',h'.IsKeyIter it d (i+1) es.size ep->Ľ it s.heap h'->Q (some e.key) { s with heap:=h' }):Ü (í prog w) A (Š (.ref it)) Q E s:=by
 obtain⟨S,Y,ci,Z⟩:=id hit;obtain⟨R,X,_,W⟩:=r;have own:abK "dict_keyiterator"=false:=by decide
 unfold Š;refine À (ν (ă (name:=ð "__next__") hit.typeIs ň (ÿ ň hit.typeIs F.entry_dict_keyiterator_next ?_ (F.args_dict_keyiterator_next_1 _))));refine À (Â (À (À (À (ş hit.typeIs (Â (À (aaI Y Z ?_))))))));simp only[own,Ä,ê]
 refine(show Ü _ _ (if (υ d==Value.none)=true then _ else _) _ _ s from ?_)
 rw[æ (show ¬ ((υ d==Value.none)=true) by intro z;cases z)];refine À (Â (À (wpAny_dictEntries X W ?_)));rw[æ (by simp)];refine À (Â (À (wpAny_dictEpoch X W ?_)));rw[æ (by simp)];refine Â ?_;simp only[show ¬ ((i:Int)<0) by omega,ê,ò,he];refine À (À (ş hit.typeIs (Â (À (wpAny_isOneOf_keyiter hit.typeIs ?_)))));show Ü _ _ (setField (.ref it) 1 (Ř ((i:Int)+1)) >>= _) _ _ s;refine À (ũ Y Z (by simp) ?_);generalize V:s.heap.update it (Obj.mapFields (·.setIfInBounds 1 (Ř ((i:Int)+1))))=h';have T:Ľ it s.heap h':=by rw[<- V];exact ģ ..
 have U:h'.IsKeyIter it d (i+1) es.size ep:=by
  rw[<- V];exact⟨_,Ĉ _ Y (Ň (Ē Z _)),(aav ..).trans ci,by rw[Ē Z];simp[Ř]⟩
 refine À (Ė (À (wpAny_isOneOf_keyiter (s:={ s with heap:=h' }) U.typeIs ?_)))
 show Ü _ _ (pure e.key) _ _ _;exact Â (Â ⟨_,rfl,Â (hQ _ U T)⟩)
def UT (hh:A.handled=none) (hit:s.heap.IsKeyIter it d i es.size ep) (r:jU s.heap d es ep) (A2:es.size<=i)
 (hQ:∀h',abf it s.heap h'->Q none { s with heap:=h' }):Ü (í prog w) A (Š (.ref it)) Q E s:=by
 obtain⟨V,Z,ci,Y⟩:=id hit;obtain⟨U,X,_,W⟩:=r;have own:abK "dict_keyiterator"=false:=by decide
 unfold Š;refine À (ν (ă (name:=ð "__next__") hit.typeIs ň (ÿ ň hit.typeIs F.entry_dict_keyiterator_next ?_ (F.args_dict_keyiterator_next_1 _))));refine À (Â (À (À (À (ş hit.typeIs (Â (À (aaI Z Y ?_))))))));simp only[own,Ä,ê]
 refine(show Ü _ _ (if (υ d==Value.none)=true then _ else _) _ _ s from ?_)
 rw[æ (show ¬ ((υ d==Value.none)=true) by intro z;cases z)];refine À (Â (À (wpAny_dictEntries X W ?_)));rw[æ (by simp)];refine À (Â (À (wpAny_dictEpoch X W ?_)));rw[æ (by simp)];refine Â ?_;simp only[show ¬ ((i:Int)<0) by omega,ê,ò,Array.getElem?_eq_none A2];refine À (À (ş hit.typeIs (Â ?_)));refine(À (ũ Z Y (by simp) ?_):Ü _ _ (setField (.ref it) 0 .none >>= _) _ _ s);show Ü _ _ (newExc (.type "StopIteration") [] >>= _) _ _ _;simp only[newExc,newTuple];refine À (À (î ?_ (by size_fits)))
 refine À (m:=aaF _ _) (ŭ (a:=Value.none) (by first|rfl | (simp only[aaF];rfl)) (î ?_ (by size_fits)))
 simp only[raiseNew];refine À (wpAny_handled ?_);rw[show A.in1.handled=none from hh];refine À (Â (wpAny_throw ?_));refine À (aaL (T:="StopIteration") (b:=true) ⟨_,Ð _ rfl,rfl⟩ isSubtype_stop ?_);exact Â (hQ _ (((ģ ..).extBut.push _).push _))
def jU.at (r:jU h d es ep) (k:∀o,h.get? d=some o->h'.get? d=some o):jU h' d es ep:=by obtain⟨o,Z,x⟩:=r;exact⟨o,k o Z,x⟩
def QY (hh:A.handled=none) (I:â) (gk:d≠I) :
  Walks prog w A I [I,d] [I] es.size (λi v=>∃e,es[i]?=some e/\v=e.key) (λi h=>h.IsKeyIter I d i es.size ep/\jU h d es ep) where
 sub:=λb Y=>by simp at Y;simp[Y]
 frame:=λ_ _ _ Z U=>⟨Z.1.at λo e=>U I (by simp) o e,Z.2.at λo e=>U d (by simp) o e⟩
 item:=λi s Q E hi Z X=>by
  have T:es[i]?=some es[i]:=by simp[hi]
  exact Sz Z.1 Z.2 T λW R S=>X _ W s.toks ⟨_,T,rfl⟩ ⟨R,Z.2.at λo e=>S.extBut d o gk e⟩ λb o Y e=>S.extBut b o (λh=>Y (by simp[h])) e
 done:=λs Q E Z X=>UT hh Z.1 Z.2 (acr _) λW V=>X W s.toks λb o Y e=>V b o (λh=>Y (by simp[h])) e
 self:=λ_ _ _ _ Z X=>wpAny_pyIter_keyiter Z.1 X
def UU (lo:(d==Ų)=false):KdlSrc prog w "dict" d d es.size (λi v=>∃e,es[i]?=some e/\v=e.key) (λh=>jU h d es ep) where
 type:=λ_ Z=>Z.ty
 there:=λ_ Z=>⟨Z.lt,Z.lt⟩
 keep:=λ_ _ Z X=>Z.at λo e=>X d (.inl rfl) o e
 notList:=by decide
 notTuple:=by decide
 hint:=λ_ _ _ _ Z Y=>kdl_hint_dict Z.ty Y
 iter:=λ_ _ W Z=>⟨_,_,(λ_ _ Y=>Sy lo Z Y),QY W _ (ë Z.lt),⟨⟨_,Ð _ rfl,rfl,rfl⟩,Z.at λo e=>Á _ e⟩⟩
end
def tI (ds:List D) (s:ag):Res D:=match ds with
 | [.ai j]=>match s[j]? with
  |some (.dT Z)=>if Z.length<=Õ then ok (.lst (Z.map (·.1))) s else none
  |_=>none
 |_=>none
theorem Jm:∀as:List â,Vals (as.map V.ref) (as.map υ)
 | []=>.nil
 |_::as=>.cons rfl (Jm as)
section
variable {X:Cx} {Ξ:Wd->bt->Prop}
def UW (hc:X.calm=true):cB X (.type "list") (rC X.K Ξ tI):=by
 rintro l s σ H k g Q I r ⟨w,f,rfl,S,F,h⟩;unfold tI at h;split at h
 ·rename_i j
  split at h
  ·rename_i O E
   split at h
   ·rename_i N
    obtain⟨v,d,rfl,D,C⟩:=F;cases C;obtain⟨a,e1,rfl⟩:=D
    cases r with
    |cons r B =>
    cases B;cases r;obtain⟨as,A,M,c⟩:=S.cell j a _ e1 E;have len:O.length=as.length:=by have:=M.length;simpa using this
    obtain⟨⟨z,y,L,x,u,hex,t,J⟩,_,_⟩:=I.aH _ _ A;have U:L.size=as.length:=by rw[<- ý,J];simp[len]
    refine kdl_call (UU z) (I.ok.hd hc) (⟨y,u,hex,t⟩:jU s.heap a L x) (by rw[U,<- len];exact N) λb q Y p o n T=>?_;have W:w.H s.heap.objs.size=none:=I.aH.fresh (acr _);have ev:Y.toList=as.map υ:=by
     apply Ŗ;intro i;rw[Ł];by_cases hi:i<as.length
     ·have m:i<Y.size:=by rw[T.1,U];exact hi
      have G:Y[i]?=some Y[i]:=Array.getElem?_eq_getElem m;obtain⟨e,R,ev⟩:=T.2 i _ G;rw[G,ev];rw[<- Ł,J] at R;have P:i<O.length:=by omega
      simp only[á,List.zip,List.getElem?_zipWith,Ë P,Ë hi,Ŭ] at R |-;rw[<- acs R]
     ·rw[Array.getElem?_eq_none (by rw[T.1,U];omega),ú (by rw[Ã];omega)]
    refine⟨.ref s.heap.objs.size,upd w.H s.heap.objs.size (.lst (as.map V.ref)),I.laid (t':=q) o (acr _) ?_,rfl,?_⟩
    ·refine⟨by rw[Ã,<- len];exact N,Y.toList,p,?_,by simpa using n⟩
     rw[ev];exact Jm as
    ·exact h (w.grow _ (.lst (as.map V.ref))) (Fw.grow W).le (S.grow W) rfl (.ref s.heap.objs.size) ⟨_,_,rfl,⟨(show ¬ w.Z _ from qr S W),eT⟩,(Fw.grow W).le.all M⟩
   ·exact h.elim
  ·exact h.elim
 ·exact h.elim
end
open HT
section
variable {s:Ç}
def X2 (kx:kd x=true) (ky:kd y=true) (hu:A.units+dep x<abr) (hx:KA s.heap x vx) (hy:KA s.heap y vy):SeqAt.EqAt A s vx vy (beq x y):=by
 obtain⟨as,Z⟩:=KA.reads _ _ hx;obtain⟨bs,Y⟩:=KA.reads _ _ hy;obtain⟨X,W⟩:=ll _ (qv _ kx);obtain⟨V,U⟩:=ll _ (qv _ ky);have:=SeqAt.eqAt_reads _ _ A s vx vy as bs Z Y X V (by rw[W];omega);rw[tF _ _ (qv _ kx) (qv _ ky)] at this;exact this
mutual
theorem X3:∀(A:Đ) (x y:D) (b:Bool) (vx vy:Ì),i4 x y=some b->kd x=true->kd y=true->A.units+5*dep x+5<abr->KA s.heap x vx->KA s.heap y vy->E8 A s vx vy b
 |A,.int i,y,b,vx,vy,h,_,_,_,Z,Y=>by
  cases y with
  |int j =>
   cases h;obtain⟨t,rfl⟩:=Z;obtain⟨X,rfl⟩:=Y;exact λprog w E Q q=>IU A s i t j X prog w E Q q
  |_=>cases h
 |A,.str i,y,b,vx,vy,h,_,_,_,Z,Y=>by
  cases y with
  |str j =>
   cases h;obtain⟨t,rfl⟩:=Z;obtain⟨X,rfl⟩:=Y;exact λprog w E Q q=>(PyProof.Rows.lt_str q:Ü (í prog w) A (Č .Lt (.str i t) (.str j X)) Q E s)
  |_=>cases h
 |A,.tup U,y,b,vx,vy,h,W,ky,T,Z,Y=>by
  cases y with
  |tup S =>
   simp only[i4] at h;simp only[KA] at Z Y;obtain⟨a,o,its,n,rfl,R,P,O,r⟩:=Z;obtain⟨G,N,V,M,rfl,L,K,J,I⟩:=Y;simp only[dep] at T;simp only[kd] at W ky;exact λprog w E Q q=>J8 ⟨o,R,P,n,O⟩ ⟨N,L,K,M,J⟩ (λH F=>DD H U S b _ _ h W ky (by omega) r I) (by omega) q
  |_=>cases h
 |_,.au,_,_,_,_,_,k,_,_,_,_=>by cases k
 |_,.bl _,_,_,_,_,_,k,_,_,_,_=>by cases k
 |_,.lst _,_,_,_,_,_,k,_,_,_,_=>by cases k
 |_,.bJ _,_,_,_,_,_,k,_,_,_,_=>by cases k
 |_,.ai _,_,_,_,_,_,k,_,_,_,_=>by cases k
 |_,.ty _,_,_,_,_,_,k,_,_,_,_=>by cases k
 |_,.bQ _,_,_,_,_,_,k,_,_,_,_=>by cases k
theorem DD:∀(A:Đ) (xs ys:List D) (b:Bool) (ps qs:List Ì),gB xs ys=some b->cU xs=true->cU ys=true->A.units+5*cv xs+5<abr->dH s.heap xs ps->dH s.heap ys qs->jJ A s ps qs b
 |A,[],ys,b,ps,qs,h,_,_,_,V,Z=>by
  cases V
  cases ys with
  |nil=>cases h;cases Z;exact .nn
  |cons y ys=>cases h;obtain⟨v,r,rfl,_⟩:=Z;exact .nc _ _
 |A,x::xs,ys,b,ps,qs,h,Y,ky,T,V,Z=>by
  obtain⟨v,r,rfl,U,S⟩:=V
  cases ys with
  |nil=>cases h;cases Z;exact .cn _ _
  |cons y ys =>
   obtain⟨u,R,rfl,g1,g2⟩:=Z;simp only[cU,Ê] at Y ky;simp only[cv] at T;have Q:=Nat.le_max_left (dep x) (cv xs);have P:=abz (dep x) (cv xs);have X:=X2 (A:=A) Y.1 ky.1 (by omega) U g1;simp only[gB] at h;split at h
   ·rename_i W
    rw[W] at X;exact .eq X (DD A xs ys b _ _ h Y.2 ky.2 (by omega) S g2)
   ·rename_i W
    rw[aaa] at W;rw[W] at X;exact .lt X (X3 A x y b _ _ h Y.1 ky.1 (by omega) U g1)
end
end
section
variable {prog:ö} {w:Ć} {A:Đ} {E:Ì->Ç->Prop} {s:Ç}
def QZ (h:jJ A s xs ys b):∀(i:Nat),fin=decide (xs.length<ys.length)->Q b s->KatLex prog w A t fin Q (xs.zip ys) (i+1) s:=by
 induction h with
 |nn=>intro i Z q;rw[Z];exact q
 |nc y ys=>intro i Z q;rw[Z];exact q
 |cn x xs=>intro i Z q;rw[Z];exact q
 |eq Y _ ih =>
  intro i Z q;rw[ġ];exact kat_cons (Y prog w _ _ (kat_yes (ih (i+1) (by rw[Z];simp) q)))
 |lt Y X =>
  intro i Z q;rw[ġ];refine kat_cons (Y prog w _ _ (kat_no ?_));rw[show (t&&(i+1==0))=false by simp];exact kat_one _ _ (X prog w _ _ q)
def Q0 (hs:x=y->jJ A s xs ys b) (hf:fin=decide (xs.length<ys.length)) (q:Q (if x=y then b else decide (x.cps.toList<y.cps.toList)) s) :
  KatLex prog w A true fin Q ((.str x t::xs).zip (.str y u::ys)) 0 s:=by
 rw[ġ];refine kat_cons (wpAny_eqBool_str ?_);by_cases e:x=y
 ·rw[ß e] at q
  rw[à e];exact kat_yes (QZ (hs e) 0 hf q)
 ·rw[æ e] at q
  rw[è e];exact kat_no (oneLt_str q)
end
inductive Pg where
 |made (m d:Int) (h l:List Int)
 |aU (m d k:Int)
noncomputable def ti (l:List Int):D:=.tup (l.map D.int)
def Pg.d:Pg->D
 | .made m d h l=>.tup [.str "made",.int m,.int d,.tup [ti h,ti l]]
 | .aU m d k=>.tup [.str "mended",.int m,.int d,.int k]
def Lo (h:ti a=ti b):a=b:=by
 injection h with h
 exact List.map_inj_right (λx y e=>by injection e) |>.mp h
def Pg.Mh {p q:Pg} (h:p.d=q.d):p=q:=by
 cases p<;>cases q<;>simp only[Pg.d,D.tup.injEq,aa4,D.int.injEq,and_true,reduceCtorEq,and_false,false_and] at h
 ·obtain⟨_,Z,Y,X,W⟩:=h
  rw[Z,Y,Lo X,Lo W]
 ·obtain⟨_,Z,Y,X⟩:=h
  rw[Z,Y,X]
noncomputable def encL:List Int->List Int
 | []=>[0]
 |x::Z=>1::x::encL Z
def Pg.enc:Pg->List Int
 | .made m d h l=>0::m::d::(encL h++encL l)
 | .aU m d k=>[1,m,d,k]
theorem Ci:∀{a b u v:List Int},encL a++u=encL b++v->a=b/\u=v
 | [],[],u,v,h=>by simpa [encL] using h
 | [],y::b,u,v,h=>by simp[encL] at h
 |x::a,[],u,v,h=>by simp[encL] at h
 |x::a,y::b,u,v,h=>by
  simp only[encL,ĕ,aa4,true_and] at h;obtain⟨Z,Y⟩:=Ci h.2;exact⟨by rw[h.1,Z],Y⟩
def Pg.UX {p q:Pg} (h:p.enc=q.enc):p=q:=by
 cases p<;>cases q<;>simp only[Pg.enc,aa4,and_true,true_and,reduceCtorEq,false_and,Int.reduceEq] at h
 ·obtain⟨Y,X,W⟩:=h
  have Z:=Ci (u:=encL _++[]) (v:=encL _++[]) (by simpa using W);have V:=Ci Z.2;rw[Y,X,Z.1,V.1]
 ·rw[h.1,h.2.1,h.2.2]
def fW:ST.Ord Pg where
 lt p q:=lexLt p.enc q.enc
 Ge p:=ST.CO _
 tr _ _ _ h g:=ST.Wx _ _ _ h g
 xW _ _ h g:=Pg.UX (ST.UQ _ _ h g)
theorem Iw:∀a b:List Int,ik (a.map D.int) (b.map D.int)=decide (a=b)
 | [],[]=>rfl
 | [],_::_=>rfl
 |_::_,[]=>rfl
 |x::a,y::b=>by
  simp only[Ö,ik,beq,Iw a b]
  by_cases e:x=y<;>simp[e]
theorem Iy:∀a b:List Int,gB (a.map D.int) (b.map D.int)=some (lexLt a b)
 | [],[]=>rfl
 | [],_::_=>rfl
 |_::_,[]=>rfl
 |x::a,y::b=>by
  simp only[Ö,gB,beq,i4,j9,Iy a b]
  by_cases e:x=y<;>simp[e]
theorem CQ:∀a b u v:List Int,lexLt (encL a++u) (encL b++v)=if a=b then lexLt u v else lexLt a b
 | [],[],u,v=>by simp[encL,j9]
 | [],y::b,u,v=>by simp[encL,j9];rfl
 |x::a,[],u,v=>by simp[encL,j9];rfl
 |x::a,y::b,u,v=>by
  simp only[encL,ĕ,j9,ô,CQ a b u v,aa4]
  by_cases e:x=y<;>simp[e]
def Mi (p q:Pg):i4 p.d q.d=some (fW.lt p q):=by
 have T:¬ ((ð "made")=ð "mended"):=by decide +kernel
 have S:¬ ((ð "mended")=ð "made"):=by decide +kernel
 have R:decide ((ð "made").cps.toList<(ð "mended").cps.toList)=true:=by decide +kernel
 have Q:decide ((ð "mended").cps.toList<(ð "made").cps.toList)=false:=by decide +kernel
 show _=some (lexLt p.enc q.enc)
 cases p with
 |made m d h l =>
  cases q with
  |made Z Y V X =>
   simp only[Pg.d,Pg.enc,i4,gB,beq,ik,ti,j9,Iw,Iy,CQ,ě,ô,ο];have:=CQ l X [] [];simp only[Ķ] at this;rw[this]
   by_cases e1:m=Z<;>by_cases e2:d=Y<;>by_cases W:h=V<;>by_cases P:l=X<;>simp[e1,e2,W,P,ST.CO]
  |aU Z Y U=>simp only[Pg.d,Pg.enc,i4,gB,beq,j9,beq_iff_eq,T,R,ê];simp
 |aU m d k =>
  cases q with
  |made Z Y V X=>simp only[Pg.d,Pg.enc,i4,gB,beq,j9,beq_iff_eq,S,Q,ê];simp
  |aU Z Y U =>
   simp only[Pg.d,Pg.enc,i4,gB,beq,j9,ě,ô]
   by_cases e1:m=Z<;>by_cases e2:d=Y<;>by_cases W:k=U<;>simp[e1,e2,W,ST.CO]
def UY (l:List Int):cU (l.map D.int)=true:=by
 induction l with
 |nil=>rfl
 |cons x l ih=>simpa only [Ö,cU,kd,û] using ih
def SA (l:List Int):cv (l.map D.int)=0:=by
 induction l with
 |nil=>rfl
 |cons x l ih=>simp only[Ö,cv,dep,ih];rfl
def lu (p:Pg):kd p.d=true:=by
 have Z:abx "made"=true:=by decide +kernel
 have Y:abx "mended"=true:=by decide +kernel
 cases p<;>simp only[Pg.d,kd,cU,ti,UY,Z,Y,ĵ]
def DE (p:Pg):dep p.d<=3:=by
 cases p<;>simp only[Pg.d,dep,cv,ti,SA]<;>decide
def Jn (p:Pg):∃(x:Str) (r:List D),p.d=.tup (.str x::r):=by
 cases p<;>exact⟨_,_,rfl⟩
def D8 {h:Ţ} {p:Pg} {v:Ì} (q:KA h p.d v):∃(x:Str) (r:List D) (a:â) (o:Obj) (its:Array Ì) (n:Nat) (t:Tok) (us:List Ì),p.d=.tup (.str x::r)/\v=.ref a/\h.get? a=some o/\o.cls=.type "tuple"/\o.data=.seq its n/\its.toList=.str x t::us/\dH h r us/\cU r=true:=by
 obtain⟨x,r,e⟩:=Jn p;have k:=lu p;rw[e] at q k;simp only[KA] at q;obtain⟨a,o,its,n,e1,Z,Y,X,u,us,e2,⟨t,W⟩,V⟩:=q;simp only[kd,cU,Ê] at k;exact⟨x,r,a,o,its,n,t,us,e,e1,Z,Y,X,by rw[e2,W],V,k.2⟩
section
variable {prog:ö} {w:Ć} {A:Đ} {E:Ì->Ç->Prop} {s:Ç}
def Q2:∀{ps:List Pg} {us:List Ì},dH s.heap (ps.map Pg.d) us->∃fs,KatTups s.heap us fs/\(∀v∈fs,∃x t,v=Value.str x t)/\fs.length=us.length:=by
 intro ps
 induction ps with
 |nil=>intro us h;cases h;exact⟨[],KatTups.nil,λv (hv:v∈[])=>(Ĝ hv).elim,rfl⟩
 |cons p ps ih =>
  intro us h;obtain⟨v,r,rfl,Z,Y⟩:=h;obtain⟨fs,X,W,V⟩:=ih Y;obtain⟨x,_,a,o,its,n,t,R,_,rfl,U,T,S,hi,_⟩:=D8 Z;refine⟨.str x t::fs,.cons U T S (by rw[<- Ł,hi];rfl) X,λv hv=>?_,by simp[V]⟩
  rcases Ó.mp hv with rfl|hv
  ·exact⟨x,t,rfl⟩
  ·exact W v hv
def kas_get:∀{ds:List D} {us:List Ì},dH h ds us->∀i,i<us.length->KA h (ds.getD i .au) (us.getD i Value.none):=by
 intro ds
 induction ds with
 |nil=>intro us h i hi;cases h;cases hi
 |cons d ds ih =>
  intro us h i hi;obtain⟨v,r,rfl,Z,Y⟩:=h
  cases i with
  |zero=>exact Z
  |succ i=>exact ih Y i (by simpa using hi)
def UZ:∀{ds:List D} {us:List Ì},dH h ds us->ds.length=us.length:=by
 intro ds
 induction ds with
 |nil=>intro us h;cases h;rfl
 |cons d ds ih=>intro us h;obtain⟨v,r,rfl,Y,Z⟩:=h;simp[ih Z]
def WI (hu:A.units+100<abr) (h1:KA s.heap p.d v) (h2:KA s.heap q.d u) (hC:C (fW.lt p q) s):Ü (í prog w) A (keyLt' (tuples' true) v u) C E s:=by
 obtain⟨x,r,a,o,its,n,t,M,e,rfl,V,L,U,hi,T,k⟩:=D8 h1;obtain⟨Z,S,K,J,X,I,H,R,Q,rfl,P,G,O,W,Y,N⟩:=D8 h2;have dl:=DE p;rw[e] at dl;simp only[dep,cv] at dl;have lt:=Mi p q;rw[e,Q] at lt;simp only[i4,gB] at lt;have be:beq (.str x) (.str Z)=true↔x=Z:=by simp[beq]
 refine kat_lt V U P O ?_;rw[hi,W];refine Q0 (b:=fW.lt p q) (λex=>?_) ?_ ?_
 ·rw[ß (be.mpr ex)] at lt
  exact DD A r S _ _ _ lt k N (by have:=abz (0:Nat) (cv r);omega) T Y
 ·simp[<- ý,hi,W]
 ·by_cases ex:x=Z
  ·rw[ß ex];exact hC
  ·rw[æ λz=>ex (be.mp z)] at lt
   rw[æ ex,acs lt];exact hC
def SD {us:List Ì} {ps:List Pg} (t:dH s.heap (ps.map Pg.d) us) (h2:2<=us.length) (hu:A.units+100<abr) (d:Pg):ST.AJ prog w A fW (λi=>ps.getD i d) us s:=by
 obtain⟨fs,Z,Y,S⟩:=Q2 t;have X:=UZ t;rw[Ã] at X;have at_:∀i,i<us.length->KA s.heap (ps.getD i d).d (us.getD i Value.none):=λi hi=>by
  have:=kas_get t i hi;rwa [show (ps.map Pg.d).getD i .au=(ps.getD i d).d by simp[δ,á,Ë (show i<ps.length by omega)]] at this
 unfold ST.AJ;refine kat_kind (T:=.type "str") Z (by omega) (λv W=>?_) (by decide) ⟨rfl,λi j C hi V U=>?_⟩
 ·obtain⟨x,R,rfl⟩:=Y v W
  exact .of_pure rfl
 ·exact WI hu (at_ i hi) (at_ j V) U
end
end TK
namespace TK
open PySem PySem.W PyProof.Rows DI L2
open Classical in
def Ai (xs:List D):Option D:=if h:∃Z:List Pg,xs=Z.map Pg.d then some (.lst ((ST.kC fW (Classical.choose h)).map Pg.d)) else none
def P0:∀{a b:List Pg},a.map Pg.d=b.map Pg.d->a=b:=λh=>List.map_inj_right (λ_ _ e=>Pg.Mh e) |>.mp h
def Jo (ps:List Pg):Ai (ps.map Pg.d)=some (.lst ((ST.kC fW ps).map Pg.d)):=by
 unfold Ai;have h:∃Z:List Pg,ps.map Pg.d=Z.map Pg.d:=⟨ps,rfl⟩;rw[dif_pos h];have:=P0 (Classical.choose_spec h);rw[<- this]
def tJ (ds:List D) (s:ag):Res D:=match ds with
 | [d]=>match res d s with
  | .lst Z=>if Z.length<64 then bE (Ai Z) s else none
  |_=>none
 |_=>none
section
variable {X:Cx} {Ξ:Wd->bt->Prop}
def U0 (ps:List Pg):cU (ps.map Pg.d)=true:=by
 induction ps with
 |nil=>rfl
 |cons p ps ih=>simp only[Ö,cU,lu,ih,ĵ]
def U1 (hr:bZ k X.A):cB X (.builtin "sorted") (rC X.K Ξ tJ):=by
 rintro n s σ H N m Q I r ⟨w,l,rfl,S,Y,h⟩;unfold tJ at h;split at h
 ·obtain⟨v,rfl,G⟩:=nO Y
  split at h
  ·rename_i F e1
   obtain⟨a,N,rfl,E,Y⟩:=i8 S G e1;split at h
   ·rename_i j
    obtain⟨g,e2,h⟩:=f6 h;obtain⟨u,rfl,D⟩:=vals1 r;cases D;obtain⟨its,W,C,B⟩:=I.list (bq.of E);have R:its.length=F.length:=W.length.symm.trans Y.length.symm;have V:=e2;unfold Ai at V;split at V
    ·rename_i Z
     obtain⟨U,z⟩:=Z;clear V;subst z;rw[Jo] at e2;cases e2;have M:U.length=its.length:=by rw[R,Ã]
     refine ST.QQ (O:=fW) (x:=λi=>U.getD i (.aU 0 0 0)) C.isList (by omega) (λy f P=>SD (dH.keep (λb o T _ _=>P b o T) _ _ (DA I _ _ _ (U0 U) Y W)) y (by have:=hr.un;show X.A.units+1+1+100<abr;have:abr=9900:=rfl;omega) _) λq c b e Z L P T t=>?_;have J:∀i∈q.toList,i<(U.map Pg.d).length:=λi hi=>by rw[<- R];exact ñ.mp (Z.2.mem_iff.mp hi)
     rw[<- M] at Z L;have p:=I.aH.fresh T;refine⟨.ref b,_,I.laid (o:=.lst (q.toList.map λi=>N.getD i .au)) (t':=s.toks) P T ⟨?_,_,e,QW W (by rw[R];exact J),t⟩,rfl,?_⟩
     ·rw[Ã,ý,Z.1,M,W.length.symm];exact B
     ·refine AD S ?_ h b p
      rw[<- Sr Z L];exact Sq Y J
    ·cases V
   ·exact h.elim
  ·exact h.elim
 ·exact h.elim
end
section
variable {prog:ö} {w:Ć} {A:Đ} {E:Ì->Ç->Prop} {s:Ç}
end
section
variable {X:Cx} {Ξ:Wd->bt->Prop} {e:Ņ} {te:TE} {pos p2 p4:Pos} {f:DI.acn D}
end
def D9 (f:DI.acn D):DI.acn D:=λenv s=>ao (f env s) λx s=>ao (truth x s) λb s=>ok (.bl (!b)) s
def WJ (ha:PE X a (tE X.K Ξ f)):PE X (.UnaryOp .Not a pos) (tE X.K Ξ (D9 f)):=by
 rintro Y s σ H Q I ⟨w,env,rfl,S,U,h⟩;refine UnaryOp_ (aG (ha Y s σ w.H (λv W=>∃b,qZ X.K v W b/\Q (.bl (!b)) W) I ⟨w,env,rfl,S,U,(Out.ao h).mono λE x D V T v R=>?_⟩) λv P ⟨x,O,N,M,b,L,J⟩=>?_)
 ·obtain⟨b,t,G⟩:=qZ.of V R (Out.ao T)
  exact⟨b,t,aF V G _ rfl⟩
 ·refine not_of (ĝ (KU Y P σ O x v (λc Z=>Q (.bl (!c)) Z) N M ⟨b,L,J⟩) (λc C ⟨Z,F,q⟩=>⟨.bl (!c),Z,F,rfl,q⟩) λ_ _ z=>z)
end TK
namespace ST
open PySem PySem.Spec PyProof.Rows
section
variable {prog:ö} {w:Ć} {A:Đ} {E:Ì->Ç->Prop} {s:Ç}
end
end ST
namespace DI
open PySem L2
section
variable {X:Cx} {Ξ:Wd->bt->Prop}
end
section
variable {X:Cx} {Ξ:Wd->bt->Prop} {e o i:Ņ} {pos jf:Pos} {f fo fi:acn D}
end
end DI
namespace L2
open PySem PySem.Spec PyProof.Rows
section
variable {X:Cx}
end
end L2
namespace DI
open PySem L2
section
variable {X:Cx} {Ξ:Wd->bt->Prop}
end
end DI
namespace L2
open PySem PySem.Spec PyProof.Rows
section
variable {X:Cx}
end
end L2
namespace DI
open PySem L2
section
variable {X:Cx} {Ξ:Wd->bt->Prop} {a:Ņ} {pos:Pos} {f:acn D}
end
end DI
namespace L2
open PySem PySem.Spec PyProof.Rows
section
variable {X:Cx}
end
end L2
namespace DI
open PySem L2
section
variable {X:Cx} {Ξ:Wd->bt->Prop} {pos:Pos}
end
end DI
namespace L2
open PySem PySem.Spec PyProof.Rows
end L2
namespace DI
open PySem L2
section
variable {X:Cx} {Ξ:Wd->bt->Prop}
end
end DI
namespace L2
open PySem PySem.Spec PyProof.Rows
open AutoSeq1 (wpAny_loadPart')
section
variable {prog:ö} {w:Ć} {A:Đ} {E:Ì->Ç->Prop} {s:Ç}
end
section
variable {X:Cx}
end
end L2
namespace DI
open PySem L2
section
variable {X:Cx} {Ξ:Wd->bt->Prop} {a:Ņ} {p pos:Pos} {fa:acn (List D)}
end
end DI
namespace L2
open PySem PySem.Spec PyProof.Rows
section
variable {X:Cx} {pos:Pos}
def X4 (i j k:Nat) (ta:TA):TS:=λD σ H=>ta σ H λZ Y=>∃v w u,Z=[v,w,u]/\D.nx (((σ.set i (some v)).set j (some w)).set k (some u)) Y
def vals3 (r:Vals [v,w,u] us):∃a b c,us=[a,b,c]/\RelV v a/\RelV w b/\RelV u c:=by
 cases r with
 |cons p q =>
  obtain⟨b,c,rfl,Z,Y⟩:=vals2 q;exact⟨_,b,c,rfl,p,Z,Y⟩
def U2 {kt k2 jg} (hc:X.calm=true) (hN:X.N.Nodup) (hi:X.N[i]?=some x) (hj:X.N[j]?=some y) (hk:X.N[k]?=some z) (fU:i≠j) (rT:i≠k) (Gh:j≠k)
 (hx:X.env.scope.names.lookup x=some .local) (hy:X.env.scope.names.lookup y=some .local) (hz:X.env.scope.names.lookup z=some .local) (ha:PA X [a,b,c] ta)
 (hw:ι [.Tuple [.Name x px,.Name y py,.Name z pz] kt pt] (.Tuple [a,b,c] k2 jg) X.env=pure (some [x,y,z]))
 (hs:θ [.Tuple [.Name x px,.Name y py,.Name z pz] kt pt] (.Tuple [a,b,c] k2 jg) pos.line X.env=pure false) :
  PS X (.Assign [.Tuple [.Name x px,.Name y py,.Name z pz] kt pt] (.Tuple [a,b,c] k2 jg) pos) (X4 i j k ta):=by
 intro U s σ H D I h;rw[exec_Assign_arm];refine À (ł ?_);rw[hs];refine À (Â ?_);rw[æ (by decide)];refine À (Tuple_ (aG (ha _ U s σ H _ I h) λB Z R=>?_));obtain⟨t,T,Q,P,v,w,u,e1,O⟩:=R;subst e1;obtain⟨Y,W,V,rfl,M,L,K⟩:=vals3 P;refine î ?_ (by show 3<=Õ;decide)
 have J:Inv X U σ T { Z with heap:=Z.heap.push { cls:=.type "tuple",data:=.seq [Y,W,V].toArray } }:=Q.kept (t':=Z.toks) λb o e=>Á _ e
 rw[hw];refine À (Â ?_)
 show Ü (í X.prog X.w) X.A (do rule "assign.swapped-stores";let items <- unpackItems (.ref Z.heap.objs.size) 3 none;abF [λv=>abG X.env z v,λv=>abG X.env y v,λv=>abG X.env x v] items.reverse;pure Flow.next) _ _ _
 refine À (Ŕ (À (unpackItems_tuple (items:=#[Y,W,V]) (I.ok.hd hc) (IsTup.new Z.heap _) λh' G=>?_)));have F:=J.kept (h':=h') (t':=Z.toks) λb o e=>G b o (ë (Ò e)) e
 show Ü _ _ (abF [λv=>abG X.env z v,λv=>abG X.env y v,λv=>abG X.env x v] [V,W,Y] >>= λ_=>pure Flow.next) _ _ _
 refine À (ŷ (abn (nD F hN hk (.inl hz) K (λr E=>?_) (.inr hz))));refine ŷ (abn (nD E hN hj (.inl hy) L (λq C=>?_) (.inr hy)));refine ŷ (abn (nD C hN hi (.inl hx) M (λp S=>assignInOrder_nil (Â ?_)) (.inr hx)));rw[List.set_comm _ _ (œ Gh),List.set_comm _ _ (œ rT),List.set_comm _ _ (œ fU)] at S;exact⟨_,T,S,O⟩
end
end L2
namespace DI
open PySem L2
section
variable {X:Cx} {Ξ:Wd->bt->Prop} {a b c:Ņ} {pos:Pos} {fa:acn (List D)}
def AK (i j k:Nat) (fa:acn (List D)):acn Fl:=λenv s=>ao (fa env s) λZ s=>match Z with
 | [x,y,z]=>ok (.nx (((env.set i (some x)).set j (some y)).set k (some z))) s
 |_=>none
def WK (i j k:Nat) {x y z:Str} {px py pz pt:Pos} {kt k2 jg} (hc:X.calm=true) (hN:X.N.Nodup) (ha:PA X [a,b,c] (tA X.K Ξ fa)) (hi:X.N[i]?=some x:=by rfl) (hj:X.N[j]?=some y:=by rfl) (hk:X.N[k]?=some z:=by rfl) (fU:i≠j:=by decide) (rT:i≠k:=by decide) (Gh:j≠k:=by decide)
  (hx:X.env.scope.names.lookup x=some .local:=by rfl) (hy:X.env.scope.names.lookup y=some .local:=by rfl) (hz:X.env.scope.names.lookup z=some .local:=by rfl)
  (hw:ι [.Tuple [.Name x px,.Name y py,.Name z pz] kt pt] (.Tuple [a,b,c] k2 jg) X.env=pure (some [x,y,z]):=by rfl)
  (hs:θ [.Tuple [.Name x px,.Name y py,.Name z pz] kt pt] (.Tuple [a,b,c] k2 jg) pos.line X.env=pure false:=by rfl) :
  PS X (.Assign [.Tuple [.Name x px,.Name y py,.Name z pz] kt pt] (.Tuple [a,b,c] k2 jg) pos) (tS X.K Ξ (AK i j k fa)):=kg (U2 hc hN hi hj hk fU rT Gh hx hy hz ha hw hs) λM σ H W=>by
 obtain⟨w,env,V,S,Y,h⟩:=W;subst V;refine⟨w,env,rfl,S,Y,(Out.ao h).mono λL J U T Z I R=>?_⟩;split at Z
 ·obtain⟨v,r,rfl,Q,dr⟩:=R
  obtain⟨u,t,rfl,P,O⟩:=oM dr;exact⟨v,u,t,rfl,aF T Z _ ((((Y.le U).set Q i).set P j).set O k)⟩
 ·exact Z.elim
end
def sT:List D->ag->Res D:=aW 2 6 (aw (AK 2 3 4 (ae (e2 aS (ax cf (ae (aa 0) (ae (eC (.int 3)) ah))) (eC (.int 0))) (ae (eNew ah) (ae (e2 cY (eC (.int 2)) (ax cf (ae (aa 0) (ae (eC (.int 9)) ah)))) ah)))) (aw (ef (bL (ae (eC (.int 31)) ah)) (gN 5) (aw (aK (dj (ma (aa 2) (e2 aS (ax cf (ae (aa 0) (ae (aa 4) ah))) (eC (.int 0)))) (e2 dU (aa 5) (aa 1))) (gN 2)) (cG (dZ (aa 2)) (fF (gP (aa 3) (aa 5))) cK))) (aQ (kG (aa 3)))))
def zd (W:Ć):List D->ag->Res D:=aW 1 12 (aw (aK (bO (ae TK.wo (ae (e2 cY (eC (.int 1)) (ax cf (ae (aa 0) (ae (eC (.int 3)) ah)))) (ae (e2 cY (eC (.int 1)) (ax cf (ae (aa 0) (ae (eC (.int 3)) ah)))) ah)))) (gT [(gN 1),(gN 2),(gN 3)])) (aw (ef (bL (ae (aa 2) ah)) (gN 4) (aw (aK (bO (ae (aM 1 [] (bL (ae (eC (.int 8)) ah)) (gN 0) ba (eNew ah)) (ae (eNew ah) ah))) (gT [(gN 5),(gN 6)])) (aw (ef (bL (ae (ax cf (ae (aa 0) (ae (eC (.int 4)) ah))) ah)) (gN 7) (aw (aK (bO (ae (ax cf (ae (aa 0) (ae (eC (.int 8)) ah))) (ae (ax cf (ae (aa 0) (ae (eC (.int 31)) ah))) ah))) (gT [(gN 8),(gN 9)])) (aw (fF (gP (e2 aj (aa 5) (aa 8)) (aa 9))) (TK.mT W (eC (.bl true)) (aa 1) (bO (ae (eC (.str "mended")) (ae (aa 4) (ae (aa 9) (ae (aa 8) ah))))))))) (aw (ef (bL (ae (eC (.int 8)) ah)) (gN 8) (fF (gP (aa 6) (ax sT (ae (aa 0) (ae (e2 aj (aa 5) (aa 8)) ah)))))) (ef (bL (ae (ax cf (ae (aa 0) (ae (eC (.int 5)) ah))) ah)) (gN 7) (aw (aK (ax cf (ae (aa 0) (ae (eC (.int 31)) ah))) (gN 9)) (aw (aK (aM 1 [0,3] (bL (ae (eC (.int 8)) ah)) (gN 0) (aC (e2 aS (ax cf (ae (aa 1) (ae (aa 2) ah))) (eC (.int 0)))) (aa 0)) (gN 10)) (aw (aK (eB eI (ae (aM 1 [9,6] (aR (aa 10)) (gN 0) (aC (e2 cD (aa 1) (e2 aj (aa 2) (aa 0)))) (aa 0)) ah)) (gN 11)) (TK.mT W (eC (.bl true)) (aa 1) (bO (ae (eC (.str "made")) (ae (aa 4) (ae (aa 9) (ae (bO (ae (aa 11) (ae (eB eI (ae (aM 1 [9,6] (aR (aa 10)) (gN 0) (aC (e2 dU (aa 1) (e2 aj (aa 2) (aa 0)))) (aa 0)) ah)) ah))) ah)))))))))))))) (aQ (eB eI (ae (eB TK.tJ (ae (eB TK.tI (ae (aa 1) ah)) ah)) ah)))))
def sM:List D->ag->Res D:=aW 2 2 (aQ (rj (eB uu (ae (aM 1 [1] (aR (aa 0)) (gN 0) ba (e2 cD (aa 0) (aa 1))) ah))))
def sQ:List D->ag->Res D:=aW 1 3 (aw (cG (iW (ig (dZ (eB cL (ae (aa 0) (ae (eC (.ty "tuple")) ah))))) (aC (e2 gO (eB cz (ae (aa 0) ah)) (eC (.int 2))))) (aQ (eC (.bl false))) cK) (aw (aK (aa 0) (gT [(gN 1),(gN 2)])) (aQ (dj (ax vf (ae (aa 1) ah)) (dj (ax vf (ae (aa 2) ah)) (ax sM (ae (aa 1) (ae (aa 2) ah))))))))
def vj:List D->ag->Res D:=aW 1 1 (aQ (ax sP (ae (aa 0) (ae (eC (.int (4))) ah))))
def yR:List D->ag->Res D:=aW 1 1 (aQ (ax sP (ae (aa 0) (ae (eC (.int (31))) ah))))
def yF:List D->ag->Res D:=aW 1 5 (aw (cG (iW (ig (dZ (eB cL (ae (aa 0) (ae (eC (.ty "tuple")) ah))))) (aC (e2 gO (eB cz (ae (aa 0) ah)) (eC (.int 4))))) (aQ (eC (.bl false))) cK) (aw (aK (aa 0) (gT [(gN 1),(gN 2),(gN 3),(gN 4)])) (aw (cG (iW (ig (dZ (ax vj (ae (aa 2) ah)))) (ig (dZ (ax yR (ae (aa 3) ah))))) (aQ (eC (.bl false))) cK) (aw (cG (aC (e2 aS (aa 1) (eC (.str "made")))) (aQ (ax sQ (ae (aa 4) ah))) cK) (aQ (dj (e2 aS (aa 1) (eC (.str "mended"))) (ax vp (ae (aa 4) ah))))))))
def yC:List D->ag->Res D:=aW 1 1 (aQ (dj (eB cL (ae (aa 0) (ae (eC (.ty "tuple")) ah))) (dj (e2 o9 (eB cz (ae (aa 0) ah)) (eC (.int (24)))) (dj (eB lL (ae (aM 1 [] (aR (aa 0)) (gN 0) ba (ax yF (ae (aa 0) ah))) ah)) (ax pZ (ae (aa 0) ah))))))
def mH:List D->ag->Res D:=aW 4 4 (aQ (aM 1 [1,2,3] (aR (aa 0)) (gN 0) (dh (aC (e2 aS (e2 aj (aa 0) (eC (.int 0))) (eC (.str "made")))) (dh (aC (e2 aS (e2 aj (aa 0) (eC (.int 1))) (aa 1))) (aC (e2 cD (aa 2) (e2 aj (e2 aj (aa 0) (eC (.int 3))) (aa 3)))))) (e2 aj (aa 0) (eC (.int 2)))))
def pX:List D->ag->Res D:=aW 3 3 (aQ (aM 1 [1,2] (aR (aa 0)) (gN 0) (dh (aC (e2 aS (e2 aj (aa 0) (eC (.int 0))) (eC (.str "mended")))) (dh (aC (e2 aS (e2 aj (aa 0) (eC (.int 1))) (aa 1))) (aC (e2 aS (e2 aj (aa 0) (eC (.int 3))) (aa 2))))) (e2 aj (aa 0) (eC (.int 2)))))
def va:List D->ag->Res D:=aW 3 3 (aQ (eB uu (ae (aM 1 [1,2] (aR (aa 0)) (gN 0) ba (pO gC o9 (aa 1) (aa 0) (aa 2))) ah)))
def vq:List D->ag->Res D:=aW 3 5 (aw (aK (ax mH (ae (aa 0) (ae (aa 1) (ae (aa 2) (ae (eC (.int (1))) ah))))) (gN 3)) (aw (aK (ax pX (ae (aa 0) (ae (aa 1) (ae (aa 2) ah)))) (gN 4)) (aQ (tG 2 [3,4] (aR (e1 ka (ax mH (ae (aa 0) (ae (aa 1) (ae (aa 2) (ae (eC (.int (0))) ah))))))) (gN 0) ba (rZ (ae (aa 0) (ae (eC (.int (31))) ah))) (gN 1) (dh (iW (aC (e2 cD (aa 1) (aa 2))) (dh (aC (e2 aS (aa 1) (aa 0))) (aC (e2 cD (aa 0) (aa 3))))) (ig (dZ (ax va (ae (aa 3) (ae (aa 0) (ae (aa 1) ah))))))) (bO (ae (aa 0) (ae (aa 1) ah)))))))
def yy:List D->ag->Res D:=aW 1 1 (aQ (Lh 4 [0] (bL (ae (eC (.int (4))) ah)) (gN 0) ba (bL (ae (eC (.int (8))) ah)) (gN 1) ba (aR (ax vq (ae (aa 4) (ae (aa 0) (ae (aa 1) ah))))) (gT [gN 2,gN 3]) ba (bO (ae (aa 0) (ae (aa 1) (ae (aa 2) (ae (aa 3) ah)))))))
def yG:List D->ag->Res D:=aW 1 1 (aQ (dj (ax yC (ae (aa 0) ah)) (TK.D9 (ax yy (ae (aa 0) ah)))))
def Cj:List D->ag->Res D:=aW 3 3 (aQ (ma (e2 cD (eC (.bl true)) (aa 0)) (dj (e2 cD (eC (.bl false)) (aa 0)) (ma (rj (aa 1)) (aa 2)))))
def CS:List D->ag->Res D:=aW 3 3 (aQ (dj (rj (aa 1)) (ma (e2 cD (eC (.bl false)) (aa 0)) (dj (aa 2) (e2 gO (aa 0) (lK ah))))))
def tK:List D->ag->Res D:=aW 3 9 (aw (aK (oK 1 [] (bL (ae (eC (.int 31)) ah)) (gN 0) ba (lK (ae (eC (.bl false)) (ae (eC (.bl true)) ah)))) (gN 3)) (aw (aK (oK 1 [] (bL (ae (eC (.int 32)) ah)) (gN 0) ba (eC (.bl false))) (gN 4)) (aw (ef (aR (aa 0)) (gN 5) (aw (cG (dh (aC (e2 aS (e2 aj (aa 5) (eC (.int 0))) (eC (.str "mended")))) (dh (aC (e2 aS (e2 aj (aa 5) (eC (.int 1))) (aa 1))) (aC (e2 aS (e2 aj (aa 5) (eC (.int 3))) (aa 2))))) (aw (iV (aM 1 [] (aR (e2 aj (aa 3) (e2 aj (aa 5) (eC (.int 2))))) (gN 0) (ig (dZ (aa 0))) (aa 0)) (aa 3) (e2 aj (aa 5) (eC (.int 2)))) (iV (eC (.bl true)) (aa 4) (e2 aj (aa 5) (eC (.int 2))))) cK) (cG (dh (aC (e2 aS (e2 aj (aa 5) (eC (.int 0))) (eC (.str "made")))) (dh (aC (e2 aS (e2 aj (aa 5) (eC (.int 1))) (aa 1))) (aC (e2 cD (aa 2) (e2 cY (e2 aj (e2 aj (aa 5) (eC (.int 3))) (eC (.int 0))) (e2 aj (e2 aj (aa 5) (eC (.int 3))) (eC (.int 1)))))))) (iV (aM 1 [2,5] (aR (e2 aj (aa 3) (e2 aj (aa 5) (eC (.int 2))))) (gN 0) (aC (e2 aS (aa 0) (e2 cD (aa 1) (e2 aj (e2 aj (aa 2) (eC (.int 3))) (eC (.int 0)))))) (aa 0)) (aa 3) (e2 aj (aa 5) (eC (.int 2)))) cK))) (aw (ef (rZ (ae (eC (.int 1)) (ae (eC (.int 31)) ah))) (gN 6) (aw (aK (bO (ae (e2 aj (aa 3) (e2 qJ (aa 6) (eC (.int 1)))) (ae (e2 aj (aa 4) (aa 6)) ah))) (gT [(gN 7),(gN 8)])) (iV (aM 1 [7,8] (aR (e2 aj (aa 3) (aa 6))) (gN 0) (iW (dh (dZ (aa 0)) (aC (e2 gO (aa 1) (lK ah)))) (dZ (ax CS (ae (aa 1) (ae (aa 0) (ae (aa 2) ah)))))) (aa 0)) (aa 3) (aa 6)))) (aw (ef (Gg (ae (eC (.int 29)) (ae (e1 oT (eC (.int 1))) (ae (e1 oT (eC (.int 1))) ah)))) (gN 6) (iV (aM 1 [3,4,6] (aR (e2 aj (aa 3) (aa 6))) (gN 0) (dZ (ax Cj (ae (e2 aj (aa 1) (e2 cY (aa 3) (eC (.int 1)))) (ae (aa 0) (ae (e2 aj (aa 2) (e2 cY (aa 3) (eC (.int 1)))) ah))))) (aa 0)) (aa 3) (aa 6))) (aQ (aM 1 [] (aR (kG (aa 3))) (gN 0) ba (eB eI (ae (aa 0) ah)))))))))
def yz:List D->ag->Res D:=aW 1 1 (cG (ig (dZ (ax yG (ae (aa 0) ah)))) A6 cK)
def yq:List D->ag->Res D:=aW 1 1 (cG (ig (dZ (ax vj (ae (aa 0) ah)))) A6 cK)
def yh:List D->ag->Res D:=aW 3 8 (aw (aK (ax mH (ae (aa 0) (ae (aa 1) (ae (aa 2) (ae (eC (.int (0))) ah))))) (gN 3)) (aw (aK (ax pX (ae (aa 0) (ae (aa 1) (ae (aa 2) ah)))) (gN 4)) (aw (aK (eNew ah) (gN 5)) (aw (aK (eC (.bl false)) (gN 6)) (aw (ef (bL (ae (eC (.int (31))) ah)) (gN 7) (aw (aK (ma (e2 cD (aa 7) (aa 3)) (dj (aa 6) (e2 dU (aa 7) (aa 4)))) (gN 6)) (cG (dZ (aa 6)) (fF (gP (aa 5) (aa 7))) cK))) (aQ (kG (aa 5))))))))
def yl:List D->ag->Res D:=aW 3 8 (aw (aK (ax mH (ae (aa 0) (ae (aa 1) (ae (aa 2) (ae (eC (.int (1))) ah))))) (gN 3)) (aw (aK (ax pX (ae (aa 0) (ae (aa 1) (ae (aa 2) ah)))) (gN 4)) (aw (aK (eNew ah) (gN 5)) (aw (aK (eC (.bl false)) (gN 6)) (aw (ef (Gf (ae (eC (.int (31))) ah)) (gN 7) (aw (cG (iW (dZ (aa 6)) (iW (aC (e2 cD (aa 7) (aa 3))) (aC (e2 cD (aa 7) (aa 4))))) (fF (gP (aa 5) (aa 7))) cK) (aK (dj (ma (aa 6) (e2 cD (aa 7) (aa 3))) (e2 dU (aa 7) (aa 4))) (gN 6)))) (aQ (kG (aa 5))))))))
def vm:List D->ag->Res D:=aW 2 2 (aQ (eB eI (ae (aM 1 [1,0] (bL (ae (eC (.int (8))) ah)) (gN 0) (aC (e2 cD (aa 1) (e2 aj (aa 2) (aa 0)))) (aa 0)) ah)))
def ym:List D->ag->Res D:=aW 2 4 (aw (aK (aM 1 [0,1] (bL (ae (eC (.int (8))) ah)) (gN 0) ba (ax yh (ae (aa 1) (ae (aa 2) (ae (aa 0) ah))))) (gN 2)) (aw (aK (aM 1 [0,1] (bL (ae (eC (.int (8))) ah)) (gN 0) ba (ax yl (ae (aa 1) (ae (aa 2) (ae (aa 0) ah))))) (gN 3)) (aQ (aM 1 [2,3] (bL (ae (eC (.int (31))) ah)) (gN 0) ba (bO (ae (ax vm (ae (aa 1) (ae (aa 0) ah))) (ae (ax vm (ae (aa 2) (ae (aa 0) ah))) ah)))))))
section
variable {X:Cx} {Ξ:Wd->bt->Prop} {el tg src iA gj:Ņ} {tests ja:List Ņ} {sc:aaB} {ps pos:Pos} {N:List Str} {nt:Nat} {cap:List Nat} {it iY:acn (List D)} {gd nr:D->Env->Option Env} {g0 sj:TG} {sl dB:List Nat} {ft jD:acn Bool} {f:acn D}
end
open Classical in
def lg (nt:Nat) (caps:Env) (g:D->Env->Option Env) (t:acn Bool) (f:acn D) (γ:ag->Prop):List D->ag->Res (List D)
 | [],s=>if γ s then ok [] s else none
 |d::Z,s=>if γ s then (match g d (Ñ nt none++caps) with
  |none=>none
  |some env=>ao (ne (t env s)) λb s=>if b=true then ao (ne (f env s)) λx s=>ao (lg nt caps g t f γ Z s) λY s=>ok (x::Y) s
   else lg nt caps g t f γ Z s) else none
def vN (nt:Nat) (cap:List Nat) (it:acn (List D×(ag->Prop))) (g:D->Env->Option Env) (t:acn Bool) (f:acn D):acn D:=λenv s =>
 ao (it env s) λp s=>jc p.1 (ao (lg nt (cX cap env) g t f p.2 p.1 s) λZ s=>ok (.lst Z) s)
def NH (K:ļ) (w:Wd) (J:It) (ds:List D) (γ:ag->Prop):Prop:=∀Z,Le K w Z->aL K Z->γ Z.aA->∀i,
 (∀d,ds[i]?=some d->J.go i Z.H/\∀x X,J.uF i Z.H x X->∃Y,Y.H=X/\Le K Z Y/\aL K Y/\Y.aA=Z.aA/\DV K Y d x)/\(ds.length<=i->J.stop i Z.H)
def wM (K:ļ) (Ξ:Wd->bt->Prop) (f:acn (List D×(ag->Prop))):TI:=fun σ H R=>∃w env,w.H=H/\aL K w/\cj K w env σ/\Out K Ξ w (f env w.aA) λZ p=>∀J,NH K Z J p.1 p.2->R J Z.H
section
variable {K:ļ} {Ξ:Wd->bt->Prop}
def P1 (σ:St) (H:Hp) (Q:VK) :
  tE K Ξ (vN nt cap it g ft f) σ H Q->nU (wM K Ξ it) nt cap (gD K g) (tT K bj ft) (tE K bj f) σ H Q:=by
 rintro ⟨w,env,rfl,S,r,h⟩;refine⟨w,env,rfl,S,r,(Out.ao h).mono λD p l1 S1 C J n=>?_⟩;obtain⟨U,F⟩:=p;obtain⟨l,C⟩:=qa C;have l:U.length<=Õ:=l;refine⟨λi m R k=>m=U.length-i/\i<=U.length/\R.length<=i/\∃X Y,X.H=k/\Le K D X/\aL K X/\ar K X Y R/\Out K Ξ X (lg nt (cX cap env) g ft f F (U.drop i) X.aA) λV M=>∀T,ar K V (Y++M) T->∀p,V.H p=none->Q (.ref p) (upd V.H p (.lst T)),
  ⟨U.length,rfl,ē _,ē _,D,[],rfl,Le.refl _,S1,rfl,(Out.ao C).mono λV M O L h2 T E p P=>?_⟩,?_⟩
 ·exact h2 (V.grow p (.lst T)) (Fw.grow P).le (L.grow P) rfl (.ref p) ⟨p,T,rfl,⟨(show ¬ V.Z p from qr L P),eT⟩,(Fw.grow P).le.all E⟩
 rintro i m R k ⟨rfl,hi,ha,X,Y,rfl,I,B,A,W⟩;by_cases z:i<U.length
 ·right
  rw[Ś z] at W;unfold lg at W;by_cases N:F X.aA
  ·rw[ß N] at W
   obtain⟨ff,hy⟩:=(n X I B N i).1 _ (Ë z)
   cases u:g U[i] (Ñ nt none++cX cap env) with
   |none=>rw[u] at W;exact W.elim
   |some t =>
    rw[u] at W;refine⟨ff,by omega,λs j=>s.length<=i+1/\∃X Y,X.H=j/\Le K D X/\aL K X/\ar K X Y s/\Out K Ξ X (lg nt (cX cap env) g ft f F (U.drop (i+1)) X.aA) λV M=>∀T,ar K V (Y++M) T->∀p,V.H p=none->Q (.ref p) (upd V.H p (.lst T)),
     λs j ⟨FT,q⟩=>⟨U.length-(i+1),by omega,rfl,z,FT,q⟩,λo x H3 ho y=>?_⟩
    obtain⟨V,rfl,O,L,es,dv⟩:=hy x H3 y;refine⟨V,_,U[i],t,rfl,L,(r.le (l1.trans (I.trans O))).block nt cap o ho,dv,u,fun lT c=>?_⟩;rw[<- es] at W;refine⟨V,t,rfl,L,c,(Out.ao (W.from O)).ne.mono λa b G S3 h3=>?_⟩
    cases b with
    |true =>
     refine⟨a,t,rfl,S3,c.le G,(Out.ao h3).ne.mono λw4 d l4 S4 h4 v rX=>⟨by rw[é];simp;omega,w4,Y++[d],rfl,I.trans (O.trans (G.trans l4)),S4,ar.append ((O.trans (G.trans l4)).all A) (ar.one rX),(Out.ao h4).mono λw5 M l5 S5 h5 T E p P=>?_⟩⟩;exact aF S5 h5 T (by rw[ę] at E;exact E) p P
    |false =>
     exact⟨by omega,a,Y,rfl,I.trans (O.trans G),S3,(O.trans G).all A,h3⟩
  ·rw[æ N] at W
   exact W.elim
 ·left
  have e:i=U.length:=by omega
  subst e;rw[aaM] at W;unfold lg at W;by_cases N:F X.aA
  ·rw[ß N] at W
   exact⟨(n X I B N _).2 (acr _),by omega,λp P=>aF B W R (by rw[Ķ];exact A) p P⟩
  ·rw[æ N] at W
   exact W.elim
def Q3 (R R':It->Hp->Prop) (i:∀J H',R J H'->R' J H') (h:wM K Ξ it σ H R):wM K Ξ it σ H R':=by
 obtain⟨w,env,Z,S,Y,h⟩:=h;exact⟨w,env,Z,S,Y,h.mono λV p _ _ X J W=>i J _ (X J W)⟩
def U3 (h:DV K w x (.ref a)) (g:DV K w y (.ref b)):NH K w (YX K a b) (cT ds es) λs=>res x s=.lst ds/\res y s=.lst es:=λD U Z T i=>by
 obtain⟨p,Y,e,X,S⟩:=i8 Z (U _ _ h) T.1;obtain⟨q,W,N,V,R⟩:=i8 Z (U _ _ g) T.2;cases e;cases N;refine⟨λd M=>?_,λL=>⟨Y,W,bq.of X,bq.of V,?_⟩⟩
 ·obtain⟨x,y,e1,e2,rfl⟩:=Jd M
  obtain⟨v,ev,J⟩:=S.get' i x e1;obtain⟨u,Q,I⟩:=R.get' i y e2;refine⟨⟨Y,W,v,u,bq.of X,bq.of V,ev,Q⟩,λz C ⟨r,B,y1,H,G,F,E⟩=>?_⟩;obtain⟨P,O⟩:=E Y W (bq.of X) (bq.of V);rw[ev] at P;rw[Q] at O;cases P;cases O;subst G F;exact Ir Z H J I
 ·rw[qb] at L
  have:=S.length;have:=R.length;omega
end
def wN (ds:List D) (s:ag):Res (List D×(ag->Prop)):=match ds with
 | [x,y]=>match res x s,res y s with
  | .tup Z,.tup Y=>ok (cT Z Y,λ_=>True) s
  | .lst Z,.lst Y=>ok (cT Z Y,λs=>res x s=.lst Z/\res y s=.lst Y) s
  |_,_=>none
 |_=>none
def nZ (fa:acn (List D)):acn (List D×(ag->Prop)):=λenv s=>ao (fa env s) wN
section
variable {X:Cx} {Ξ:Wd->bt->Prop} {a b:Ņ} {fa:acn (List D)} {pos:Pos}
def WL {p:Pos} {elts:List Ņ} {kk:Nat} {ra:Pos} (hg:Gl X "zip") (hm:X.mg "zip"=none) (ha:PA X [a,b] (tA X.K Ξ fa)) (hs:Þ [a,b] X.env=[(false,ś a X.env),(false,ś b X.env)]:=by rfl) (bU:Þ [b] X.env=[(false,ś b X.env)]:=by rfl) :
  PI X (.Tuple elts kk ra) (.Call (.Name "zip" p) [a,b] [] pos) (wM X.K Ξ (nZ fa)):=by
 intro Q s σ H R I V;obtain⟨w,env,C,S,P,h⟩:=V;subst C
 cases Z:fa env w.aA with
 |none=>rw[show nZ fa env w.aA=none by unfold nZ;rw[Z];rfl] at h;exact h.elim
 |some r =>
  obtain⟨r,F⟩:=r
  cases r with
  |error x =>
   rw[show nZ fa env w.aA=some (.error x,F) by unfold nZ;rw[Z];rfl] at h;refine CG hg hm ha hs bU Q s σ w.H R I ⟨w,env,rfl,S,P,?_⟩;rw[Z];exact h
  |ok B =>
   have A:nZ fa env w.aA=wN B F:=by unfold nZ;rw[Z];rfl
   rw[A] at h;unfold wN at h;split at h
   ·rename_i x y
    split at h
    ·rename_i t o ex O
     have e1:=fC ex (by intro _ z;cases z);have e2:=fC O (by intro _ z;cases z);refine CG hg hm ha hs bU Q s σ w.H R I ⟨w,env,rfl,S,P,?_⟩;rw[Z];intro N le U T n M;obtain⟨v,u,rfl,Y,W⟩:=oM M;rw[e1] at Y;rw[e2] at W;have E:=Y;have D:=W;simp only[DV] at E D;obtain⟨p,L,rfl,V,_⟩:=E;obtain⟨q,J,rfl,G,_⟩:=D;exact⟨p,q,L,J,rfl,V,G,h N le U T _ λm l k _ i=>Jf Y W m l k i⟩
    ·rename_i t o ex O
     refine Us hg hm ha hs bU Q s σ w.H R I ⟨w,env,rfl,S,P,?_⟩;rw[Z];intro N le U T n M;obtain⟨v,u,rfl,Y,W⟩:=oM M;obtain⟨p,L,rfl,V,_⟩:=i8 U Y (by rw[T];exact ex);obtain⟨q,J,rfl,G,_⟩:=i8 U W (by rw[T];exact O);exact⟨p,q,L,J,rfl,bq.of V,bq.of G,h N le U T _ (U3 Y W)⟩
    ·exact h.elim
   ·exact h.elim
def SE (hc:X.calm=true) (S:ki X sc N nt cap) (T:Tg X.K g0 gd nt) (hi:PI X tg src (wM X.K Ξ it))
 (hY:∀(cl:List (Str×â)) (C:â) (s:Ç) (H:Hp) (ex:List â) (pn:List (â×Obj)),PG (cx X N sc cl C s H ex pn) tg g0/\PF (cx X N sc cl C s H ex pn) tests (tT X.K bj ft)/\PE (cx X N sc cl C s H ex pn) el (tE X.K bj f))
 (hs:∀x,ï src X.env x=pure x:=by intro _;rfl):PE X (.ListComp el [⟨tg,src,tests,0⟩] sc ps) (tE X.K Ξ (vN nt cap it gd ft f)) :=
 dg (Cd hc S T.jj hi hY hs) fun σ H Q h=>yB T.imp (λR Z i h=>Q3 R Z i h) (P1 σ H Q h)
end
end DI
namespace L2
open PySem PySem.Spec PyProof.Rows
def pf (K:ļ) (l:â) (all:List V) (rk:V->Hp->VK->Prop) (rc:R2):List V->V->V->Hp->VK->Prop
 | [],Z,_,H,Q=>bo K H l all/\Q Z H
 |x::Y,Z,X,H,Q=>bo K H l all/\rk x H λk U=>rc k X U λz W=>∃b,z=.bl b/\if b=true then pf K l all rk rc Y x k W Q else pf K l all rk rc Y Z X W Q
def Mj (K:ļ) (l:â) (all:List V) (rk:V->Hp->VK->Prop) (rc:R2) (dv:V) (H:Hp) (Q:VK):Prop:=bo K H l all/\match all with
 | []=>Q dv H
 |x::Z=>rk x H λk Y=>pf K l all rk rc Z x k Y Q
noncomputable def pU:Bool->String
 |true=>"max"
 |false=>"min"
noncomputable def Bg:Bool->String
 |true=>"max.loop"
 |false=>"min.loop"
noncomputable def xZ:Bool->CmpOp
 |true=>.Gt
 |false=>.Lt
noncomputable def mmF:{ f:String->CmpOp->ő // f "min" .Lt=ő.«min.loop» }:=⟨_,rfl⟩
noncomputable def mmC:{ f:String->ő // f "min"=Builtin.min }:=⟨_,rfl⟩
abbrev mxB (m:Bool):ő:=mmF.1 (pU m) (xZ m)
abbrev mxC (m:Bool):ő:=mmC.1 (pU m)
def Ea:∀m,entryFor table (Bg m)=some (mxB m)
 |true=>PySem.F.entry_max_loop
 |false=>aaf
def qS:∀m,plainId (Bg m)=true
 |true=>PySem.F.plain_max_loop
 |false=>ľ
def Zc:∀m,builtinKind (pU m)=none
 |true=>PySem.F.kind_max
 |false=>PySem.F.kind_min
def Zd:∀m,plainId (pU m)=true
 |true=>PySem.F.plain_max
 |false=>PySem.F.plain_min
def Ze:∀m,entryFor table (pU m)=some (mxC m)
 |true=>PySem.F.entry_max
 |false=>PySem.F.entry_min
def Zf:∀(m:Bool) (a:Ì),argsOk (pU m) ⟨[a],[]⟩
 |true=>PV
 |false=>PX
def Zg (n:String):Ű n ["key","default"] 0 ⟨[],[]⟩=pure [none,none]:=rfl
def X5:∀m,Ü M A (Č (xZ m) u v) Q E s->Ü M A (abO (xZ m) u v) Q E s
 |true,h=>h
 |false,h=>h
def AL:∀m,(toString (pU m)++toString ".loop":String)=Bg m
 |true=>by decide
 |false=>by decide
def SF (m:Bool) {X:Cx} {l I S:â}  {kw:List (Str×Ì)} {all:List V} {π:List (â×Obj)} {σ:St} {rc:R2} {Q:VK} (hc:X.calm=true) (mv:l≠I) (jm:S≠I) (xT:S≠l) (hC:aZ X.cH (Č (xZ m)) rc) :
  ∀(rest:List V) (j:Nat) (s:Ç) (H:Hp) (vb kb:V) (ub uk:Ì) (c:Nat),all.drop j=rest->j<=all.length->Inv X.cH π σ H s->cu X π H S->cu X π H I->s.heap.get? S=some { cls:=.type "list",dict:=none,data:=.seq #[ub,uk] c,slots:=#[] }->s.heap.IsTupleIter I l j->RelV vb ub->RelV kb uk ->
   pf X.K l all sk rc rest vb kb H Q->ū (í X.prog X.w) X.A (.builtin (Bg m) ⟨[.ref I,.none,.ref S],kw⟩) (zz X π σ Q) s:=by
 intro rest
 induction rest with
 |nil =>
  intro j s H vb kb ub uk c hd uU T U Z J hit u Z9 h;obtain⟨t,h⟩:=h;have hj:j=all.length:=Nat.le_antisymm uU (by simpa using hd);subst hj;obtain⟨its,E,r,hz⟩:=T.tuple t;have q:X.A.in1.handled=none:=T.ok.hd hc;have W:=Walks.tuple (prog:=X.prog) (w:=X.w) (A:=X.A.in1) q I l mv its.toArray;have R:its.toArray.size=all.length:=by rw[Ô];exact E.length.symm
  refine ĸ (Ea m) ?_;rw[ħ (qS m) _];show Ü _ X.A.in1 (abQ (.ref S) >>= _) _ _ _;refine À (Ğ J rfl ?_);show Ü _ X.A.in1 (tryCatch (Š (.ref I)) _ >>= _) _ _ _;refine À (Ŋ (W.done _ _ _ ⟨by rw[R];exact hit,(show s.heap.IsTuple l its.toArray from r)⟩ λh' N G=>?_));have n:=G S _ (by simpa using jm) J
  have D:Inv X.cH π σ H { s with heap:=h',toks:=N }:=T.turned (it:=I) (λb o P e=>G b o (by simpa using P) e) Z.1 Z.2.1 Z.2.2.2.1 Z.2.2.2.2.1 Z.2.2.2.2.2
  show Ü _ X.A.in1 (updateSeq S (λ_=>#[]) >>= _) _ _ _;refine À ?_;refine ů n rfl (À (Ż (Â ?_)));have i:=D.turned (h':=h'.update S (į λ_=>(#[]:Array Ì))) (t':=N) (it:=S) (λb o P e=>(ā _ _ (œ P)).trans e) U.1 U.2.1 U.2.2.2.1 U.2.2.2.2.1 U.2.2.2.2.2;exact⟨vb,H,i.E5,u,h⟩
 |cons x rest ih =>
  intro j s H vb kb ub uk c hd uU T U Z J hit u xU h;obtain⟨t,h⟩:=h;have C:all[j]?=some x:=by
   have:=Ŀ (λl=>l[0]?) hd;simpa using this
  have fH:all.drop (j+1)=rest:=by
   have:=Ŀ (List.drop 1) hd;simpa [ab8] using this
  obtain⟨its,E,r,hz⟩:=T.tuple t;have q:X.A.in1.handled=none:=T.ok.hd hc;have W:=Walks.tuple (prog:=X.prog) (w:=X.w) (A:=X.A.in1) q I l mv its.toArray;have R:its.toArray.size=all.length:=by rw[Ô];exact E.length.symm
  refine ĸ (Ea m) ?_;rw[ħ (qS m) _];show Ü _ X.A.in1 (abQ (.ref S) >>= _) _ _ _;refine À (Ğ J rfl ?_);show Ü _ X.A.in1 (tryCatch (Š (.ref I)) _ >>= _) _ _ _;refine À (Ŋ (W.item j _ _ _ (by rw[R];exact(Å.mp C).1) ⟨hit,(show s.heap.IsTuple l its.toArray from r)⟩ λv h' N hP rD G=>?_));obtain⟨Y,ni,rx⟩:=E.get C;have ev:Y=v:=by
   have:its.toArray[j]?=some v:=hP;rw[aas,ni] at this;exact acs this
  subst ev;have n:=G S _ (by simpa using jm) J
  have D:Inv X.cH π σ H { s with heap:=h',toks:=N }:=T.turned (it:=I) (λb o P e=>G b o (by simpa using P) e) Z.1 Z.2.1 Z.2.2.2.1 Z.2.2.2.2.1 Z.2.2.2.2.2
  obtain⟨F,sm,kK,g⟩:=id rD.1;have nS:∀v,({ cls:=.type "list",dict:=none,data:=.seq #[ub,uk] c,slots:=#[] }:Obj).data≠.cell v:=λv z=>by cases z
  have nI:∀v,F.data≠.cell v:=λv z=>by rw[g] at z;cases z
  have i:=D.i7 (pins':=π++[(S,{ cls:=.type "list",dict:=none,data:=.seq #[ub,uk] c,slots:=#[] }),(I,F)]) λp hp=>by
   rcases ä.mp hp with z|z
   ·exact D.pin p (Æ _ z)
   ·rcases Ó.mp z with rfl|z
    ·exact⟨n,U.1,U.2.1,U.2.2.1,nS⟩
    ·rw[å.mp z]
     exact⟨sm,Z.1,Z.2.1,Z.2.2.1,nI⟩
  refine À (Â ?_)
  have iw:EP X.cH _ σ (λk H1=>rc k kb H1 (λz B=>∃b,z=.bl b/\if b=true then pf X.K l all sk rc rest x k B Q else pf X.K l all sk rc rest vb kb B Q)) Y { s with heap:=h',toks:=N }:=⟨x,H,i,rx,h⟩
  obtain⟨f,bU⟩:∃f:Ç,f={ s with heap:=h',toks:=N }:=⟨_,rfl⟩
  rw[<- bU] at iw;rw[<- bU];obtain⟨k,B,I3,ou,h⟩:=iw;show Ü _ X.A.in1 (tryCatch (aaj [Y,Y] (abO _ Y uk >>= _)) _ >>= _) _ _ _;refine À (Ŋ (Ė (À (ĝ (X5 m (hC _ f σ B k kb Y uk _ I3 ou xU h)) (λz M Ga=>?_) λ_ _ z=>z.elim))));obtain⟨zv,L,d,rz,b,eb,h⟩:=Ga;subst eb;cases rz;refine À (Ė (ĺ ?_));refine À (Ż (Â ?_));have y:=d.pin (S,{ cls:=.type "list",dict:=none,data:=.seq #[ub,uk] c,slots:=#[] }) (Æ _ (Æ _ (by simp)));have a:=d.pin (I,F) (Æ _ (Æ _ (by simp)));have I5:Inv X.cH π σ L M:=d.jH;have O:cu X π L S:=⟨y.2.1,U.2⟩;have ox:cu X π L I:=⟨a.2.1,Z.2⟩
  cases b with
  |true =>
   rw[ß rfl] at h;rw[ß rfl];refine À ?_;refine ů y.1 rfl (À (Ż ?_));rw[AL m];obtain⟨c2,iX⟩:∃c2,(M.heap.update S (į λ_=>#[Y,Y])).get? S=some { cls:=.type "list",dict:=none,data:=.seq #[Y,Y] c2,slots:=#[] }:=⟨_,Ĉ _ y.1 rfl⟩
   have I6:Inv X.cH π σ L { M with heap:=M.heap.update S (į λ_=>#[Y,Y]),toks:=M.toks }:=I5.turned (t':=M.toks) (it:=S) (λb o P e=>(ā _ _ (œ P)).trans e) O.1 O.2.1 O.2.2.2.1 O.2.2.2.2.1 O.2.2.2.2.2
   exact Â ⟨Ō (qS m) _,ih (j+1) _ L x k Y Y c2 fH (Å.mp C).1 I6 O ox iX ⟨F,(ā _ _ jm).trans a.1,kK,g⟩ rx ou h⟩
  |false =>
   rw[æ Í] at h;rw[æ Í];refine À (Ż ?_);rw[AL m];exact Â ⟨Ō (qS m) _,ih (j+1) _ L vb kb ub uk c fH (Å.mp C).1 I5 O ox y.1 ⟨F,a.1,kK,g⟩ u xU h⟩
def Jp (m:Bool) {X:Cx} {l:â}  {all:List V} {π:List (â×Obj)} {σ:St} {H:Hp} {s:Ç} {rc:R2} {Q:VK} (hc:X.calm=true) (hC:aZ X.cH (Č (xZ m)) rc)
  (I0:Inv X π σ H s) (gk:all≠[]) (h:Mj X.K l all sk rc .au H Q):Ü (í X.prog X.w) X.A (call (.builtin (pU m)) [.ref l] []) (EP X π σ Q) X.xe s:=by
 obtain⟨hq,h⟩:=h;obtain⟨its,y,L,hz⟩:=I0.tuple hq;have u:l<s.heap.objs.size:=by obtain⟨o,ho,_⟩:=L;exact Ò ho
 have hh:X.A.in1.handled=none:=I0.cH.ok.hd hc;refine kmk_tree (Zc m) (Zd m) (Ze m) (Zf m _) ?_;show Ü _ X.A.in1 (Ű _ ["key","default"] 0 ⟨[],[]⟩ >>= _) _ _ s;refine À (ŭ (Zg _) ?_);refine À (Â ?_);refine À (wpAny_pyIter_tuple (show s.heap.IsTuple l its.toArray from L) ?_);refine À (abI ?_ (ē _));rw[AL m];generalize T:s.heap.objs.size=I at *;have O:(s.heap.push { cls:=.type "tuple_iterator",data:=.fields #[.ref l,.int 0 0] }).objs.size=I+1:=by rw[<- T];exact đ ..
 generalize Gb:(s.heap.push { cls:=.type "tuple_iterator",data:=.fields #[.ref l,.int 0 0] }).objs.size=S at *;have t:l≠I:=ë u;have J:S≠I:=by rw[O];exact Nat.succ_ne_self _
 have xT:S≠l:=by rw[O];exact Ŝ (ĩ u)
 have q:∀b o,s.heap.get? b=some o->((s.heap.push { cls:=.type "tuple_iterator",data:=.fields #[.ref l,.int 0 0] }).push { cls:=.type "list",dict:=none,data:=.seq #[] 0,slots:=#[] }).get? b=some o:=λb o e=>Á _ (Á _ e);have gI:((s.heap.push { cls:=.type "tuple_iterator",data:=.fields #[.ref l,.int 0 0] }).push { cls:=.type "list",dict:=none,data:=.seq #[] 0,slots:=#[] }).get? I=some { cls:=.type "tuple_iterator",data:=.fields #[.ref l,.int 0 0] }:=Á _ (T ▸ Ð _ rfl);have n:((s.heap.push { cls:=.type "tuple_iterator",data:=.fields #[.ref l,.int 0 0] }).push { cls:=.type "list",dict:=none,data:=.seq #[] 0,slots:=#[] }).get? S=some { cls:=.type "list",dict:=none,data:=.seq #[] 0,slots:=#[] }:=Gb ▸ Ð _ rfl;have nI:H I=none:=I0.aH.fresh (ŝ T);have nS:H S=none:=I0.aH.fresh (by rw[O];exact Û (ŝ T) (Ů _));have Y:cu X π H I:=I0.mZ (ŝ T) nI;have N:cu X π H S:=I0.mZ (by rw[O];exact Û (ŝ T) (Ů _)) nS;have I1:=I0.cH.kept (t':=s.toks) q;refine Â ⟨Ō (qS m) _,?_⟩;show ū (í X.prog X.w) X.A (.builtin _ ⟨[.ref I,.none,.ref S],[]⟩) (zz X π σ Q) _;have W:=Walks.tuple (prog:=X.prog) (w:=X.w) (A:=X.A.in1) hh I l t its.toArray;have G:its.toArray.size=all.length:=by rw[Ô];exact y.length.symm
 have hit:Heap.IsTupleIter ((s.heap.push { cls:=.type "tuple_iterator",data:=.fields #[.ref l,.int 0 0] }).push { cls:=.type "list",dict:=none,data:=.seq #[] 0,slots:=#[] }) I l 0:=⟨_,gI,rfl,rfl⟩;have Bd:Heap.IsTuple ((s.heap.push { cls:=.type "tuple_iterator",data:=.fields #[.ref l,.int 0 0] }).push { cls:=.type "list",dict:=none,data:=.seq #[] 0,slots:=#[] }) l its.toArray:=by obtain⟨o,e,r⟩:=L;exact⟨o,q l o e,r⟩
 refine ĸ (Ea m) ?_;rw[ħ (qS m) _];show Ü _ X.A.in1 (abQ (.ref S) >>= _) _ _ _;refine À (Ğ n rfl ?_);show Ü _ X.A.in1 (tryCatch (Š (.ref I)) _ >>= _) _ _ _
 cases all with
 |nil =>
  exact absurd rfl gk
 |cons x rest =>
  refine À (Ŋ (W.item 0 _ _ _ (by rw[G];simp) ⟨hit,Bd⟩ λv h' F hP rD j=>?_));obtain⟨Z,ni,g⟩:=y.get (i:=0) (x:=x) rfl;have ev:Z=v:=by
   have:its.toArray[0]?=some v:=hP;rw[aas,ni] at this;exact acs this
  subst ev;have mw:=j S _ (by simpa using J) n;have f:=I1.turned (h':=h') (t':=F) (it:=I) (λb o E e=>j b o (by simpa using E) e) Y.1 Y.2.1 Y.2.2.2.1 Y.2.2.2.2.1 Y.2.2.2.2.2;obtain⟨M,sm,kK,d⟩:=id rD.1;have cS:∀v,({ cls:=.type "list",dict:=none,data:=.seq #[] 0,slots:=#[] }:Obj).data≠.cell v:=λv z=>by cases z
  have cI:∀v,M.data≠.cell v:=λv z=>by rw[d] at z;cases z
  have I3:=f.i7 (pins':=π++[(S,{ cls:=.type "list",dict:=none,data:=.seq #[] 0,slots:=#[] }),(I,M)]) λp hp=>by
   rcases ä.mp hp with z|z
   ·exact f.pin p (Æ _ z)
   ·rcases Ó.mp z with rfl|z
    ·exact⟨mw,N.1,N.2.1,N.2.2.1,cS⟩
    ·rw[å.mp z]
     exact⟨sm,Y.1,Y.2.1,Y.2.2.1,cI⟩
  refine À (Â ?_)
  have c:EP X.cH _ σ (λk H1=>pf X.K l (x::rest) sk rc rest x k H1 Q) Z { s with heap:=h',toks:=F }:=⟨x,H,I3,g,h⟩
  obtain⟨U,a⟩:∃U:Ç,U={ s with heap:=h',toks:=F }:=⟨_,rfl⟩
  rw[<- a] at c;rw[<- a];obtain⟨k,P,D,ou,h⟩:=c;have C:=D.pin (S,{ cls:=.type "list",dict:=none,data:=.seq #[] 0,slots:=#[] }) (Æ _ (Æ _ (by simp)));have pI:=D.pin (I,M) (Æ _ (Æ _ (by simp)));have I5:Inv X.cH π σ P U:=D.jH;have R:cu X π P S:=⟨C.2.1,N.2⟩;have ox:cu X π P I:=⟨pI.2.1,Y.2⟩;show Ü _ X.A.in1 (updateSeq S (λ_=>#[Z,Z]) >>= _) _ _ _;refine À ?_;refine ů C.1 rfl ?_;rw[AL m];obtain⟨B,iX⟩:∃B,(U.heap.update S (į λ_=>#[Z,Z])).get? S=some { cls:=.type "list",dict:=none,data:=.seq #[Z,Z] B,slots:=#[] }:=⟨_,Ĉ _ C.1 rfl⟩
  have I6:Inv X.cH π σ P { U with heap:=U.heap.update S (į λ_=>#[Z,Z]),toks:=U.toks }:=I5.turned (t':=U.toks) (it:=S) (λb o E e=>(ā _ _ (œ E)).trans e) R.1 R.2.1 R.2.2.2.1 R.2.2.2.2.1 R.2.2.2.2.2
  exact Â ⟨Ō (qS m) _,SF _ hc t J xT hC rest 1 _ P x k Z Z B rfl (by simp) I6 R ox iX ⟨M,(ā _ _ J).trans pI.1,kK,d⟩ g ou h⟩
end L2
namespace DI
open PySem L2
def ph (o:D->D->ag->Res D):D->List D->ag->Res D
 |b,[],s=>ok b s
 |b,d::Z,s=>ao (ne (o d b s)) λc s=>match c with
  | .bl true=>ph o d Z s
  | .bl false=>ph o b Z s
  |_=>none
def Aj (o:D->D->ag->Res D) (d:D) (s:ag):Res D:=match d with
 | .tup (d::Z)=>ph o d Z s
 |_=>none
theorem DF:∀{ds:List D} {vs:List V} {w:Wd} {b:D} {vb:V},aL K w->bo K w.H l all->ar K w ds vs->DV K w b vb ->
  Out K Ξ w (ph o b ds w.aA) (λw' d=>∀v,DV K w' d v->Q v w'.H)->pf K l all sk (rO K bj o) vs vb vb w.H Q
 | [],vs,w,b,vb,S,Y,W,X,h=>by
  have e:vs=[]:=W;subst e;exact⟨Y,aF S h _ X⟩
 |d::ds,vs,w,b,vb,S,Y,W,X,h=>by
  obtain⟨v,r,rfl,T,dr⟩:=W;refine⟨Y,w,d,b,rfl,S,T,X,(Out.ao h).ne.mono λN c Z R U P O=>?_⟩
  cases c with
  |bl c =>
   have e:P=.bl c:=O;refine⟨c,e,?_⟩
   cases c with
   |true =>
    rw[ß rfl];exact DF (Ξ:=Ξ) R (Z.tup _ _ Y) (Z.all dr) (Z _ _ T) U
   |false =>
    rw[æ Í];exact DF (Ξ:=Ξ) R (Z.tup _ _ Y) (Z.all dr) (Z _ _ X) U
  |_=>exact U.elim
def Ml (S:aL K w) (hl:DV K w d v) (h:Out K Ξ w (Aj o d w.aA) (λw' d=>∀v,DV K w' d v->Q v w'.H)):∃l all,v=.ref l/\all≠[]/\Mj K l all sk (rO K bj o) .au w.H Q:=by
 unfold Aj at h;split at h
 ·simp only[DV] at hl
  obtain⟨l,all,rfl,Z,x,r,rfl,Y,dr⟩:=hl;exact⟨l,_,rfl,by simp,Z,DF (Ξ:=Ξ) S Z dr Y h⟩
 ·exact h.elim
def wq (ds:List D) (s:ag):Res D:=match ds with
 | [d]=>Aj uq d s
 |_=>none
def qT (ds:List D) (s:ag):Res D:=match ds with
 | [d]=>Aj Ad d s
 |_=>none
section
variable {X:Cx} {Ξ:Wd->bt->Prop}
def Lp (hc:X.calm=true):cB X (.builtin "max") (rC X.K Ξ wq):=by
 rintro T s σ H R P Q I r ⟨w,O,rfl,S,Z,h⟩;unfold wq at h;split at h
 ·obtain⟨v,rfl,Y⟩:=nO Z
  obtain⟨l,all,rfl,W,V⟩:=Ml S Y h;obtain⟨u,rfl,U⟩:=vals1 r;cases U;exact Jp true hc (MQ (X:=X.cH)) I W V
 ·exact h.elim
def zA (hc:X.calm=true):cB X (.builtin "min") (rC X.K Ξ qT):=by
 rintro T s σ H R P Q I r ⟨w,O,rfl,S,Z,h⟩;unfold qT at h;split at h
 ·obtain⟨v,rfl,Y⟩:=nO Z
  obtain⟨l,all,rfl,W,V⟩:=Ml S Y h;obtain⟨u,rfl,U⟩:=vals1 r;cases U;exact Jp false hc (XO (X:=X.cH)) I W V
 ·exact h.elim
end
noncomputable def x8:D->Option (Bool×List D)
 | .tup Z=>some (true,Z)
 | .lst Z=>some (false,Z)
 |_=>none
def Lq (h:x8 d=some (k,xs)):d=j5 k xs:=by
 cases d with
 |tup Z=>cases h;rfl
 |lst Z=>cases h;rfl
 |_=>cases h
def ux (ds:List D) (s:ag):Res (List D):=match ds with
 | [x,y]=>match x8 x,x8 y with
  |some (_,Z),some (_,Y)=>ok (cT Z Y) s
  |_,_=>none
 |_=>none
def tZ (fa:acn (List D)):acn (List D):=λenv s=>ao (fa env s) ux
section
variable {X:Cx} {Ξ:Wd->bt->Prop} {a b:Ņ} {fa:acn (List D)} {pos:Pos}
def Lr:∀{k},DV K w (j5 k ds) v->∃a,v=.ref a
 |true,h=>by simp only[DV] at h;obtain⟨p,_,rfl,_⟩:=h;exact⟨p,rfl⟩
 |false,h=>by simp only[DV] at h;obtain⟨p,_,rfl,_⟩:=h;exact⟨p,rfl⟩
def Ls {p:Pos} {elts:List Ņ} {kk:Nat} {ra:Pos} (hg:Gl X "zip") (hm:X.mg "zip"=none) (ha:PA X [a,b] (tA X.K Ξ fa)) (hs:Þ [a,b] X.env=[(false,ś a X.env),(false,ś b X.env)]:=by rfl) (bU:Þ [b] X.env=[(false,ś b X.env)]:=by rfl) :
  PI X (.Tuple elts kk ra) (.Call (.Name "zip" p) [a,b] [] pos) (dC X.K Ξ (tZ fa)):=by
 intro D s σ H R I N;obtain⟨w,env,C,S,B,h⟩:=N;subst C;unfold tZ at h;obtain⟨k,l,A⟩:∃k l:Bool,Out X.K Ξ w (fa env w.aA) λZ Y=>∃W V,Y=[j5 k W,j5 l V]/\∀J,mi X.K Z J (cT W V)->R J Z.H:=by
  have T:=Out.ao h
  cases F:fa env w.aA with
  |none=>rw[F] at T;exact T.elim
  |some r =>
   obtain⟨r,m⟩:=r;rw[F] at T
   cases r with
   |error x=>exact⟨true,true,T⟩
   |ok Y =>
    have:∃k l W V,Y=[j5 k W,j5 l V]\/(∀s,ux Y s=none):=by
     unfold ux;split
     ·rename_i x y
      cases e1:x8 x with
      |none=>exact⟨true,true,[],[],.inr λ_=>rfl⟩
      |some u=>cases e2:x8 y with
       |none=>exact⟨true,true,[],[],.inr λ_=>rfl⟩
       |some v=>exact⟨u.1,v.1,u.2,v.2,.inl (by rw[Lq e1,Lq e2])⟩
     ·exact⟨true,true,[],[],.inr λ_=>rfl⟩
    obtain⟨k,l,W,V,e|e⟩:=this
    ·subst e
     refine⟨k,l,λZ O Q M=>?_⟩;have U:Out X.K Ξ Z (ux [j5 k W,j5 l V] Z.aA) λP Y=>∀J,mi X.K P J Y->R J P.H:=T Z O Q M;refine⟨W,V,rfl,λJ z=>?_⟩
     have e:ux [j5 k W,j5 l V] Z.aA=ok (cT W V) Z.aA:=by cases k<;>cases l<;>rfl
     rw[e] at U;exact aF Q U J z
    ·refine⟨true,true,λZ O Q M=>?_⟩
     have U:Out X.K Ξ Z (ux Y Z.aA) λP Y=>∀J,mi X.K P J Y->R J P.H:=T Z O Q M;rw[e] at U;exact U.elim
 refine CF (k:=k) (l:=l) hg hm ha hs bU D s σ w.H R I ⟨w,env,rfl,S,B,A.mono λZ Y O Q U E t=>?_⟩;obtain⟨W,V,rfl,U⟩:=U;obtain⟨v,u,rfl,L,G⟩:=oM t;obtain⟨p,rfl⟩:=Lr L;obtain⟨q,rfl⟩:=Lr G;obtain⟨o,N,_⟩:=z9 L;obtain⟨E,n,_⟩:=z9 G;exact⟨p,q,o,E,rfl,N,n,U _ (Je L G)⟩
end
end DI
namespace L2
open PySem PySem.Spec PyProof.Rows
section
variable {prog:ö} {w:Ć} {A:Đ} {E:Ì->Ç->Prop} {R:Result->Ç->Prop} {s:Ç}
def Oq {elt target iter ifs rest scope pos it acc env}
  (h0:ū (í prog w) A (.compLoop (.SetComp elt (⟨target,iter,ifs,0⟩::rest) scope pos) 0 it acc env) R s)
  (h:Ü (í prog w) A (acj it) (λiM s'=>ū (í prog w) A (.compLoop (.SetComp elt (⟨target,iter,ifs,0⟩::rest) scope pos) 0 iM acc env) R s')
   (notedBy (í prog w) A env λx s'=>R (.error x) s') s) :
  ū (í prog w) A (.compStart (.SetComp elt (⟨target,iter,ifs,0⟩::rest) scope pos) 0 it acc env) R s:=by
 refine aaZ ?_
 show Ü _ A ((compStart (.SetComp elt (⟨target,iter,ifs,0⟩::rest) scope pos) 0 it acc env).onRaise (λx=>do noteFrame x env;aak theWindowsPlace)) _ _ s
 refine wpAny_notedAt ?_;unfold compStart;show Ü _ A (ask >>= _) _ _ s;refine À (Ő (wpAny_ite ?_));split
 ·first
   |exact À (Â (Â (acg rfl h0)))
   |exact Â (acg rfl h0)
 ·first
   |exact À (Ŕ (À (ł (À (ĝ h (λiM s' Z=>Â (acg rfl Z)) λ_ _ x=>x)))))
   |(refine À (Ŕ ?_);show Ü _ _ (aak iter.pos >>= _) _ _ s;exact À (ł (À (ĝ h (λiM s' Z=>Â (acg rfl Z)) λ_ _ x=>x))))
def Q4 (hS:TS.gy prog w led s.heap a S n) (D3:n+1<ω)
 (h:∀h',Ľ a s.heap h'->TS.gy prog w led h' a (λj=>S j||decide (j=k)) (if S k then n else n+1)->Q .none { s with heap:=h',toks:=s.toks+1 }) :
  Ü (í prog w) A (call (.builtin "set.add") [.ref a,.int k tk]) Q E s:=by
 have Y:s.heap.SetOf (ţ prog w) a S n:=by
  obtain⟨o,X,W,t,V,U,T,R,P,O,N,M,_⟩:=hS;exact⟨o,X,W,t,V,U,T,R,P,O,N,M⟩
 refine ÿ F.slot_set_add Y.typeIs F.entry_set_add ?_ (F.args_set_add_2 _ _);unfold ő.«set.add» Builtin.Frozenset.oneOther;simp only[aab,bind_assoc];unfold acf setAdd;refine À (Â ?_)
 try dsimp only
 refine À (Â ?_)
 try dsimp only
 refine À ?_;refine Ė ?_;refine À ((ţ prog w).pyHash (intKind_is _ _ _ _) ?_)
 refine TS.JY (s:={ s with toks:=s.toks+1 }) hS D3 λh' Z L=>?_
 show Ü _ _ (ret Value.none) _ _ _;exact Â ⟨_,rfl,h h' Z L⟩
def SG (elt target iter:Ņ) (ifs:List Ņ) (scope:aaB) (pos:Pos) (it acc:Ì) (env:Env) :
  abH (.SetComp elt [⟨target,iter,ifs,0⟩] scope pos) 0 it acc env=(do
   aak iter.pos
   match <- Š it with
   |none=>pure (.done .next)
   |some v =>
    Ń target it v
    aai target env v
    let mut ok:=true
    for c in ifs do
     if ok then ok <- aci c env (ś c env)
    if ok then
     (do let v <- ś elt env;aak elt.pos;let _ <- call (.builtin "set.add") [acc,v])
    again (.compLoop (.SetComp elt [⟨target,iter,ifs,0⟩] scope pos) 0 it acc env)):=by rfl
def O5 (J:Nat->Ç->Prop)
 (turn:∀n s,J n s->Ü (í P w) A (Š fV) (λr s1=>match r with
   |none=>R (.ok .next) s1
   |some v=>Ü (í P w) A (Ń tg fV v) (λ_ s2=>Ü (í P w) A (aai tg ce v) (λ_ s3 =>
     Ü (í P w) A (forIn tests true λc r=>if r=true then do let ok <- aci c ce (ś c ce);pure (ŋ ok) else pure (ŋ r)) (λok s4 =>
      if ok=true then Ü (í P w) A (ś el ce) (λy s5=>Ü (í P w) A (call (.builtin "set.add") [av,y]) (λ_ s6=>∃m,m<n/\J m s6) (λ_ _=>False) s5) (λ_ _=>False) s4
      else ∃m,m<n/\J m s4) (λ_ _=>False) s3) (λ_ _=>False) s2) (λ_ _=>False) s1) (λ_ _=>False) s)
 (n:Nat) (h:J n s):ū (í P w) A (.compLoop (.SetComp el [⟨tg,src,tests,0⟩] sc ps) 0 fV av ce) R s:=by
 refine codeAny_loop rfl J (λn s X=>?_) n h
 show Ü _ A ((abH (.SetComp el [⟨tg,src,tests,0⟩] sc ps) 0 fV av ce).onRaise (λx=>do noteFrame x ce;theTreesLotGoes x)) _ _ s
 refine wpAny_noted ?_;rw[SG];refine À (ł (À (ĝ (turn n s X) (λr s1 Z=>?_) λ_ _ z=>z.elim)))
 cases r with
 |none=>exact Â Z
 |some v =>
  refine À (ĝ Z (λ_ s2 W=>?_) λ_ _ z=>z.elim);refine À (ĝ W (λ_ s3 V=>À (ĝ V (λok s4 Y=>?_) λ_ _ z=>z.elim)) λ_ _ z=>z.elim)
  cases ok with
  |false=>exact Â ⟨rfl,Y⟩
  |true =>
   exact À (À (ĝ Y (λy s5 U=>À (ł (À (ĝ U (λ_ s6 T=>Â (Â ⟨rfl,T⟩)) λ_ _ z=>z.elim)))) λ_ _ z=>z.elim))
end
def Gi (acc:List V):Prop:=∃Z:List Int,acc=Z.map V.int/\∀k∈Z,0<=k/\k<60
noncomputable def Gj:V->Int
 | .int n=>n
 |_=>0
def CT (ns:List Int):(ns.map V.int).map Gj=ns:=by
 rw[ĉ];exact List.map_id' ns
abbrev Gk (P:ö) (w:Ć) (p:â) (acc:List V):HO:=.ext (cR P w p (acc.map Gj))
def zB (P:ö) (w:Ć) (wi:TI) (nt:Nat) (cap:List Nat) (g:TG) (tf:TT) (te:TE):TE:=fun σ H Q=>wi σ H λJ Z=>Fv (Gk P w) Gi J nt (lq cap σ) g tf te Z Q
theorem cR.at (x:cR P w p ns h) (k:∀o,h.get? p=some o->h'.get? p=some o):cR P w p ns h':=by
 obtain⟨S,n,T,r⟩:=x;exact⟨S,n,T.at k,r⟩
def cR.obj (x:cR P w p ns h):∃o,h.get? p=some o/\∀v,o.data≠.cell v:=by
 obtain⟨S,n,⟨o,X,W,t,Z,V,Y,_⟩,_⟩:=x;exact⟨o,Z,λv z=>by rw[Y] at z;cases z⟩
def SH (hx:cR P w p ns h):dX P w (upd H p (.ext (cR P w p ns))) h p (.ext (cR P w p ns)):=⟨hx,by obtain⟨o,e,_⟩:=hx.obj;exact⟨o,e⟩,λ_ _ q k=>q.at k⟩
def SI (e:h.get? p=some { cls:=.type "set",dict:=none,data:=.set #[] 0 (.fresh 0 0 (TS.eZ w)) }):cR P w p [] h :=
 ⟨λ_=>false,0,⟨_,#[],0,_,e,⟨rfl,rfl,rfl⟩,rfl,λe Z=>by simp at Z,λk=>by simp,by unfold ω;simp,by rfl,rfl,TS.Il _⟩,λk=>by simp,acr _,rfl⟩
def SJ {ns:List Int} (h:∀k∈ns,0<=k/\k<60):(ns.foldl Ŷ []).length<=60:=by
 have:=sub_len (l:=(Ø 60).map λ(i:Nat)=>(i:Int)) (ve ns [] aae) λk Z=>by
  have:=h k ((vo ns k).mp Z);exact ó.mpr ⟨k.toNat,ñ.mpr (by omega),by omega⟩
 simpa using this
def SK {ns:List Int} {S:Int->Bool} {n:Nat} {k:Int} (T:TS.gy P w (TS.eZ w) h p (λj=>S j||decide (j=k)) (if S k then n else n+1)) (mem:∀j,S j=true↔j∈ns) (len:n=(ns.foldl Ŷ []).length):cR P w p (ns++[k]) h:=by
 have e:(if S k then n else n+1)=((ns++[k]).foldl Ŷ []).length:=by
  rw[List.foldl_append];show _=(Ŷ (ns.foldl Ŷ []) k).length;rw[len];generalize X:ns.foldl Ŷ []=m;have Y:∀k,k∈m↔k∈ns:=λk=>X ▸ vo ns k;unfold Ŷ;by_cases Z:k∈ns
  ·rw[ß ((mem k).mpr Z),ß ((kZ _ k).mpr ((Y k).mpr Z))]
  ·rw[æ (λz=>Z ((mem k).mp z)),æ (λz=>Z ((Y k).mp ((kZ _ k).mp z))),é];rfl
 refine⟨_,_,T,λj=>by simp[mem j],?_,e⟩;rw[e];have:=sub_len (l:=ns++[k]) (ve (ns++[k]) [] aae) λj W=>(vo _ j).mp W;exact this
def SM (h:Q (.ref s.heap.objs.size) { s with heap:=s.heap.push { cls:=.type "set",dict:=none,data:=.set #[] 0 (.fresh 0 0 (TS.eZ w)) } }):Ü (í P w) A (newSet (.type "set")) Q E s:=by
 unfold newSet;refine À ?_;unfold setsByText;refine À (Ő (Â ?_));dsimp only;simp only[newObj];exact À (wpAny_alloc (Â h))
def setB {P:ö} {w:Ć} {el tg src:Ņ} {tests:List Ņ} {sc:aaB} {ps:Pos}:D7 P w (.SetComp el [⟨tg,src,tests,0⟩] sc ps) el tg src tests (newSet (.type "set")) "set.add" (Gk P w) Gi where
 o0:={ cls:=.type "set",dict:=none,data:=.set #[] 0 (.fresh 0 0 (TS.eZ w)) }
 live:=rfl
 Ac:=λD Z h=>Gi Z/\cR P w D (Z.map Gj) h
 clauses:=rfl
 turns:=O5
 new:=SM
 start:=Oq
 init:=λe=>⟨⟨[],rfl,λk V=>by cases V⟩,SI e⟩
 obj:=λh=>h.2.obj
 gb:=λh k=>⟨h.1,h.2.at k⟩
 Dy:=λ_ h=>SH h.2
 add:=λ{A s D Z v y Q} h U _ Y q=>by
  obtain⟨⟨K,rfl,T⟩,X⟩:=h;obtain⟨S,e,J⟩:=id Y;rw[CT] at X;have ev:∃k,v=.int k:=by
   have:=Ŀ List.getLast? e;rw[List.getLast?_append] at this;simp only[List.getLast?_singleton,Option.some_or,List.getLast?_map] at this
   cases W:S.getLast? with
   |none=>rw[W] at this;cases this
   |some k=>rw[W] at this;exact⟨k,acs this⟩
  obtain⟨k,rfl⟩:=ev;obtain⟨I,rfl⟩:=U;obtain⟨H,R,T0,O,_,len0⟩:=X;refine Q4 T0 (by have:=SJ T;show R+1<4096;omega) λN M L=>q N _ M ⟨Y,?_⟩;rw[õ,CT];exact SK L O len0
section
variable {X:Cx}
def SN {nt:Nat} {cap:List Nat} (hc:X.calm=true) (S:ki X sc N nt cap) (ff:lX g nt) (hi:PI X tg src wi)
 (hY:∀(cl:List (Str×â)) (C:â) (s:Ç) (H:Hp) (ex:List â) (pn:List (â×Obj)),PG (cx X N sc cl C s H ex pn) tg g/\PF (cx X N sc cl C s H ex pn) tests tf/\PE (cx X N sc cl C s H ex pn) el te)
 (hs:∀x,ï src X.env x=pure x:=by intro _;rfl):PE X (.SetComp el [⟨tg,src,tests,0⟩] sc ps) (zB X.prog X.w wi nt cap g tf te):=by
 intro T s σ H Q I h;exact BF (p1:=firstIterPos [⟨tg,src,tests,0⟩] ps) setB (use:=none) hc S ff hi hY hs I h λR Z D C m Y W _ _ _ _ _ _ q=>⟨m,W,λV U=>⟨.ref D,Z,Y V U,rfl,q⟩⟩
end
end L2
namespace DI
open PySem L2
def jI (d:D) (s:ag):Res D:=match d with
 | .int i=>if decide (0<=i/\i<60)=true then ok (.int i) s else none
 |_=>none
section
variable {X:Cx} {Ξ:Wd->bt->Prop} {e a b c tg el src:Ņ} {es rest tests:List Ņ} {pos:Pos} {f g h:acn D} {fa:acn (List D)} {ft gt:acn Bool}
def Q5 {P:ö} {wd:Ć} {K:ļ} {nt:Nat} {cap:List Nat} {it:acn (List D)} {g:D->Env->Option Env} {sy:D->ag->Res D} (σ:St) (H:Hp) (Q:VK)
  (rm:∀(w2:Wd) (ns:List Int),aL K w2->Out K Ξ w2 (sy (.lst (ns.map D.int)) w2.aA) (λw' d=>∀v,DV K w' d v->Q v w'.H)->∀D,w2.H D=none->(ns.foldl ŧ []).length<64/\∀(l:â) (ks:List Int),(upd w2.H D (.ext (cR P wd D ns))) l=none->ks.Pairwise (· < ·)->(∀k,k∈ks↔k∈ns)->Q (.ref l) (upd (upd w2.H D (.ext (cR P wd D ns))) l (.lst (ks.map V.int)))):tE K Ξ (e1 sy (aM nt cap it g ft (e1 jI f))) σ H Q->zB P wd (dC K Ξ it) nt cap (gD K g) (tT K bj ft) (tE K bj f) σ H λv H1=>∃(p:â) (ns:List Int),v=.ref p/\H1 p=some (.ext (cR P wd p ns))/\(ns.foldl ŧ []).length<64/\∀(l:â) (ms:List Int),H1 l=none->ms.Pairwise (· < ·)->(∀k,k∈ms↔k∈ns)->Q (.ref l) (upd H1 l (.lst (ms.map V.int))):=by
 rintro ⟨w,env,rfl,S,s,h⟩;refine⟨w,env,rfl,S,s,(Out.ao (Out.ao h)).mono λF Y l1 S1 E J r=>?_⟩;obtain⟨hz,E⟩:=qa E;refine⟨λi m n c=>∃Z:List Int,(n=Z.map V.int/\∀k∈Z,0<=k/\k<60)/\m=Y.length-i/\i<=Y.length/\∃w',w'.H=c/\Le K F w'/\aL K w'/\Out K Ξ w' (bY nt (cX cap env) g ft (e1 jI f) (Y.drop i) w'.aA) λw2 U=>Out K Ξ w2 (sy (.lst (Z.map D.int++U)) w2.aA) (λw' d=>∀v,DV K w' d v->Q v w'.H),
  ⟨Y.length,[],⟨rfl,λk T=>by cases T⟩,rfl,ē _,F,rfl,Le.refl _,S1,(Out.ao E).mono λw2 U R M L=>aF M L⟩,?_⟩
 rintro i m n c ⟨Z,⟨rfl,I⟩,rfl,hi,w',rfl,O,G,X⟩;by_cases C:i<Y.length
 ·right
  obtain⟨ff,hy⟩:=(r w' O G i).1 _ (Ë C);rw[Ś C] at X;simp only[bY] at X
  cases B:g Y[i] (Ñ nt none++cX cap env) with
  |none=>rw[B] at X;exact X.elim
  |some A =>
   rw[B] at X;refine⟨ff,⟨Z,rfl,I⟩,λa H2=>∃N:List Int,(a=N.map V.int/\∀k∈N,0<=k/\k<60)/\∃w',w'.H=H2/\Le K F w'/\aL K w'/\Out K Ξ w' (bY nt (cX cap env) g ft (e1 jI f) (Y.drop (i+1)) w'.aA) λw2 U=>Out K Ξ w2 (sy (.lst (N.map D.int++U)) w2.aA) (λw' d=>∀v,DV K w' d v->Q v w'.H),
    λa H2 ⟨N,b2,q⟩=>⟨Y.length-(i+1),by omega,N,b2,rfl,C,q⟩,λo x H3 ho y=>?_⟩
   obtain⟨w2,rfl,R,M,es,dv⟩:=hy x H3 y;refine⟨w2,_,Y[i],A,rfl,M,(s.le (l1.trans (O.trans R))).block nt cap o ho,dv,B,fun lT iZ=>?_⟩;rw[<- es] at X;refine⟨w2,A,rfl,M,iZ,(Out.ao (X.from R)).ne.mono λw3 b u S3 h3=>?_⟩
   cases b with
   |true =>
    refine⟨w3,A,rfl,S3,iZ.le u,(Out.ao (Out.ao h3).ne).mono λw4 d l4 S4 W v rX=>?_⟩;unfold jI at W;split at W
    ·rename_i k
     split at W
     ·rename_i T
      have T:=ı T;have W:=aF S4 W;have ev:v=.int k:=rX;subst ev;refine⟨Z++[k],⟨by rw[õ];rfl,λj hj=>?_⟩,w4,rfl,O.trans (R.trans (u.trans l4)),S4,(Out.ao W).mono λw5 U l5 S5 t=>?_⟩
      ·rcases ä.mp hj with z|z
       ·exact I j z
       ·rw[å.mp z];exact T
      ·have t:=aF S5 t
       rw[õ,ę];exact t
     ·exact W.elim
    ·exact W.elim
   |false =>
    exact⟨Z,⟨rfl,I⟩,w3,rfl,O.trans (R.trans u),S3,h3⟩
 ·left
  have e:i=Y.length:=by omega
  subst e;rw[aaM] at X;have L:=aF G X;rw[Ķ] at L;refine⟨(r w' O G _).2 (acr _),⟨Z,rfl,I⟩,λp hp=>?_⟩;rw[Gk,CT];exact⟨p,Z,rfl,eT,rm w' Z G L p hp⟩
def nB (d:D) (s:ag):Res D:=match ka d s with
 |some (.ok (.lst Z),s)=>ok (.ai s.length) (s++[.lst Z])
 |_=>none
def WM {P:ö} {wd:Ć} {K:ļ} {Q:VK} {w2:Wd} {ns:List Int} (S2:aL K w2) (h2:Out K Ξ w2 (nB (.lst (ns.map D.int)) w2.aA) (λw' d=>∀v,DV K w' d v->Q v w'.H)) (q:â) (hq:w2.H q=none):(ns.foldl ŧ []).length<64/\∀(l:â) (ks:List Int),(upd w2.H q (.ext (cR P wd q ns))) l=none->ks.Pairwise (· < ·)->(∀k,k∈ks↔k∈ns)->Q (.ref l) (upd (upd w2.H q (.ext (cR P wd q ns))) l (.lst (ks.map V.int))):=by
 unfold nB ka at h2;simp only[BP] at h2;by_cases Z:(eY ns).length<64
 ·rw[ß (à Z)] at h2
  refine⟨aa3 (Ji ns) Z,λl T W hs U=>?_⟩;have e:=Bt hs (yp ns) λk=>(U k).trans nA.symm;subst e;have Y:(w2.grow q (.ext (cR P wd q ns))).H l=none:=W;have X:=S2.grow (o:=.ext (cR P wd q ns)) hq;have le:=(Fw.cell (K:=K) (o:=.lst ((eY ns).map V.int)) (c:=.lst ((eY ns).map D.int)) X Y).le;refine h2 ((w2.grow q (.ext (cR P wd q ns))).cell l (.lst ((eY ns).map V.int)) (.lst ((eY ns).map D.int))) ((Fw.grow hq).le.trans le) (X.zY Y ⟨_,eT,ar.ints _⟩) rfl (.ref l) ⟨l,?_,rfl⟩;show (w2.ρ++[l])[w2.aA.length]?=some l;rw[<- S2.len];simp
 ·rw[æ (by simpa using Z)] at h2
  exact h2.elim
def O6 (i_:∀v σ H Q,g1 v σ H Q->g0 v σ H Q) (wm:∀R R':It->Hp->Prop,(∀J H',R J H'->R' J H')->wi σ H R->wi σ H R') (h:zB P wd wi nt cap g1 tf te σ H Q):zB P wd wi nt cap g0 tf te σ H Q:=by
 refine wm _ _ (λJ H' Y=>?_) h;obtain⟨W,X,step⟩:=Y;refine⟨W,X,λi m Z V hw=>?_⟩
 rcases step i m Z V hw with q | ⟨U,T,N,S,O⟩
 ·exact .inl q
 ·exact .inr ⟨U,T,N,S,λo x M L y=>i_ _ _ _ _ (O o x M L y)⟩
def SO {sy:D->ag->Res D} (rm:∀{Q:VK} (w2:Wd) (ns:List Int),aL X.K w2->Out X.K Ξ w2 (sy (.lst (ns.map D.int)) w2.aA) (λw' d=>∀v,DV X.K w' d v->Q v w'.H)->∀D,w2.H D=none->(ns.foldl ŧ []).length<64/\∀(l:â) (ks:List Int),(upd w2.H D (.ext (cR X.prog X.w D ns))) l=none->ks.Pairwise (· < ·)->(∀k,k∈ks↔k∈ns)->Q (.ref l) (upd (upd w2.H D (.ext (cR X.prog X.w D ns))) l (.lst (ks.map V.int)))) {sc:aaB} {ps p:Pos} {N:List Str} {nt:Nat} {cap:List Nat} {it:acn (List D)} {gd:D->Env->Option Env} {g0:TG} (hc:X.calm=true) (S:ki X sc N nt cap) (T:Tg X.K g0 gd nt) (hi:PI X tg src (dC X.K Ξ it))
  (hY:∀(cl:List (Str×â)) (C:â) (s:Ç) (H:Hp) (ex:List â) (pn:List (â×Obj)),PG (cx X N sc cl C s H ex pn) tg g0/\PF (cx X N sc cl C s H ex pn) tests (tT X.K bj ft)/\PE (cx X N sc cl C s H ex pn) el (tE X.K bj f))
  (hg:Gl X "sorted") (hm:X.mg "sorted"=none) (hv:Ă "sorted"=some (.builtin "sorted"))
  (hs:∀x,ï src X.env x=pure x:=by intro _;rfl)
  (oo:Þ [.SetComp el [⟨tg,src,tests,0⟩] sc ps] X.env=(false,ś (.SetComp el [⟨tg,src,tests,0⟩] sc ps) X.env)::Þ [] X.env:=by rfl) (wJ:(χ pos (Þ [] X.env)).any (·.1)=false:=by rfl) :
  PE X (.Call (.Name "sorted" p) [.SetComp el [⟨tg,src,tests,0⟩] sc ps] [] pos) (tE X.K Ξ (e1 sy (aM nt cap it gd ft (e1 jI f)))) :=
 dg (yM (Ho hc) hg hm hv (kY (SN hc S T.jj hi hY hs) nM oo) (by decide) (by decide) oo wJ) fun σ H Q h=>by
  refine O6 T.imp (λR Y i h=>vw R Y i h) ?_;have q:=Q5 (P:=X.prog) (wd:=X.w) σ H Q rm h;refine vw _ _ (λJ A hc=>?_) q;obtain⟨W,U,step⟩:=hc;refine⟨W,U,λi m Z O hw=>?_⟩
  rcases step i m Z O hw with ⟨M,L,I⟩|q
  ·refine .inl ⟨M,L,λD G=>?_⟩
   obtain⟨p,ns,e,F,E,B⟩:=I D G;exact⟨p,ns,by rw[e],F,E,B⟩
  ·exact .inr q
def SQ {sc:aaB} {ps p:Pos} {N:List Str} {nt:Nat} {cap:List Nat} {it:acn (List D)} {gd:D->Env->Option Env} {g0:TG} (hc:X.calm=true) (S:ki X sc N nt cap) (T:Tg X.K g0 gd nt) (hi:PI X tg src (dC X.K Ξ it))
  (hY:∀(cl:List (Str×â)) (C:â) (s:Ç) (H:Hp) (ex:List â) (pn:List (â×Obj)),PG (cx X N sc cl C s H ex pn) tg g0/\PF (cx X N sc cl C s H ex pn) tests (tT X.K bj ft)/\PE (cx X N sc cl C s H ex pn) el (tE X.K bj f))
  (hg:Gl X "sorted") (hm:X.mg "sorted"=none) (hv:Ă "sorted"=some (.builtin "sorted"))
  (hs:∀x,ï src X.env x=pure x:=by intro _;rfl)
  (oo:Þ [.SetComp el [⟨tg,src,tests,0⟩] sc ps] X.env=(false,ś (.SetComp el [⟨tg,src,tests,0⟩] sc ps) X.env)::Þ [] X.env:=by rfl) (wJ:(χ pos (Þ [] X.env)).any (·.1)=false:=by rfl) :
  PE X (.Call (.Name "sorted" p) [.SetComp el [⟨tg,src,tests,0⟩] sc ps] [] pos) (tE X.K Ξ (e1 nB (aM nt cap it gd ft (e1 jI f)))) :=
 SO (λ_ _ S h D Z=>WM S h D Z) hc S T hi hY hg hm hv hs oo wJ
end
end DI
namespace TK
open PySem PySem.Spec PyProof.Rows L2 DI
def nE (W:Ć) (k d:D) (s:ag):Res D:=match d,k with
 | .ai j,.tup Z=>match s[j]? with
  |some (.dT Y)=>if (cU Z&&decide (cv Z<=6)&&Y.all (keyOk W))=true then ok (.bl (!(Y.any λp=>beq p.1 (.tup Z)))) s else none
  |_=>none
 |_,_=>none
section
variable {X:Cx} {Ξ:Wd->bt->Prop}
def OJ {K:Type} [DecidableEq K] {xs:List (K×â×Ì)} {k:K}:(atKey xs k).isSome=decide (k∈xs.map (·.1)):=by
 unfold atKey;rw[Option.isSome_map,Ĭ,List.find?_isSome,È,ó];simp
def SR {k:Nat} {W:Ć} (hW:X.w=W) (hr:bZ k X.A):aZ X (Č .NotIn) (rO X.K Ξ (nE W)):=by
 subst hW;rintro l s σ H x y v u Q I M L ⟨w,i,g,rfl,S,R,J,h⟩;unfold nE at h;split at h
 ·rename_i j G
  split at h
  ·rename_i Y F
   split at h
   ·rename_i P
    simp only[Ê,È] at P;obtain⟨⟨U,E⟩,C⟩:=P;obtain⟨a,e1,rfl⟩:=J;obtain⟨as,B,O,T⟩:=S.cell j a _ e1 F;have Z:=Iv C;have N:=R;simp only[DI.DV] at N;obtain⟨b,_,rfl,_⟩:=N;have len:Y.length=as.length:=by have:=O.length;simpa using this
    cases M;cases L;obtain⟨⟨z,t,r,q,p,hex,o,n⟩,_,_⟩:=I.aH _ _ B;have m:s.heap.DictOfH (kind X.prog X.w) a (XS Y as):=⟨t,r,q,p,hex,o,by rw[n,Cg Z len],Mg I Z O,by
     have:=CP Z len;rw[<- this] at T;have e:(XS Y as).map (λx=>D.tup x.1)=((XS Y as).map (·.1)).map D.tup:=by rw[ĉ];rfl
     rw[e] at T;exact List.Pairwise.of_map D.tup (λa b h e=>h (by rw[e])) T⟩
    have f:X.A.units+100<abr:=by have:=hr.un;have:abr=9900:=rfl;omega
    refine wpAny_notIn_heap (knd:=kind X.prog X.w) (show X.A.in1.units+10<abr from ?_) ⟨U,E,Ah I (.tup G) (.ref b) (.ref b) (by simpa only [kd] using U) R rfl⟩ ?_ m ?_
    ·have:X.A.in1.units<=X.A.units+1:=by first|exact acr _|exact Ů _
     omega
    ·exact z
    ·refine⟨.bl _,w.H,I.tok _,rfl,aF S h _ ?_⟩
     show V.bl _=.bl _;congr 2;rw[OJ,Ĭ,È,DB Z len];exact(kZ Z U).symm
   ·exact h.elim
  ·exact h.elim
 ·exact h.elim
end
end TK
namespace DI.cV
open PySem L2 DI
def yS:List D->ag->Res D:=aW 1 3 (aw (aK (bO (ae (ax vA (ae (aa 0) (ae (eC (.int 8)) ah))) (ae (ax vA (ae (aa 0) (ae (eC (.int 8)) ah))) ah))) (gT [(gN 1),(gN 2)])) (aQ (bO (ae (aa 1) (ae (eB eI (ae (aM 1 [1] (aR (aa 2)) (gN 0) (aC (e2 dU (aa 0) (aa 1))) (aa 0)) ah)) ah)))))
def BG:acn Fl:=(aw (aK (bO (ae (ax cf (ae (aa 0) (ae (eC (.int 31)) ah))) (ae (e2 cY (eC (.int 1)) (ax cf (ae (aa 0) (ae (eC (.int 4)) ah)))) ah))) (gT [(gN 5),(gN 6)])) (aw (aK (aM 1 [5,1,2] (bL (ae (eC (.int 8)) ah)) (gN 0) ba (e2 aj (ax tK (ae (aa 2) (ae (aa 3) (ae (aa 0) ah)))) (aa 1))) (gN 7)) (aw (aK (aM 1 [0,6] (bL (ae (eC (.int 8)) ah)) (gN 0) (aC (e2 aS (ax cf (ae (aa 1) (ae (aa 2) ah))) (eC (.int 0)))) (aa 0)) (gN 8)) (aw (aK (eB eI (ae (aM 1 [7] (aR (aa 8)) (gN 0) (dZ (e2 aj (e2 aj (aa 1) (aa 0)) (e1 oT (eC (.int 1))))) (aa 0)) ah)) (gN 9)) (aw (aK (bO (ae (aa 9) (ae (eB eI (ae (aM 1 [9] (aR (aa 8)) (gN 0) (aC (e2 dU (aa 0) (aa 1))) (aa 0)) ah)) ah))) (gN 10)) (fF (gP (aa 3) (e2 aj (lK (ae (aa 10) (ae (aa 10) (ae (e1 AF (aa 10)) (ae (ax yS (ae (aa 0) ah)) ah))))) (ax cf (ae (aa 0) (ae (eC (.int 4)) ah)))))))))))
def yH:List D->ag->Res D:=aW 3 11 (aw (aK (eNew ah) (gN 3)) (aw (ef (bL (ae (e2 cY (eC (.int 1)) (ax cf (ae (aa 0) (ae (eC (.int 3)) ah)))) ah)) (gN 4) BG) (aQ (eB eI (ae (aa 3) ah)))))
def yr:List D->ag->Res D:=aW 1 1 (aQ (dj (eB cL (ae (aa 0) (ae (eC (.ty "tuple")) ah))) (dj (pO o9 o9 (eC (.int 1)) (eB cz (ae (aa 0) ah)) (eC (.int (3)))) (eB lL (ae (aM 1 [] (aR (aa 0)) (gN 0) ba (ax sQ (ae (aa 0) ah))) ah)))))
def vd:List D->ag->Res D:=aW 3 3 (aw (fF (ax yz (ae (aa 0) ah))) (aw (fF (ax yq (ae (aa 1) ah))) (cG (ig (dZ (ax yr (ae (aa 2) ah)))) A6 cK)))
def u9:List D->ag->Res D:=aW 4 4 (aQ (aM 1 [0,1,3] (aR (e2 aj (aa 2) (eC (.int (0))))) (gN 0) (aC (e2 cD (aa 0) (e2 aj (aa 3) (eC (.int (1)))))) (ax pX (ae (aa 1) (ae (aa 2) (ae (aa 0) ah))))))
def vn:List D->ag->Res D:=aW 3 3 (aQ (ma (e2 gC (aa 2) (aa 1)) (eB lL (ae (aM 1 [1,2] (aR (aa 0)) (gN 0) ba (ax va (ae (aa 0) (ae (aa 1) (ae (aa 2) ah))))) ah))))
def yg:List D->ag->Res D:=aW 4 6 (aw (aK (ax u9 (ae (aa 0) (ae (aa 1) (ae (aa 2) (ae (aa 3) ah))))) (gN 4)) (aw (aK (ax u9 (ae (aa 0) (ae (aa 1) (ae (aa 3) (ae (aa 2) ah))))) (gN 5)) (aQ (aM 1 [4,5] (bL (ae (eC (.int (31))) ah)) (gN 0) ba (aM 1 [1,0,2] (bL (ae (eC (.int (31))) ah)) (gN 0) ba (dj (ax vn (ae (aa 1) (ae (aa 2) (ae (aa 0) ah)))) (ax vn (ae (aa 3) (ae (aa 0) (ae (aa 2) ah))))))))))
def ze:List D->ag->Res D:=aW 2 2 (aQ (dj (ax sM (ae (e2 aj (aa 0) (eC (.int (0)))) (ae (e2 aj (aa 1) (eC (.int (1)))) ah))) (ax sM (ae (e2 aj (aa 0) (eC (.int (1)))) (ae (e2 aj (aa 1) (eC (.int (0)))) ah)))))
def yI:List D->ag->Res D:=aW 3 3 (aQ (eB lL (ae (aM 2 [2] (tZ (ae (aa 0) (ae (aa 1) ah))) (gT [gN 0,gN 1]) ba (e2 aj (e2 aj (aa 0) (aa 1)) (aa 2))) ah)))
def BH:acn Fl:=(aw (aK (aM 1 [2,5,3] (bL (ae (eC (.int (31))) ah)) (gN 0) (dZ (ax ze (ae (e2 aj (aa 1) (aa 2)) (ae (e2 aj (aa 3) (aa 0)) ah)))) (aa 0)) (gN 6)) (aw (aK (aM 1 [0,1,2,5] (bL (ae (aa 5) ah)) (gN 0) ba (ax yg (ae (aa 1) (ae (aa 2) (ae (e2 aj (aa 3) (aa 0)) (ae (e2 aj (aa 3) (aa 4)) ah)))))) (gN 7)) (aK (tG 2 [7,6] (aR (aa 4)) (gN 0) ba (aR (aa 3)) (gN 1) (dZ (ax yI (ae (aa 2) (ae (aa 0) (ae (aa 1) ah))))) (e2 cY (aa 0) (bO (ae (aa 1) ah)))) (gN 4))))
def vt:List D->ag->Res D:=aW 3 8 (aw (aK (ax ym (ae (aa 0) (ae (aa 1) ah))) (gN 3)) (aw (aK (lK (ae (bO ah) ah)) (gN 4)) (aw (ef (bL (ae (eB cz (ae (aa 2) ah)) ah)) (gN 5) BH) (aQ (aa 4)))))
def vv:List D->ag->Res D:=aW 3 4 (aw (fF (ax vd (ae (aa 0) (ae (aa 1) (ae (aa 2) ah))))) (aw (aK (ax vt (ae (aa 0) (ae (aa 1) (ae (aa 2) ah)))) (gN 3)) (aQ (oK 1 [3] (bL (ae (eB cz (ae (aa 2) ah)) ah)) (gN 0) ba (e1 nB (aM 1 [0] (aR (aa 1)) (gN 0) ba (e1 jI (e2 aj (aa 0) (aa 1)))))))))
def BV:acn Fl:=(aw (aK (aM 1 [5,3] (aR (e2 aj (aa 2) (eC (.int 0)))) (gN 0) (aC (e2 dU (eC (.bl true)) (e2 aj (e2 aj (aa 2) (aa 0)) (aa 1)))) (aa 0)) (gN 6)) (cG (aC (e2 aS (e2 cY (aa 6) (aM 1 [5,3] (aR (e2 aj (aa 2) (eC (.int 1)))) (gN 0) (aC (e2 dU (eC (.bl false)) (e2 aj (e2 aj (aa 2) (aa 0)) (aa 1)))) (aa 0))) (lK ah))) (fF (gP (aa 4) (aa 5))) cK))
def yT:List D->ag->Res D:=aW 3 7 (aw (aK (aM 1 [0,1] (bL (ae (eC (.int 8)) ah)) (gN 0) ba (ax tK (ae (aa 1) (ae (aa 2) (ae (aa 0) ah))))) (gN 3)) (aw (aK (eNew ah) (gN 4)) (aw (ef (bL (ae (eC (.int 31)) ah)) (gN 5) BV) (aQ (kG (aa 4))))))
def yD:List D->ag->Res D:=aW 3 3 (aQ (e2 gO (aM 1 [1,2] (aR (aa 0)) (gN 0) (aC (pO gC o9 (aa 1) (aa 0) (aa 2))) (aa 0)) (lK ah)))
def CU (W:Ć):acn Fl:=(aw (aK (bO (ae (eB v7 (ae (aa 8) (ae (aa 9) ah))) (ae (eB qL (ae (aa 8) (ae (aa 9) ah))) ah))) (gT [(gN 10),(gN 11)])) (aw (aK (rW (aC (e2 aS (aa 8) (aa 9))) (e2 cY (aa 5) (aa 6)) (rW (aC (e2 gC (aa 8) (aa 9))) (aa 5) (aa 6))) (gN 12)) (cG (aC (e2 dU (eC (.bl false)) (aM 1 [10,11] (aR (aa 12)) (gN 0) ba (ax yD (ae (aa 0) (ae (aa 1) (ae (aa 2) ah))))))) (TK.mT W (eC (.bl true)) (aa 7) (bO (ae (aa 8) (ae (aa 9) ah)))) cK)))
def Kg (W:Ć):acn Fl:=(ef (bL (ae (eC (.int 31)) ah)) (gN 9) (CU W))
def qw (W:Ć):List D->ag->Res D:=aW 4 13 (aw (aK (aM 1 [1] (aR (aa 0)) (gN 0) (aC (e2 aS (kR (aa 0) kQ (kH (eC (.int 2)))) (bO (ae (eC (.str "mended")) (ae (aa 1) ah))))) (kR (aa 0) (kH (eC (.int 2))) kQ)) (gN 4)) (aw (aK (aM 1 [4,3] (aR (e2 aj (aa 2) (eC (.int 0)))) (gN 0) (aC (e2 cD (aa 0) (e2 aj (aa 2) (eC (.int 1))))) (aM 2 [0] (aR (aa 1)) (gT [gN 0,gN 1]) (aC (e2 aS (aa 1) (aa 2))) (aa 0))) (gN 5)) (aw (aK (aM 1 [4,2] (aR (e2 aj (aa 3) (eC (.int 0)))) (gN 0) (aC (e2 cD (aa 0) (e2 aj (aa 2) (eC (.int 1))))) (aM 2 [0] (aR (aa 1)) (gT [gN 0,gN 1]) (aC (e2 aS (aa 1) (aa 2))) (aa 0))) (gN 6)) (aw (aK TK.wo (gN 7)) (aw (ef (bL (ae (eC (.int 31)) ah)) (gN 8) (Kg W)) (aQ (aa 7)))))))
def CV (W:Ć):acn Fl:=(cG (aC (e2 aS (aM 2 [9] (tZ (ae (aa 8) (ae (aa 6) ah))) (gT [gN 0,gN 1]) (aC (e2 (TK.nE W) (bO (ae (aa 0) (ae (aa 2) ah))) (aa 1))) (aa 0)) (lK ah))) (fF (gP (aa 7) (e2 cY (aa 8) (bO (ae (aa 9) ah))))) cK)
def CY (W:Ć):acn Fl:=(ef (aR (e2 aj (aa 3) (aa 5))) (gN 9) (CV W))
def CZ (W:Ć):acn Fl:=(aw (aK (aM 1 [0,1,2,5] (aR (kR (aa 2) kQ (kH (aa 5)))) (gN 0) ba (ax (qw W) (ae (aa 1) (ae (aa 2) (ae (aa 0) (ae (e2 aj (aa 3) (aa 4)) ah)))))) (gN 6)) (aw (aK (eNew ah) (gN 7)) (aw (ef (aR (aa 4)) (gN 8) (CY W)) (aK (kG (aa 7)) (gN 4)))))
def zC (W:Ć):List D->ag->Res D:=aW 3 10 (aw (aK (aM 1 [0,1] (aR (aa 2)) (gN 0) ba (ax yT (ae (aa 1) (ae (aa 2) (ae (aa 0) ah))))) (gN 3)) (aw (aK (aM 1 [] (aR (e2 aj (aa 3) (eC (.int 0)))) (gN 0) ba (bO (ae (aa 0) ah))) (gN 4)) (aw (ef (rZ (ae (eC (.int 1)) (ae (eB cz (ae (aa 2) ah)) ah))) (gN 5) (CZ W)) (aQ (aa 4)))))
def gp:Nat->List D->ag->Res D
 |0=>λ_ _=>none
 |n+1=>aW 2 2 (aw (cG (dZ (e1 wI (aa 1))) (aw (cG (iW (aC (e2 gO (eB cL (ae (aa 0) (ae (eC (.ty "tuple")) ah))) (eB cL (ae (aa 1) (ae (eC (.ty "tuple")) ah))))) (aC (e2 gO (eB cL (ae (aa 0) (ae (eC (.ty "list")) ah))) (eB cL (ae (aa 1) (ae (eC (.ty "list")) ah)))))) (aQ (eC (.bl false))) cK) (aQ (dj (e2 aS (eB cz (ae (aa 0) ah)) (eB cz (ae (aa 1) ah))) (eB lL (ae (vN 2 [] (nZ (ae (aa 0) (ae (aa 1) ah))) (gT [gN 0,gN 1]) ba (ax (gp n) (ae (aa 0) (ae (aa 1) ah)))) ah))))) cK) (aQ (dj (e2 aS (eB cL (ae (aa 0) (ae (eC (.ty "bool")) ah))) (eB cL (ae (aa 1) (ae (eC (.ty "bool")) ah)))) (e2 aS (aa 0) (aa 1)))))
def ny:List D->ag->Res D:=aW 1 1 (aQ (bO (ae (e2 qJ (eB wq (ae (aa 0) ah)) (eB qT (ae (aa 0) ah))) (ae (eB qT (ae (aa 0) ah)) (ae (aa 0) ah)))))
def yA:List D->ag->Res D:=aW 3 3 (aw (fF (ax vd (ae (aa 0) (ae (aa 1) (ae (aa 2) ah))))) (aQ (e1 (Af ny) (ax vt (ae (aa 0) (ae (aa 1) (ae (aa 2) ah)))))))
def DG:acn Fl:=(aw (aK (bO (ae (e2 qJ (eB wq (ae (aa 11) ah)) (eB qT (ae (aa 11) ah))) (ae (eB qT (ae (aa 11) ah)) (ae (aa 11) ah)))) (gN 12)) (aK (rW (iW (aC (e2 oU (aa 10) (eC .au))) (aC (e2 gC (aa 12) (aa 10)))) (aa 12) (aa 10)) (gN 10)))
def DH (W:Ć):acn Fl:=(aw (aK (ax yP (ae (aa 0) (ae (aa 1) ah))) (gN 2)) (aw (AG 3 4 (ae (kR (ax (zd W) (ae (aa 2) ah)) kQ (kH (eC (.int 24)))) (ae (ax cf (ae (aa 2) (ae (eC (.int 3)) ah))) ah))) (aw (aK (ax yH (ae (aa 2) (ae (aa 3) (ae (aa 4) ah)))) (gN 5)) (aw (aK (bO (ae (ax (zC W) (ae (aa 3) (ae (aa 4) (ae (aa 5) ah)))) (ae (eB wa (ae (bO (ae (aa 3) (ae (aa 5) ah))) ah)) ah))) (gT [(gN 6),(gN 7)])) (aw (aK (aM 1 [6] (bL (ae (eB cz (ae (aa 5) ah)) ah)) (gN 0) ba (e1 ka (aM 1 [0] (aR (aa 1)) (gN 0) ba (e2 aj (aa 0) (aa 1))))) (gN 8)) (aw (aK (ax vv (ae (aa 3) (ae (aa 4) (ae (aa 5) ah)))) (gN 9)) (aw (cG (ig (dZ (ax (gp 8) (ae (aa 9) (ae (aa 8) ah))))) (aQ (eC (.bl false))) cK) (aw (fF (gP (e2 aj (aa 9) (eC (.int 0))) (eC (.int 9)))) (aw (fF (gP (aa 9) (eC (.int 0)))) (aw (cG (ig (dZ (ax (gp 8) (ae (ax vv (ae (aa 3) (ae (aa 4) (ae (aa 5) ah)))) (ae (aa 8) ah))))) (aQ (eC (.bl false))) cK) (aw (aK (eC .au) (gN 10)) (aw (ef (aR (aa 6)) (gN 11) DG) (aw (aK (rW (aC (e2 oU (aa 10) (eC .au))) (eC .au) (e2 aj (aa 10) (eC (.int 2)))) (gN 8)) (cG (iW (ig (dZ (ax (gp 8) (ae (ax yA (ae (aa 3) (ae (aa 4) (ae (aa 5) ah)))) (ae (aa 8) ah))))) (aC (e2 gO (eB wa (ae (bO (ae (aa 3) (ae (aa 5) ah))) ah)) (aa 7)))) (aQ (eC (.bl false))) cK))))))))))))))
def Ak (W:Ć):List D->ag->Res D:=aW 1 13 (aw (ef (bL (ae (eB qL (ae (eC (.int 1)) (ae (eB v7 (ae (eB cz (ae (aa 0) ah)) (ae (eC (.int 2)) ah))) ah))) ah)) (gN 1) (DH W)) (aQ (eC (.bl true))))
end DI.cV
namespace DI
open PySem L2
abbrev GG (K:ļ) (mg:Str->Option Ì) (x:Str) (st:Stmt) (ps:List Str):Prop:=∃f fd,Gd K mg x st ps f fd
abbrev bu (P:ö) (w:Ć) (K:ļ) (mg:Str->Option Ì) (base:Ţ) (x:Str) (st:Stmt) (ps:List Str) (k:Nat) (fn:List D->ag->Res D):Prop:=∀{f:â} {fd:ť},Gd K mg x st ps f fd->gf P w K mg base iu k f fd ps (nq K fn)
noncomputable def E9 (N ps:List Str) (sc:aaB):Bool:=decide (sc.kind=.function)&&!sc.isCoroutine&&!sc.isGenerator&&decide N.Nodup&&decide (N.take ps.length=ps)&&ps.all (λx=>decide (sc.names.lookup x=some .local\/sc.names.lookup x=some .cell))&&sc.names.all (λy=>decide (y.2≠.free))
def Lu (h:E9 N ps sc=true):sV N ps sc:=by
 unfold E9 at h;simp only[Ê,Ġ,È,Ĕ] at h;obtain⟨⟨⟨⟨⟨⟨Z,Y⟩,X⟩,W⟩,V⟩,U⟩,T⟩:=h;exact⟨Z,Y,X,W,V,U,T⟩
def bA (G:Gd K mg x st ps f fd) (N:List Str) (S:E9 N ps (iD st)=true)
 (hb:N.Nodup->∀(cF:Ì) (A:Đ) (outer:List PySem.Env) (s:Ç) (H:Hp) (E:XK),bZ k (A.deeper (PyProof.Rows.envOfC x (iD st) s.heap.objs.size f cF))->fx (oY iu P w K mg base N x (iD st) f cF A outer s H E).uE (mI st) (tS K bj b)) :
  gf P w K mg base iu (k+1) f fd ps (nq K (aW ps.length N.length b)):=LU G.fn (Lu S) (hb (Lu S).nd)
section
variable {X:Cx} {Ξ:Wd->bt->Prop} {e a b c tg el src:Ņ} {es rest tests:List Ņ} {pos:Pos} {f g h:acn D} {fa:acn (List D)} {ft gt:acn Bool}
def aJ {k n:Nat} {x:Str} {st:Stmt} {ps:List Str} {fn:List D->ag->Res D} {p:Pos} (G:GG X.K X.mg x st ps) (F:bu X.prog X.w X.K X.mg X.base x st ps k fn) (hr:bZ n X.A) (ha:PA X (e::es) (tA X.K Ξ fa)) (hk:k<=n:=by decide) (hg:Gl X x:=by rfl) (j3:(x==("__debug__":Str))=false:=by decide)
  (he:Þ (e::es) X.env=(false,ś e X.env)::Þ es X.env:=by rfl) (dA:(χ pos (Þ es X.env)).any (·.1)=false:=by rfl):PE X (.Call (.Name x p) (e::es) [] pos) (tE X.K Ξ (ax fn fa)):=by
 obtain⟨f,fd,G⟩:=G;exact vJ (F G) (hr.mono hk) hg G.mg G.fn.kp G.b ha j3 he dA
def aE (ha:PE X a (tE X.K Ξ f)) (hs:Þ [a] X.env=(false,ś a X.env)::Þ [] X.env:=by rfl):PA X [a] (tA X.K Ξ (ae f ah)):=bg ha dD hs
def aN (ha:PE X a (tE X.K Ξ f)) (hb:PE X b (tE X.K Ξ g)) (h1:Þ [a,b] X.env=(false,ś a X.env)::Þ [b] X.env:=by rfl) (h2:Þ [b] X.env=(false,ś b X.env)::Þ [] X.env:=by rfl):PA X [a,b] (tA X.K Ξ (ae f (ae g ah))):=bg ha (bg hb dD h2) h1
def cQ (ha:PE X a (tE X.K Ξ f)) (hb:PE X b (tE X.K Ξ g)) (hc:PE X c (tE X.K Ξ h)) (h1:Þ [a,b,c] X.env=(false,ś a X.env)::Þ [b,c] X.env:=by rfl) (h2:Þ [b,c] X.env=(false,ś b X.env)::Þ [c] X.env:=by rfl) (h3:Þ [c] X.env=(false,ś c X.env)::Þ [] X.env:=by rfl):PA X [a,b,c] (tA X.K Ξ (ae f (ae g (ae h ah)))):=bg ha (bg hb (bg hc dD h3) h2) h1
def cA {x:Str} {px:Pos} {sc:aaB} {ps:Pos} (N:List Str) {cap:List Nat} {it:acn (List D)} (hi:PI X (.Name x px) src (dC X.K Ξ it))
  (hY:∀(cl:List (Str×â)) (C:â) (s:Ç) (H:Hp) (ex:List â) (pn:List (â×Obj)),PF (cx X N sc cl C s H ex pn) tests (tT X.K bj ft)/\PE (cx X N sc cl C s H ex pn) el (tE X.K bj f))
  (hc:X.calm=true:=by rfl) (S:Dz sc X.env.scope.names X.N N 1 cap=true:=by kernel_rfl) (nd:N.Nodup:=by decide +kernel) (h0:N[0]?=some x:=by rfl) (hx:∀cl C s H ex pn,(cx X N sc cl C s H ex pn).env.scope.names.lookup x=some .local:=by intros;rfl) (hs:∀x,ï src X.env x=pure x:=by intro _;rfl) :
  PE X (.ListComp el [⟨.Name x px,src,tests,0⟩] sc ps) (tE X.K Ξ (aM 1 cap it (gN 0) ft f)) :=
 qj hc (f9 S) (fY 0) hi (λcl C s H ex pn=>⟨cm nd h0 (.inl (hx cl C s H ex pn)) (.inr (hx cl C s H ex pn)),hY cl C s H ex pn⟩) hs
end
end DI
namespace DI.cV
open PySem L2 DI
noncomputable def top (i:Nat):Stmt:=PySem.Challenge.pw_twinmoulds_k09_narrowest_datings.main.body.getD i (.Pass ⟨0,0,0,0⟩)
noncomputable abbrev wO:List Str:=[acA,"_law_k"]
noncomputable abbrev MW:List Str:=[acx,"_law_many"]
noncomputable abbrev Fb:List Str:=["_law_later",acz,acG]
noncomputable abbrev Fc:List Str:=[acQ,acz,acG]
noncomputable abbrev MX:List Str:=["_law_laid",acw,acv]
noncomputable abbrev MY:List Str:=[acx,"_law_most"]
noncomputable abbrev AM:List Str:=[acx]
noncomputable abbrev MZ:List Str:=[acx,acy,acw]
noncomputable abbrev Fd:List Str:=["things"]
noncomputable abbrev cE:List Str:=["thing"]
noncomputable abbrev Eb:List Str:=["thing","many"]
noncomputable abbrev Ec:List Str:=["marks","others"]
noncomputable abbrev Ed:List Str:=["pages","mould","mark","half"]
noncomputable abbrev wu:List Str:=["pages","mould","mark"]
noncomputable abbrev Ee:List Str:=["days","day","later"]
noncomputable abbrev Ef:List Str:=["pages"]
noncomputable abbrev mU:List Str:=["book","mould","sheets"]
noncomputable abbrev Al:List Str:=["book","mould","mark"]
noncomputable abbrev Eg:List Str:=["days_by_mark","day"]
noncomputable abbrev Mm:List Str:=["book","mould"]
noncomputable abbrev wx:List Str:=["book","mould","sheet","other"]
noncomputable abbrev Eh:List Str:=["mendings","day","later"]
noncomputable abbrev Ei:List Str:=["sheet","sure"]
noncomputable abbrev Ej:List Str:=["tables","dating","day"]
noncomputable abbrev Mn:List Str:=[acy,acw,acL]
noncomputable abbrev Ek:List Str:=[acH,acM,acN]
noncomputable abbrev Mo:List Str:=[acy,acw,acz,acE]
noncomputable abbrev Mp:List Str:=[acy,acw,acI]
noncomputable abbrev X6:List Str:=[acB,acF]
noncomputable abbrev Mq:List Str:=[acx,acR]
noncomputable abbrev El:List Str:=["dating"]
noncomputable abbrev X7:List Str:=[acA]
structure bx (K:ļ) (mg:Str->Option Ì):Prop where
 qx:mg "all"=none
 Lv:mg "any"=none
 C0:mg "bool"=none
 WN:mg "int"=none
 jt:mg "isinstance"=none
 kj:mg "len"=none
 zf:mg "list"=none
 vO:mg "max"=none
 qy:mg "min"=none
 cc:mg "range"=none
 Kh:mg "repr"=none
 O7:mg "reversed"=none
 Lw:mg "set"=none
 yJ:mg "sorted"=none
 hX:mg "tuple"=none
 zD:mg "zip"=none
 qc:∃t,mg "MARKS"=some (.int (8) t)
 yK:∃t,mg "MOULDS"=some (.int (4) t)
 mK:∃t,mg "DAYS"=some (.int (31) t)
 Ck:∃t,mg "PAGES"=some (.int (24) t)
 qz:∃t,mg "HAS"=some (.int (0) t)
 qd:∃t,mg "LACKS"=some (.int (1) t)
 BW:∃t,mg "SHEETS"=some (.int (3) t)
 O8:GG K mg "_law_cell_at" (top 51) wO
 Q6:GG K mg "_law_state" (top 52) wO
 gH:GG K mg "_law_take" (top 53) MW
 Q7:GG K mg "_law_leads" (top 61) Fb
 SS:GG K mg "_law_gone" (top 60) Fc
 Ki:GG K mg "_law_may" (top 59) MX
 Iz:GG K mg "_law_marks" (top 55) MY
 Q8:GG K mg "_law_sheet" (top 56) AM
 P2:GG K mg "_law_sheets" (top 62) MZ
 Hr:GG K mg "is_rising" (top 14) Fd
 OK:GG K mg "is_number" (top 9) cE
 BA:GG K mg "is_below" (top 10) Eb
 HM:GG K mg "is_mark" (top 11) cE
 Hs:GG K mg "are_marks" (top 20) cE
 Bv:GG K mg "are_apart" (top 22) Ec
 Hy:GG K mg "is_sheet" (top 21) cE
 Hz:GG K mg "is_mould" (top 12) cE
 Q9:GG K mg "is_day" (top 13) cE
 P4:GG K mg "is_page" (top 23) cE
 O9:GG K mg "are_laid" (top 24) cE
 yt:GG K mg "days_seen" (top 29) Ed
 yi:GG K mg "days_mended" (top 30) wu
 Hg:GG K mg "is_any_behind" (top 28) Ee
 P5:GG K mg "clashes" (top 27) wu
 OL:GG K mg "faults_of" (top 26) Ef
 P6:GG K mg "is_book" (top 25) cE
 OM:GG K mg "need_book" (top 31) cE
 Ot:GG K mg "need_mould" (top 15) cE
 Ou:GG K mg "are_sheets" (top 43) cE
 Hj:GG K mg "need_asked" (top 44) mU
 N5:GG K mg "days_present" (top 35) Al
 Oc:GG K mg "days_absent" (top 36) Al
 HA:GG K mg "marks_on" (top 34) Eg
 Od:GG K mg "sure_sheets" (top 33) Mm
 Hd:GG K mg "mendings_between" (top 48) wx
 HB:GG K mg "is_clear" (top 49) Eh
 N1:GG K mg "days_together" (top 47) wx
 SU:GG K mg "agree" (top 37) Ei
 P7:GG K mg "is_free" (top 46) Ej
 HN:GG K mg "datings" (top 45) mU
 HP:GG K mg "days_of" (top 40) mU
 Ra:GG K mg "_law_alone" (top 63) Mn
 Pa:GG K mg "_law_between" (top 65) Ek
 U4:GG K mg "_law_two" (top 64) Mo
 U5:GG K mg "_law_all" (top 66) Mp
 SV:GG K mg "_law_same" (top 54) X6
 Rb:GG K mg "_law_lived" (top 57) Mq
 SW:GG K mg "_law_book" (top 58) AM
 Pb:GG K mg "by_width" (top 42) El
 ON:GG K mg "narrowest" (top 41) mU
section
variable {P:ö} {w:Ć} {K:ļ} {mg:Str->Option Ì} {base:Ţ}
def Pc (F:bx K mg):bu P w K mg base "_law_cell_at" (top 51) wO 1 vh:=λ{_ _} G =>
 bA G wO (by kernel_rfl) λY _ _ _ _ _ _ Z=>(aB (fQ (bp (og Z) (af 1) (bF kA rfl F.kj kB (aE (af 0))) (bI _)) (aI (aY (aO (af 0) (af 1)))) fP) (aI (aY ay)))
def Rc (F:bx K mg):bu P w K mg base "_law_state" (top 52) wO 2 yP:=λ{_ _} G =>
 bA G [acA,"_law_k","_law_cell"] (by kernel_rfl) λZ _ _ _ _ _ _ Y=>(aB (bC 2 Z (aJ F.O8 (Pc F) Y (aN (af 0) (af 1)))) (aI (aY (nW (aN (bF (Dp rfl) rfl F.vO wg (aN ay (cq Ab (af 2) (cq XN ay ay)))) (cq tX (af 2) ay))))))
def gJ (F:bx K mg):bu P w K mg base "_law_take" (top 53) MW 1 cf:=λ{_ _} G =>
 bA G [acx,"_law_many",acB,"_law_stirred"] (by kernel_rfl) λZ _ _ _ _ _ _ Y=>(aB (fQ (bp MQ (aO (af 0) ay) ay (bI _)) (aB (bC 2 Z (cq tX (aO (af 0) ay) (af 1))) (aB (qN (cq LV (aO (af 0) ay) (af 1)) (af 0) ay) (aI (aY (af 2))))) fP) (aB (qN (cq tX (cq ib (cq v5 (aO (af 0) ay) ay) ay) ay) (af 0) ay) (aB (bC 3 Z (cq tX (cq ib (cq ib (cq v5 (aO (af 0) ay) (aO (af 0) ay)) (cq v5 ay (aO (af 0) ay))) ay) ay)) (aB (bC 3 Z (cq tX (cq ib (cq v5 (af 3) (af 3)) (cq v5 ay (af 3))) ay)) (aI (aY (cq tX (cq LV (af 3) ay) (af 1))))))))
def Rf (F:bx K mg):bu P w K mg base "_law_leads" (top 61) Fb 1 Cj:=λ{_ _} G =>
 bA G Fb (by kernel_rfl) λY _ _ _ _ _ _ Z=>(aI (aY (rl (fE (il Z) fG (af 0) rfl) (eV (fq (fE (il Z) fG (af 0) rfl) (eV (rl (z0 (af 1)) (eV (af 2)))))))))
def SX (F:bx K mg):bu P w K mg base "_law_gone" (top 60) Fc 1 CS:=λ{_ _} G =>
 bA G Fc (by kernel_rfl) λY _ _ _ _ _ _ Z=>(aI (aY (fq (z0 (af 1)) (eV (rl (fE (il Z) fG (af 0) rfl) (eV (fq (af 2) (eV (fE (oZ Z) (af 0) (oS dD) (bI _))))))))))
def Kj (F:bx K mg):bu P w K mg base "_law_may" (top 59) MX 2 tK:=λ{_ _} G=>by
 have X:([acu]:List Str).Nodup:=by decide +kernel
 have W:([acu]:List Str).Nodup:=by decide +kernel
 exact bA G ["_law_laid",acw,acv,acD,acG,"_law_page",acu,acQ,"_law_off"] (by kernel_rfl) λY _ _ _ _ _ _ Z=>(aB (bC 3 Y (Ce (N:=[acu]) (nt:=1) (cap:=[]) rfl (f9 (by kernel_rfl)) (fY 0) (cP rfl F.cc (aE ay)) (λcl C s H ex V=>⟨(cm (i:=0) X rfl (Ş rfl)),cC,(oS (aN fG fG))⟩))) (aB (bC 4 Y (Ce (N:=[acu]) (nt:=1) (cap:=[]) rfl (f9 (by kernel_rfl)) (fY 0) (cP rfl F.cc (aE ay)) (λcl C s H ex V=>⟨(cm (i:=0) W rfl (Ş rfl)),cC,fG⟩))) (aB (gu Ď rfl (bT (af 0)) (bR 5 Y) (aB (fQ (PW.pt (w_and (bp (dP Z) (aO (af 5) ay) nV (bI _)) (w_and (bp (dP Z) (aO (af 5) ay) (af 1) (bI _)) (qt (bp (dP Z) (aO (af 5) ay) (af 2) (bI _)))))) (aB (qN (cA [acz] (bT (aO (af 3) (aO (af 5) ay))) (λ_ _ _ _ _ _=>⟨(dM (ku (fO (af 0)))),(af 0)⟩)) (af 3) (aO (af 5) ay)) (aI (qN fG (af 4) (aO (af 5) ay)))) fP) (aI (fQ (PW.pt (w_and (bp (dP Z) (aO (af 5) ay) nV (bI _)) (w_and (bp (dP Z) (aO (af 5) ay) (af 1) (bI _)) (qt (bp (il Z) (af 2) (cq ib (aO (aO (af 5) ay) ay) (aO (aO (af 5) ay) ay)) rfl))))) (aI (qN (cA [acz,acv,"_law_page"] (bT (aO (af 3) (aO (af 5) ay))) (λ_ _ _ _ _ _=>⟨(dM (bp (dP Z) (af 0) (fE (il Z) (af 1) (aO (aO (af 2) ay) ay) rfl) (bI _))),(af 0)⟩)) (af 3) (aO (af 5) ay))) fP)))) (aB (gu Ď rfl (Dl rfl F.cc (aN ay ay)) (bR 6 Y) (aB (mR (dY (aN (aO (af 3) (cq Ab (af 6) ay)) (aO (af 4) (af 6)))) (mQ rfl (fB (bR 7 Y) (fB (bR 8 Y) mM)))) (aI (qN (cA [acz,acQ,"_law_off"] (bT (aO (af 3) (af 6))) (λ_ _ _ _ _ _=>⟨(dM (PW.pt (w_or (PW.pt (w_and (fO (af 0)) (qt (bp (oZ Z) (af 1) (oS dD) (bI _))))) (nX (fO (aJ F.SS (SX F) Z (cQ (af 1) (af 0) (af 2)))))))),(af 0)⟩)) (af 3) (af 6))))) (aB (gu Ď rfl (WA rfl F.cc (cQ ay (EV D5 ay) (EV D5 ay))) (bR 6 Y) (aI (qN (cA [acz,acD,acG,acu] (bT (aO (af 3) (af 6))) (λ_ _ _ _ _ _=>⟨(dM (fO (aJ F.Q7 (Rf F) Z (cQ (aO (af 1) (cq ib (af 3) ay)) (af 0) (aO (af 2) (cq ib (af 3) ay)))))),(af 0)⟩)) (af 3) (af 6)))) (aI (aY (cA ["_law_row"] (bT (tW (af 3))) (λ_ _ _ _ _ _=>⟨cC,(kX mJ rfl F.hX hZ (aE (af 0)))⟩)))))))))
def IA (F:bx K mg):bu P w K mg base "_law_marks" (top 55) MY 2 vA:=λ{_ _} G =>
 bA G [acx,"_law_most","_law_way"] (by kernel_rfl) λY _ _ _ _ _ _ Z=>(aB (bC 2 Y (cq ib ay (aJ F.gH (gJ F) Z (aN (af 0) ay)))) (aI (aY (kX mJ rfl F.hX hZ (aE (cA [acv,acx,"_law_way"] (cP rfl F.cc (aE (af 1))) (λ_ _ _ _ _ _=>⟨(dM (bp (dP Z) (aJ F.gH (gJ F) Z (aN (af 1) (cq ib (af 2) ay))) ay (bI _))),(af 0)⟩)))))))
def Rg (F:bx K mg):bu P w K mg base "_law_sheet" (top 56) AM 3 yS:=λ{_ _} G =>
 bA G [acx,acO,"_law_lacks"] (by kernel_rfl) λY _ _ _ _ _ _ Z=>(aB (mR (dY (aN (aJ F.Iz (IA F) Z (aN (af 0) ay)) (aJ F.Iz (IA F) Z (aN (af 0) ay)))) (mQ rfl (fB (bR 1 Y) (fB (bR 2 Y) mM)))) (aI (aY (dY (aN (af 1) (kX mJ rfl F.hX hZ (aE (cA [acv,acO] (bT (af 2)) (λ_ _ _ _ _ _=>⟨(dM (bp (nH Z) (af 0) (af 1) rfl)),(af 0)⟩)))))))))
def P8 (F:bx K mg):bu P w K mg base "_law_sheets" (top 62) MZ 4 yH:=λ{_ _} G=>by
 have X:([acv,acx,acJ]:List Str).Nodup:=by decide +kernel
 exact bA G [acx,acy,acw,acB,"_law_turn",acu,acJ,acD,"_law_seen",acO,"_law_own"] (by kernel_rfl) λY _ _ _ _ _ _ Z=>(aB (bC 3 Y (nW dD)) (aB (gu Ď rfl (cP rfl F.cc (aE (cq ib ay (aJ F.gH (gJ F) Z (aN (af 0) ay))))) (bR 4 Y) (aB (mR (dY (aN (aJ F.gH (gJ F) Z (aN (af 0) ay)) (cq ib ay (aJ F.gH (gJ F) Z (aN (af 0) ay))))) (mQ rfl (fB (bR 5 Y) (fB (bR 6 Y) mM)))) (aB (bC 7 Y (cA [acv,acu,acy,acw] (cP rfl F.cc (aE ay)) (λ_ _ _ _ _ _=>⟨cC,(aO (aJ F.Ki (Kj F) Z (cQ (af 2) (af 3) (af 0))) (af 1))⟩))) (aB (nJ 8 (N:=[acv,acx,acJ]) (nt:=1) (cap:=[0,6]) Y rfl (f9 (by kernel_rfl)) (fY 0) (cP rfl F.cc (aE ay)) (λcl C s H ex W=>⟨(cm (i:=0) X rfl (Ş rfl)),(dM (bp (dP Z) (aJ F.gH (gJ F) Z (aN (af 1) (af 2))) ay (bI _))),(af 0)⟩)) (aB (bC 9 Y (kX mJ rfl F.hX hZ (aE (cA [acv,acD] (bT (af 8)) (λ_ _ _ _ _ _=>⟨(dM (fO (aO (aO (af 1) (af 0)) (EV D5 ay)))),(af 0)⟩))))) (aB (bC 10 Y (dY (aN (af 9) (kX mJ rfl F.hX hZ (aE (cA [acv,acO] (bT (af 8)) (λ_ _ _ _ _ _=>⟨(dM (bp (nH Z) (af 0) (af 1) rfl)),(af 0)⟩))))))) (aI (jx (mS (af 3) (aO (oS (bg (af 10) (bg (af 10) (bg (XQ (af 10)) (bg (aJ F.Q8 (Rg F) Z (aE (af 0))) dD))))) (aJ F.gH (gJ F) Z (aN (af 0) ay)))))))))))) (aI (aY (kX mJ rfl F.hX hZ (aE (af 3)))))))
def Ht (F:bx K mg):bu P w K mg base "is_rising" (top 14) Fd 1 pZ:=λ{_ _} G=>by
 have Z:(["ahead","behind"]:List Str).Nodup:=by decide +kernel
 exact bA G Fd (by kernel_rfl) λX _ _ _ _ _ _ Y=>(aI (aY (bF (qK rfl) rfl F.qx qP (aE (qj (N:=["ahead","behind"]) (nt:=2) (cap:=[]) rfl (f9 (by kernel_rfl)) (qu (jv 0 (jv 1 qi))) (XM rfl F.zD (aN (af 0) (wH (af 0) (v8 ay) wG))) (λcl C s H ex W=>⟨(ke rfl (i6 (cm (i:=0) Z rfl (Ş rfl)) (i6 (cm (i:=1) Z rfl (Ş rfl)) oE))),cC,(fE (og Y) (af 0) (af 1) (bI _))⟩))))))
def OO (F:bx K mg):bu P w K mg base "is_number" (top 9) cE 1 Bz:=λ{_ _} G =>
 bA G cE (by kernel_rfl) λZ _ _ _ _ _ _ Y=>(aI (aY (fq (bF jM rfl F.jt ju (aN (af 0) (jR XR rfl F.WN))) (fq (z0 (bF jM rfl F.jt ju (aN (af 0) (jR Ds rfl F.C0)))) (eV (fE Y4 (af 0) ay (bI _)))))))
def BB (F:bx K mg):bu P w K mg base "is_below" (top 10) Eb 2 sP:=λ{_ _} G =>
 bA G Eb (by kernel_rfl) λY _ _ _ _ _ _ Z=>(aI (aY (fq (aJ F.OK (OO F) Z (aE (af 0))) (eV (fE (og Z) (af 0) (af 1) (bI _))))))
def HQ (F:bx K mg):bu P w K mg base "is_mark" (top 11) cE 3 vp:=λ{_ _} G =>
 bA G cE (by kernel_rfl) λY _ _ _ _ _ _ Z=>(aI (aY (aJ F.BA (BB F) Z (aN (af 0) (eh F.qc rfl)))))
def Hu (F:bx K mg):bu P w K mg base "are_marks" (top 20) cE 4 vf:=λ{_ _} G =>
 bA G cE (by kernel_rfl) λY _ _ _ _ _ _ Z=>(aI (aY (fq (bF jM rfl F.jt ju (aN (af 0) (jR hZ rfl F.hX))) (fq (bF (qK rfl) rfl F.qx qP (aE (cA ["mark"] (bT (af 0)) (λ_ _ _ _ _ _=>⟨cC,(aJ F.HM (HQ F) Z (aE (af 0)))⟩)))) (eV (aJ F.Hr (Ht F) Z (aE (af 0))))))))
def Bw (F:bx K mg):bu P w K mg base "are_apart" (top 22) Ec 1 sM:=λ{_ _} G =>
 bA G Ec (by kernel_rfl) λY _ _ _ _ _ _ Z=>(aI (aY (z0 (bF (LX rfl) rfl F.Lv L9 (aE (cA ["mark","others"] (bT (af 0)) (λ_ _ _ _ _ _=>⟨cC,(fE (il Z) (af 0) (af 1) rfl)⟩)))))))
def HC (F:bx K mg):bu P w K mg base "is_sheet" (top 21) cE 5 sQ:=λ{_ _} G =>
 bA G ["thing","has","lacks"] (by kernel_rfl) λY _ _ _ _ _ _ Z=>(aB (fQ (PW.pt (w_or (ku (fO (bF jM rfl F.jt ju (aN (af 0) (jR hZ rfl F.hX))))) (nX (bp (oZ Z) (bF kA rfl F.kj kB (aE (af 0))) ay (bI _))))) (aI (aY fG)) fP) (aB (mR (af 0) (mQ rfl (fB (bR 1 Y) (fB (bR 2 Y) mM)))) (aI (aY (fq (aJ F.Hs (Hu F) Z (aE (af 1))) (fq (aJ F.Hs (Hu F) Z (aE (af 2))) (eV (aJ F.Bv (Bw F) Z (aN (af 1) (af 2))))))))))
def HD (F:bx K mg):bu P w K mg base "is_mould" (top 12) cE 3 vj:=λ{_ _} G =>
 bA G cE (by kernel_rfl) λY _ _ _ _ _ _ Z=>(aI (aY (aJ F.BA (BB F) Z (aN (af 0) (eh F.yK rfl)))))
def Rh (F:bx K mg):bu P w K mg base "is_day" (top 13) cE 3 yR:=λ{_ _} G =>
 bA G cE (by kernel_rfl) λY _ _ _ _ _ _ Z=>(aI (aY (aJ F.BA (BB F) Z (aN (af 0) (eh F.mK rfl)))))
def P9 (F:bx K mg):bu P w K mg base "is_page" (top 23) cE 6 yF:=λ{_ _} G =>
 bA G ["thing","word","mould","day","what"] (by kernel_rfl) λY _ _ _ _ _ _ Z=>(aB (fQ (PW.pt (w_or (ku (fO (bF jM rfl F.jt ju (aN (af 0) (jR hZ rfl F.hX))))) (nX (bp (oZ Z) (bF kA rfl F.kj kB (aE (af 0))) ay (bI _))))) (aI (aY fG)) fP) (aB (mR (af 0) (mQ rfl (fB (bR 1 Y) (fB (bR 2 Y) (fB (bR 3 Y) (fB (bR 4 Y) mM)))))) (aB (fQ (PW.pt (w_or (ku (fO (aJ F.Hz (HD F) Z (aE (af 2))))) (nX (ku (fO (aJ F.Q9 (Rh F) Z (aE (af 3)))))))) (aI (aY fG)) fP) (aB (fQ (bp (dP Z) (af 1) nV (bI _)) (aI (aY (aJ F.Hy (HC F) Z (aE (af 4))))) fP) (aI (aY (fq (fE (dP Z) (af 1) nV (bI _)) (eV (aJ F.HM (HQ F) Z (aE (af 4)))))))))))
def Pd (F:bx K mg):bu P w K mg base "are_laid" (top 24) cE 7 yC:=λ{_ _} G =>
 bA G cE (by kernel_rfl) λY _ _ _ _ _ _ Z=>(aI (aY (fq (bF jM rfl F.jt ju (aN (af 0) (jR hZ rfl F.hX))) (fq (fE wD (bF kA rfl F.kj kB (aE (af 0))) (eh F.Ck rfl) (bI _)) (fq (bF (qK rfl) rfl F.qx qP (aE (cA ["page"] (bT (af 0)) (λ_ _ _ _ _ _=>⟨cC,(aJ F.P4 (P9 F) Z (aE (af 0)))⟩)))) (eV (aJ F.Hr (Ht F) Z (aE (af 0)))))))))
def yu (F:bx K mg):bu P w K mg base "days_seen" (top 29) Ed 1 mH:=λ{_ _} G =>
 bA G Ed (by kernel_rfl) λY _ _ _ _ _ _ Z=>(aI (aY (cA ["page","mould","mark","half"] (bT (af 0)) (λ_ _ _ _ _ _=>⟨(dM (PW.pt (w_and (bp (dP Z) (aO (af 0) ay) nV (bI _)) (w_and (bp (dP Z) (aO (af 0) ay) (af 1) (bI _)) (qt (bp (il Z) (af 2) (aO (aO (af 0) ay) (af 3)) rfl)))))),(aO (af 0) ay)⟩))))
def yj (F:bx K mg):bu P w K mg base "days_mended" (top 30) wu 1 pX:=λ{_ _} G =>
 bA G wu (by kernel_rfl) λY _ _ _ _ _ _ Z=>(aI (aY (cA ["page","mould","mark"] (bT (af 0)) (λ_ _ _ _ _ _=>⟨(dM (PW.pt (w_and (bp (dP Z) (aO (af 0) ay) nV (bI _)) (w_and (bp (dP Z) (aO (af 0) ay) (af 1) (bI _)) (qt (bp (dP Z) (aO (af 0) ay) (af 2) (bI _))))))),(aO (af 0) ay)⟩))))
def Hh (F:bx K mg):bu P w K mg base "is_any_behind" (top 28) Ee 1 va:=λ{_ _} G =>
 bA G Ee (by kernel_rfl) λY _ _ _ _ _ _ Z=>(aI (aY (bF (LX rfl) rfl F.Lv L9 (aE (cA ["other","day","later"] (bT (af 0)) (λ_ _ _ _ _ _=>⟨cC,(J3 (og Z) wD (af 1) (af 0) (af 2))⟩))))))
def Qa (F:bx K mg):bu P w K mg base "clashes" (top 27) wu 2 vq:=λ{_ _} G=>by
 have Y:(["day","later","lacked","mended"]:List Str).Nodup:=by decide +kernel
 exact bA G ["pages","mould","mark","lacked","mended"] (by kernel_rfl) λX _ _ _ _ _ _ Z=>(aB (bC 3 X (aJ F.yt (yu F) Z (bg (af 0) (bg (af 1) (bg (af 2) (bg (eh F.qd rfl) dD)))))) (aB (bC 4 X (aJ F.yi (yj F) Z (cQ (af 0) (af 1) (af 2)))) (aI (aY (UJ (N:=["day","later","lacked","mended"]) (nt:=2) (cap:=[3,4]) rfl (D2 (by kernel_rfl)) (fY 0) (sW 0) (fY 1) (sW 1) (bT (HL (aJ F.yt (yu F) Z (bg (af 0) (bg (af 1) (bg (af 2) (bg (eh F.qz rfl) dD))))) rfl rfl F.yJ yO rfl F.Lw L8)) (λcl C s H ex W=>⟨(cm (i:=0) Y rfl (Ş rfl)),cC,(Dl rfl F.cc (aN (af 0) (eh F.mK rfl))),(cm (i:=1) Y rfl (Ş rfl)),(dM (PW.pt (w_and (PW.pt (w_or (bp (il Z) (af 1) (af 2) rfl) (nX (PW.pt (w_and (bp (dP Z) (af 1) (af 0) (bI _)) (qt (bp (il Z) (af 0) (af 3) rfl))))))) (qt (ku (fO (aJ F.Hg (Hh F) Z (cQ (af 3) (af 0) (af 1))))))))),(dY (aN (af 0) (af 1)))⟩))))))
def OP (F:bx K mg):bu P w K mg base "faults_of" (top 26) Ef 3 yy:=λ{_ _} G=>by
 have Z:(["mould","mark","day","later","pages"]:List Str).Nodup:=by decide +kernel
 exact bA G Ef (by kernel_rfl) λX _ _ _ _ _ _ Y=>(aI (aY (UL (N:=["mould","mark","day","later","pages"]) (nt:=4) (cap:=[0]) rfl (D2 (by kernel_rfl)) (fY 0) (sW 0) (fY 1) (sW 1) (qu (jv 2 (jv 3 qi))) (Dg [2,3]) (cP rfl F.cc (aE (eh F.yK rfl))) (λcl C s H ex W=>⟨(cm (i:=0) Z rfl (Ş rfl)),cC,(cP rfl F.cc (aE (eh F.qc rfl))),(cm (i:=1) Z rfl (Ş rfl)),cC,(bT (aJ F.P5 (Qa F) Y (cQ (af 4) (af 0) (af 1)))),(ke rfl (i6 (cm (i:=2) Z rfl (Ş rfl)) (i6 (cm (i:=3) Z rfl (Ş rfl)) oE))),cC,(dY (bg (af 0) (bg (af 1) (bg (af 2) (bg (af 3) dD)))))⟩))))
def Qb (F:bx K mg):bu P w K mg base "is_book" (top 25) cE 8 yG:=λ{_ _} G =>
 bA G cE (by kernel_rfl) λY _ _ _ _ _ _ Z=>(aI (aY (fq (aJ F.O9 (Pd F) Z (aE (af 0))) (eV (TK.WJ (aJ F.OL (OP F) Z (aE (af 0))))))))
def OQ (F:bx K mg):bu P w K mg base "need_book" (top 31) cE 9 yz:=λ{_ _} G =>
 bA G cE (by kernel_rfl) λY _ _ _ _ _ _ Z=>(aI (fQ (ku (fO (aJ F.P6 (Qb F) Z (aE (af 0))))) BZ fP))
def Ov (F:bx K mg):bu P w K mg base "need_mould" (top 15) cE 4 yq:=λ{_ _} G =>
 bA G cE (by kernel_rfl) λY _ _ _ _ _ _ Z=>(aI (fQ (ku (fO (aJ F.Hz (HD F) Z (aE (af 0))))) BZ fP))
def Ow (F:bx K mg):bu P w K mg base "are_sheets" (top 43) cE 6 yr:=λ{_ _} G =>
 bA G cE (by kernel_rfl) λY _ _ _ _ _ _ Z=>(aI (aY (fq (bF jM rfl F.jt ju (aN (af 0) (jR hZ rfl F.hX))) (fq (J3 wD wD ay (bF kA rfl F.kj kB (aE (af 0))) (eh F.BW rfl)) (eV (bF (qK rfl) rfl F.qx qP (aE (cA ["sheet"] (bT (af 0)) (λ_ _ _ _ _ _=>⟨cC,(aJ F.Hy (HC F) Z (aE (af 0)))⟩)))))))))
def Hk (F:bx K mg):bu P w K mg base "need_asked" (top 44) mU 10 vd:=λ{_ _} G =>
 bA G mU (by kernel_rfl) λY _ _ _ _ _ _ Z=>(aB (jx (aJ F.OM (OQ F) Z (aE (af 0)))) (aB (jx (aJ F.Ot (Ov F) Z (aE (af 1)))) (aI (fQ (ku (fO (aJ F.Ou (Ow F) Z (aE (af 2))))) BZ fP))))
def N6 (F:bx K mg):bu P w K mg base "days_present" (top 35) Al 2 yh:=λ{_ _} G =>
 bA G ["book","mould","mark","shown","mended","present","stays","day"] (by kernel_rfl) λZ _ _ _ _ _ _ Y=>(aB (bC 3 Z (aJ F.yt (yu F) Y (bg (af 0) (bg (af 1) (bg (af 2) (bg (eh F.qz rfl) dD)))))) (aB (bC 4 Z (aJ F.yi (yj F) Y (cQ (af 0) (af 1) (af 2)))) (aB (bC 5 Z (nW dD)) (aB (bC 6 Z fG) (aB (gu Ď rfl (cP rfl F.cc (aE (eh F.mK rfl))) (bR 7 Z) (aB (bC 6 Z (rl (fE (il Y) (af 7) (af 3) rfl) (eV (fq (af 6) (eV (fE (nH Y) (af 7) (af 4) rfl)))))) (aI (fQ (fO (af 6)) (aI (jx (mS (af 5) (af 7)))) fP)))) (aI (aY (tW (af 5)))))))))
def Oe (F:bx K mg):bu P w K mg base "days_absent" (top 36) Al 2 yl:=λ{_ _} G =>
 bA G ["book","mould","mark","lacked","mended","absent","barred","day"] (by kernel_rfl) λZ _ _ _ _ _ _ Y=>(aB (bC 3 Z (aJ F.yt (yu F) Y (bg (af 0) (bg (af 1) (bg (af 2) (bg (eh F.qd rfl) dD)))))) (aB (bC 4 Z (aJ F.yi (yj F) Y (cQ (af 0) (af 1) (af 2)))) (aB (bC 5 Z (nW dD)) (aB (bC 6 Z fG) (aB (gu Ď rfl (XW rfl F.O7 rfl F.cc (aE (eh F.mK rfl))) (bR 7 Z) (aB (fQ (PW.pt (w_or (fO (af 6)) (w_or (bp (il Y) (af 7) (af 3) rfl) (nX (bp (il Y) (af 7) (af 4) rfl))))) (aI (jx (mS (af 5) (af 7)))) fP) (aI (bC 6 Z (fq (rl (af 6) (eV (fE (il Y) (af 7) (af 3) rfl))) (eV (fE (nH Y) (af 7) (af 4) rfl))))))) (aI (aY (tW (af 5)))))))))
def HE (F:bx K mg):bu P w K mg base "marks_on" (top 34) Eg 1 vm:=λ{_ _} G =>
 bA G Eg (by kernel_rfl) λY _ _ _ _ _ _ Z=>(aI (aY (kX mJ rfl F.hX hZ (aE (cA ["mark","day","days_by_mark"] (cP rfl F.cc (aE (eh F.qc rfl))) (λ_ _ _ _ _ _=>⟨(dM (bp (il Z) (af 1) (aO (af 2) (af 0)) rfl)),(af 0)⟩))))))
def Of (F:bx K mg):bu P w K mg base "sure_sheets" (top 33) Mm 3 ym:=λ{_ _} G =>
 bA G ["book","mould","present","absent"] (by kernel_rfl) λY _ _ _ _ _ _ Z=>(aB (bC 2 Y (cA ["mark","book","mould"] (cP rfl F.cc (aE (eh F.qc rfl))) (λ_ _ _ _ _ _=>⟨cC,(aJ F.N5 (N6 F) Z (cQ (af 1) (af 2) (af 0)))⟩))) (aB (bC 3 Y (cA ["mark","book","mould"] (cP rfl F.cc (aE (eh F.qc rfl))) (λ_ _ _ _ _ _=>⟨cC,(aJ F.Oc (Oe F) Z (cQ (af 1) (af 2) (af 0)))⟩))) (aI (aY (cA ["day","present","absent"] (cP rfl F.cc (aE (eh F.mK rfl))) (λ_ _ _ _ _ _=>⟨cC,(dY (aN (aJ F.HA (HE F) Z (aN (af 1) (af 0))) (aJ F.HA (HE F) Z (aN (af 2) (af 0)))))⟩))))))
def He (F:bx K mg):bu P w K mg base "mendings_between" (top 48) wx 2 u9:=λ{_ _} G =>
 bA G wx (by kernel_rfl) λY _ _ _ _ _ _ Z=>(aI (aY (cA ["mark","book","mould","other"] (bT (aO (af 2) (eh F.qz rfl))) (λ_ _ _ _ _ _=>⟨(dM (bp (il Z) (af 0) (aO (af 3) (eh F.qd rfl)) rfl)),(aJ F.yi (yj F) Z (cQ (af 1) (af 2) (af 0)))⟩))))
def HF (F:bx K mg):bu P w K mg base "is_clear" (top 49) Eh 2 vn:=λ{_ _} G =>
 bA G Eh (by kernel_rfl) λY _ _ _ _ _ _ Z=>(aI (aY (rl (fE (og Z) (af 2) (af 1) (bI _)) (eV (bF (qK rfl) rfl F.qx qP (aE (cA ["mended","day","later"] (bT (af 0)) (λ_ _ _ _ _ _=>⟨cC,(aJ F.Hg (Hh F) Z (cQ (af 0) (af 1) (af 2)))⟩))))))))
def N2 (F:bx K mg):bu P w K mg base "days_together" (top 47) wx 3 yg:=λ{_ _} G=>by
 have X:(["day","onward","backward"]:List Str).Nodup:=by decide +kernel
 exact bA G ["book","mould","sheet","other","onward","backward"] (by kernel_rfl) λY _ _ _ _ _ _ Z=>(aB (bC 4 Y (aJ F.Hd (He F) Z (bg (af 0) (bg (af 1) (bg (af 2) (bg (af 3) dD)))))) (aB (bC 5 Y (aJ F.Hd (He F) Z (bg (af 0) (bg (af 1) (bg (af 3) (bg (af 2) dD)))))) (aI (aY (qj (N:=["day","onward","backward"]) (nt:=1) (cap:=[4,5]) rfl (f9 (by kernel_rfl)) (fY 0) (cP rfl F.cc (aE (eh F.mK rfl))) (λcl C s H ex W=>⟨(cm (i:=0) X rfl (ack rfl)),cC,(cA ["later","onward","day","backward"] (cP rfl F.cc (aE (eh F.mK rfl))) (λ_ _ _ _ _ _=>⟨cC,(fq (aJ F.HB (HF F) Z (cQ (af 1) (af 2) (af 0))) (eV (aJ F.HB (HF F) Z (cQ (af 3) (af 0) (af 2)))))⟩))⟩))))))
def SY (F:bx K mg):bu P w K mg base "agree" (top 37) Ei 2 ze:=λ{_ _} G =>
 bA G Ei (by kernel_rfl) λY _ _ _ _ _ _ Z=>(aI (aY (fq (aJ F.Bv (Bw F) Z (aN (aO (af 0) (eh F.qz rfl)) (aO (af 1) (eh F.qd rfl)))) (eV (aJ F.Bv (Bw F) Z (aN (aO (af 0) (eh F.qd rfl)) (aO (af 1) (eh F.qz rfl))))))))
def Qc (F:bx K mg):bu P w K mg base "is_free" (top 46) Ej 1 yI:=λ{_ _} G=>by
 have Z:(["table","other","day"]:List Str).Nodup:=by decide +kernel
 exact bA G Ej (by kernel_rfl) λY _ _ _ _ _ _ X=>(aI (aY (bF (qK rfl) rfl F.qx qP (aE (qj (N:=["table","other","day"]) (nt:=2) (cap:=[2]) rfl (f9 (by kernel_rfl)) (qu (jv 0 (jv 1 qi))) (Ls rfl F.zD (aN (af 0) (af 1))) (λcl C s H ex W=>⟨(ke rfl (i6 (cm (i:=0) Z rfl (Ş rfl)) (i6 (cm (i:=1) Z rfl (Ş rfl)) oE))),cC,(aO (aO (af 0) (af 1)) (af 2))⟩))))))
def HR (F:bx K mg):bu P w K mg base "datings" (top 45) mU 4 vt:=λ{_ _} G=>by
 have X:(["dating","day","tables","days"]:List Str).Nodup:=by decide +kernel
 exact bA G ["book","mould","sheets","sure","told","at","days","tables"] (by kernel_rfl) λZ _ _ _ _ _ _ Y=>(aB (bC 3 Z (aJ F.Od (Of F) Y (aN (af 0) (af 1)))) (aB (bC 4 Z (oS (aE (dY dD)))) (aB (gu Ď rfl (cP rfl F.cc (aE (bF kA rfl F.kj kB (aE (af 2))))) (bR 5 Z) (aB (bC 6 Z (cA ["day","sheets","at","sure"] (cP rfl F.cc (aE (eh F.mK rfl))) (λ_ _ _ _ _ _=>⟨(dM (fO (aJ F.SU (SY F) Y (aN (aO (af 1) (af 2)) (aO (af 3) (af 0)))))),(af 0)⟩))) (aB (bC 7 Z (cA ["ahead","book","mould","sheets","at"] (cP rfl F.cc (aE (af 5))) (λ_ _ _ _ _ _=>⟨cC,(aJ F.N1 (N2 F) Y (bg (af 1) (bg (af 2) (bg (aO (af 3) (af 0)) (bg (aO (af 3) (af 4)) dD)))))⟩))) (aI (UK 4 (N:=["dating","day","tables","days"]) (nt:=2) (cap:=[7,6]) Z rfl (D2 (by kernel_rfl)) (fY 0) (sW 0) (fY 1) (sW 1) (bT (af 4)) (λcl C s H ex W=>⟨(cm (i:=0) X rfl (Ş rfl)),cC,(bT (af 3)),(cm (i:=1) X rfl (Ş rfl)),(dM (fO (aJ F.P7 (Qc F) Y (cQ (af 2) (af 0) (af 1))))),(cq ib (af 0) (dY (aE (af 1))))⟩)))))) (aI (aY (af 4))))))
def HS (F:bx K mg):bu P w K mg base "days_of" (top 40) mU 11 vv:=λ{_ _} G=>by
 have Y:(["at","told"]:List Str).Nodup:=by decide +kernel
 have U:(["dating","at"]:List Str).Nodup:=by decide +kernel
 have X:(["dating","at"]:List Str).Nodup:=by decide +kernel
 exact bA G ["book","mould","sheets","told"] (by kernel_rfl) λW _ _ _ _ _ _ Z=>(aB (jx (aJ F.Hj (Hk F) Z (cQ (af 0) (af 1) (af 2)))) (aB (bC 3 W (aJ F.HN (HR F) Z (cQ (af 0) (af 1) (af 2)))) (aI (aY (Ce (N:=["at","told"]) (nt:=1) (cap:=[3]) rfl (f9 (by kernel_rfl)) (fY 0) (cP rfl F.cc (aE (bF kA rfl F.kj kB (aE (af 2))))) (λcl C s H ex V=>⟨(cm (i:=0) Y rfl (ack rfl)),cC,(SQ (N:=["dating","at"]) (nt:=1) (cap:=[0]) rfl (f9 (by kernel_rfl)) (fY 0) (bT (af 1)) (λcl C s H ex V=>⟨(cm (i:=0) X rfl (Ş rfl)),cC,(aO (af 0) (af 1))⟩) rfl F.yJ yO)⟩))))))
def Ri (F:bx K mg):bu P w K mg base "_law_alone" (top 63) Mn 3 yT:=λ{_ _} G=>by
 have X:([acv,acu,acD]:List Str).Nodup:=by decide +kernel
 exact bA G [acy,acw,acL,acD,acB,acu,"_law_short"] (by kernel_rfl) λZ _ _ _ _ _ _ Y=>(aB (bC 3 Z (cA [acv,acy,acw] (cP rfl F.cc (aE ay)) (λ_ _ _ _ _ _=>⟨cC,(aJ F.Ki (Kj F) Y (cQ (af 1) (af 2) (af 0)))⟩))) (aB (bC 4 Z (nW dD)) (aB (gu Ď rfl (cP rfl F.cc (aE ay)) (bR 5 Z) (aB (nJ 6 (N:=[acv,acu,acD]) (nt:=1) (cap:=[5,3]) Z rfl (f9 (by kernel_rfl)) (fY 0) (bT (aO (af 2) ay)) (λcl C s H ex W=>⟨(cm (i:=0) X rfl (Ş rfl)),(dM (bp (nH Y) fG (aO (aO (af 2) (af 0)) (af 1)) rfl)),(af 0)⟩)) (aI (fQ (bp (dP Y) (cq ib (af 6) (cA [acv,acu,acD] (bT (aO (af 2) ay)) (λ_ _ _ _ _ _=>⟨(dM (bp (nH Y) fG (aO (aO (af 2) (af 0)) (af 1)) rfl)),(af 0)⟩))) (oS dD) (bI _)) (aI (jx (mS (af 4) (af 5)))) fP)))) (aI (aY (tW (af 4)))))))
def Pe (F:bx K mg):bu P w K mg base "_law_between" (top 65) Ek 1 yD:=λ{_ _} G =>
 bA G Ek (by kernel_rfl) λY _ _ _ _ _ _ Z=>(aI (aY (fE (oZ Z) (cA [acu,acM,acN] (bT (af 0)) (λ_ _ _ _ _ _=>⟨(dM (UC (og Z) wD (af 1) (af 0) (af 2))),(af 0)⟩)) (oS dD) (bI _))))
def U6 (F:bx K mg):bu P w K mg base "_law_two" (top 64) Mo 2 (qw w):=λ{_ _} G=>by
 have U:([acC,acP,acE]:List Str).Nodup:=by decide +kernel
 have W:([acu,acv,acC]:List Str).Nodup:=by decide +kernel
 have T:([acC,acP,acz]:List Str).Nodup:=by decide +kernel
 have V:([acu,acv,acC]:List Str).Nodup:=by decide +kernel
 exact bA G [acy,acw,acz,acE,acP,"_law_lost","_law_gone_here","_law_pairs",acu,"_law_later",acM,acN,acD] (by kernel_rfl) λY _ _ _ _ _ _ Z=>(aB (bC 4 Y (cA ["_law_page",acw] (bT (af 0)) (λ_ _ _ _ _ _=>⟨(dM (bp (dP Z) (wH (af 0) wG (v8 ay)) (dY (aN nV (af 1))) (bI _))),(wH (af 0) (v8 ay) wG)⟩))) (aB (nJ 5 (N:=[acC,acP,acE]) (nt:=1) (cap:=[4,3]) Y rfl (f9 (by kernel_rfl)) (fY 0) (bT (aO (af 2) ay)) (λcl C s H ex X=>⟨(cm (i:=0) U rfl (ack rfl)),(dM (bp (il Z) (af 0) (aO (af 2) ay) rfl)),(qj (N:=[acu,acv,acC]) (nt:=2) (cap:=[0]) rfl (f9 (by kernel_rfl)) (qu (jv 0 (jv 1 qi))) (bT (af 1)) (λcl C s H ex X=>⟨(ke rfl (i6 (cm (i:=0) W rfl (Ş rfl)) (i6 (cm (i:=1) W rfl (Ş rfl)) oE))),(dM (bp (dP Z) (af 1) (af 2) (bI _))),(af 0)⟩))⟩)) (aB (nJ 6 (N:=[acC,acP,acz]) (nt:=1) (cap:=[4,2]) Y rfl (f9 (by kernel_rfl)) (fY 0) (bT (aO (af 3) ay)) (λcl C s H ex X=>⟨(cm (i:=0) T rfl (ack rfl)),(dM (bp (il Z) (af 0) (aO (af 2) ay) rfl)),(qj (N:=[acu,acv,acC]) (nt:=2) (cap:=[0]) rfl (f9 (by kernel_rfl)) (qu (jv 0 (jv 1 qi))) (bT (af 1)) (λcl C s H ex X=>⟨(ke rfl (i6 (cm (i:=0) V rfl (Ş rfl)) (i6 (cm (i:=1) V rfl (Ş rfl)) oE))),(dM (bp (dP Z) (af 1) (af 2) (bI _))),(af 0)⟩))⟩)) (aB (bC 7 Y TK.Ln) (aB (gu Ď rfl (cP rfl F.cc (aE ay)) (bR 8 Y) (aI (gu Ď rfl (cP rfl F.cc (aE ay)) (bR 9 Y) (aB (mR (dY (aN (bF (La rfl) rfl F.qy qQ (aN (af 8) (af 9))) (bF (Dp rfl) rfl F.vO wg (aN (af 8) (af 9))))) (mQ rfl (fB (bR 10 Y) (fB (bR 11 Y) mM)))) (aB (bC 12 Y (Az (bp (dP Z) (af 8) (af 9) (bI _)) (cq ib (af 5) (af 6)) (Az (bp (og Z) (af 8) (af 9) (bI _)) (af 5) (af 6)))) (aI (fQ (bp (nH Z) fG (cA [acH,acM,acN] (bT (af 12)) (λ_ _ _ _ _ _=>⟨cC,(aJ F.Pa (Pe F) Z (cQ (af 0) (af 1) (af 2)))⟩)) rfl) (aI (TK.DC rfl Z fG (af 7) (dY (aN (af 8) (af 9))))) fP))))))) (aI (aY (af 7))))))))
def U7 (F:bx K mg):bu P w K mg base "_law_all" (top 66) Mp 4 (zC w):=λ{_ _} G=>by
 have V:([acL,acy,acw]:List Str).Nodup:=by decide +kernel
 have U:([acu]:List Str).Nodup:=by decide +kernel
 have T:([acz,acy,acw,acI,acK]:List Str).Nodup:=by decide +kernel
 have W:(["_law_there","_law_two_here",acu]:List Str).Nodup:=by decide +kernel
 exact bA G [acy,acw,acI,"_law_alone_here",acB,acK,"_law_pairs","_law_longer",acH,acu] (by kernel_rfl) λZ _ _ _ _ _ _ Y=>(aB (nJ 3 (N:=[acL,acy,acw]) (nt:=1) (cap:=[0,1]) Z rfl (f9 (by kernel_rfl)) (fY 0) (bT (af 2)) (λcl C s H ex X=>⟨(cm (i:=0) V rfl (Ş rfl)),cC,(aJ F.Ra (Ri F) Y (cQ (af 1) (af 2) (af 0)))⟩)) (aB (nJ 4 (N:=[acu]) (nt:=1) (cap:=[]) Z rfl (f9 (by kernel_rfl)) (fY 0) (bT (aO (af 3) ay)) (λcl C s H ex X=>⟨(cm (i:=0) U rfl (Ş rfl)),cC,(dY (aE (af 0)))⟩)) (aB (gu Ď rfl (Dl rfl F.cc (aN ay (bF kA rfl F.kj kB (aE (af 2))))) (bR 5 Z) (aB (nJ 6 (N:=[acz,acy,acw,acI,acK]) (nt:=1) (cap:=[0,1,2,5]) Z rfl (f9 (by kernel_rfl)) (fY 0) (bT (wH (af 2) wG (v8 (af 5)))) (λcl C s H ex X=>⟨(cm (i:=0) T rfl (Ş rfl)),cC,(aJ F.U4 (U6 F) Y (bg (af 1) (bg (af 2) (bg (af 0) (bg (aO (af 3) (af 4)) dD)))))⟩)) (aB (bC 7 Z (nW dD)) (aB (gu Ď rfl (bT (af 4)) (bR 8 Z) (aI (gu Ď rfl (bT (aO (af 3) (af 5))) (bR 9 Z) (aI (fQ (bp (dP Y) (qj (N:=["_law_there","_law_two_here",acu]) (nt:=2) (cap:=[9]) rfl (f9 (by kernel_rfl)) (qu (jv 0 (jv 1 qi))) (Ls rfl F.zD (aN (af 8) (af 6))) (λcl C s H ex X=>⟨(ke rfl (i6 (cm (i:=0) W rfl (Ş rfl)) (i6 (cm (i:=1) W rfl (Ş rfl)) oE))),(dM (bp (TK.SR rfl Y) (dY (aN (af 0) (af 2))) (af 1) rfl)),(af 0)⟩)) (oS dD) (bI _)) (aI (jx (mS (af 7) (cq ib (af 8) (dY (aE (af 9))))))) fP))))) (aI (bC 4 Z (tW (af 7)))))))) (aI (aY (af 4))))))
def Jq:sV [acB,acF] [acB,acF] (iD (top 54)):=⟨rfl,rfl,rfl,by decide +kernel,rfl,by decide +kernel,by decide +kernel⟩
theorem yU (F:bx K mg) {f:â} {fd:ť} (G:Gd K mg "_law_same" (top 54) [acB,acF] f fd):∀n,gf P w K mg base iu (1+n) f fd [acB,acF] (nq K (gp n))
 |0=>XT λ_ _=>rfl
 |n+1=>by
  have Y:([acz,acE]:List Str).Nodup:=by decide +kernel
  have X:=Jq.nd;have ih:=yU F G n;exact LU G.fn Jq λW A outer s H E Z=>(aB (fQ (fO (UI (af 1) rfl F.jt ju (Cy rfl F.hX hZ rfl) (Cy rfl F.zf zy rfl))) (aB (fQ (PW.pt (w_or (bp (oZ Z) (bF jM rfl F.jt ju (aN (af 0) (jR hZ rfl F.hX))) (bF jM rfl F.jt ju (aN (af 1) (jR hZ rfl F.hX))) (bI _)) (nX (bp (oZ Z) (bF jM rfl F.jt ju (aN (af 0) (jR zy rfl F.zf))) (bF jM rfl F.jt ju (aN (af 1) (jR zy rfl F.zf))) (bI _))))) (aI (aY fG)) fP) (aI (aY (fq (fE (dP Z) (bF kA rfl F.kj kB (aE (af 0))) (bF kA rfl F.kj kB (aE (af 1))) (bI _)) (eV (bF (qK rfl) rfl F.qx qP (aE (SE (N:=[acz,acE]) (nt:=2) (cap:=[]) rfl (f9 (by kernel_rfl)) (qu (jv 0 (jv 1 qi))) (WL rfl F.zD (aN (af 0) (af 1))) (λcl C s H ex V=>⟨(ke rfl (i6 (cm (i:=0) Y rfl (Ş rfl)) (i6 (cm (i:=1) Y rfl (Ş rfl)) oE))),cC,(vJ ih Z rfl G.mg G.fn.kp G.b (aN (af 0) (af 1)))⟩))))))))) fP) (aI (aY (fq (fE (dP Z) (bF jM rfl F.jt ju (aN (af 0) (jR Ds rfl F.C0))) (bF jM rfl F.jt ju (aN (af 1) (jR Ds rfl F.C0))) (bI _)) (eV (fE (dP Z) (af 0) (af 1) (bI _)))))))
def Rj (F:bx K mg):bu P w K mg base "_law_lived" (top 57) Mq 2 sT:=λ{_ _} G =>
 bA G [acx,acR,"_law_there",acB,"_law_way",acu] (by kernel_rfl) λY _ _ _ _ _ _ Z=>(aB (WK 2 3 4 rfl Y (cQ (fE (dP Z) (aJ F.gH (gJ F) Z (aN (af 0) ay)) ay (bI _)) (nW dD) (cq ib ay (aJ F.gH (gJ F) Z (aN (af 0) ay))))) (aB (gu Ď rfl (cP rfl F.cc (aE ay)) (bR 5 Y) (aB (bC 2 Y (fq (rl (af 2) (eV (fE (dP Z) (aJ F.gH (gJ F) Z (aN (af 0) (af 4))) ay (bI _)))) (eV (fE (nH Z) (af 5) (af 1) rfl)))) (aI (fQ (fO (af 2)) (aI (jx (mS (af 3) (af 5)))) fP)))) (aI (aY (tW (af 3))))))
def S6 (F:bx K mg):bu P w K mg base "_law_book" (top 58) AM 3 (zd w):=λ{_ _} G=>by
 have X:([acv,acx,acJ]:List Str).Nodup:=by decide +kernel
 exact bA G [acx,acB,"_law_moulds",acJ,acw,acR,"_law_lives","_law_turn",acv,acu,"_law_seen",acO] (by kernel_rfl) λY _ _ _ _ _ _ Z=>(aB (mR (dY (cQ TK.Ln (cq ib ay (aJ F.gH (gJ F) Z (aN (af 0) ay))) (cq ib ay (aJ F.gH (gJ F) Z (aN (af 0) ay))))) (mQ rfl (fB (bR 1 Y) (fB (bR 2 Y) (fB (bR 3 Y) mM))))) (aB (gu Ď rfl (cP rfl F.cc (aE (af 2))) (bR 4 Y) (aB (mR (dY (aN (cA [acv] (cP rfl F.cc (aE ay)) (λ_ _ _ _ _ _=>⟨cC,(nW dD)⟩)) (nW dD))) (mQ rfl (fB (bR 5 Y) (fB (bR 6 Y) mM)))) (aB (gu Ď rfl (cP rfl F.cc (aE (aJ F.gH (gJ F) Z (aN (af 0) ay)))) (bR 7 Y) (aB (mR (dY (aN (aJ F.gH (gJ F) Z (aN (af 0) ay)) (aJ F.gH (gJ F) Z (aN (af 0) ay)))) (mQ rfl (fB (bR 8 Y) (fB (bR 9 Y) mM)))) (aB (jx (mS (aO (af 5) (af 8)) (af 9))) (aI (TK.DC rfl Z fG (af 1) (dY (bg nV (bg (af 4) (bg (af 9) (bg (af 8) dD)))))))))) (aB (gu Ď rfl (cP rfl F.cc (aE ay)) (bR 8 Y) (aI (jx (mS (af 6) (aJ F.Rb (Rj F) Z (aN (af 0) (aO (af 5) (af 8)))))))) (aI (gu Ď rfl (cP rfl F.cc (aE (aJ F.gH (gJ F) Z (aN (af 0) ay)))) (bR 7 Y) (aB (bC 9 Y (aJ F.gH (gJ F) Z (aN (af 0) ay))) (aB (nJ 10 (N:=[acv,acx,acJ]) (nt:=1) (cap:=[0,3]) Y rfl (f9 (by kernel_rfl)) (fY 0) (cP rfl F.cc (aE ay)) (λcl C s H ex W=>⟨(cm (i:=0) X rfl (Ş rfl)),(dM (bp (dP Z) (aJ F.gH (gJ F) Z (aN (af 1) (af 2))) ay (bI _))),(af 0)⟩)) (aB (bC 11 Y (kX mJ rfl F.hX hZ (aE (cA [acv,acu,"_law_lives"] (bT (af 10)) (λ_ _ _ _ _ _=>⟨(dM (bp (il Z) (af 1) (aO (af 2) (af 0)) rfl)),(af 0)⟩))))) (aI (TK.DC rfl Z fG (af 1) (dY (bg nV (bg (af 4) (bg (af 9) (bg (dY (aN (af 11) (kX mJ rfl F.hX hZ (aE (cA [acv,acu,"_law_lives"] (bT (af 10)) (λ_ _ _ _ _ _=>⟨(dM (bp (nH Z) (af 1) (aO (af 2) (af 0)) rfl)),(af 0)⟩)))))) dD)))))))))))))))) (aI (aY (kX mJ rfl F.hX hZ (aE (bF (TK.U1 Z) rfl F.yJ yO (aE (kX (TK.UW rfl) rfl F.zf zy (aE (af 1)))))))))))
def Pf (F:bx K mg):bu P w K mg base "by_width" (top 42) El 1 ny:=λ{_ _} G =>
 bA G El (by kernel_rfl) λZ _ _ _ _ _ _ Y=>(aI (aY (dY (cQ (cq Ab (bF (Lp rfl) rfl F.vO wg (aE (af 0))) (bF (zA rfl) rfl F.qy qQ (aE (af 0)))) (bF (zA rfl) rfl F.qy qQ (aE (af 0))) (af 0)))))
def OR (F:bx K mg):bu P w K mg base "narrowest" (top 41) mU 12 yA:=λ{_ _} G=>by
 obtain⟨_,_,Z⟩:=F.Pb;exact bA G mU (by kernel_rfl) λX _ _ _ _ _ _ Y=>(aB (jx (aJ F.Hj (Hk F) Y (cQ (af 0) (af 1) (af 2)))) (aI (aY (UO (Pf F Z) (Y.mono (by decide)) Z.mg Z.b (aJ F.HN (HR F) Y (cQ (af 0) (af 1) (af 2))) rfl rfl F.qy rfl))))
def WO (F:bx K mg):bu P w K mg base "law" (top 67) X7 13 (Ak w):=λ{_ _} G=>by
 obtain⟨_,_,X⟩:=F.SV;have W:([acK,acC]:List Str).Nodup:=by decide +kernel
 exact bA G [acA,"_law_k",acx,acy,acw,acI,acC,"_law_kept",acF,"_law_told","_law_best",acH,"_law_width"] (by kernel_rfl) λY _ _ _ _ _ _ Z=>(aB (gu Ď rfl (cP rfl F.cc (aE (bF (Dp rfl) rfl F.vO wg (aN ay (bF (La rfl) rfl F.qy qQ (aN (bF kA rfl F.kj kB (aE (af 0))) ay)))))) (bR 1 Y) (aB (bC 2 Y (aJ F.Q6 (Rc F) Z (aN (af 0) (af 1)))) (aB (Wu 3 4 rfl Y (aN (wH (aJ F.SW (S6 F) Z (aE (af 2))) wG (v8 ay)) (aJ F.gH (gJ F) Z (aN (af 2) ay)))) (aB (bC 5 Y (aJ F.P2 (P8 F) Z (cQ (af 2) (af 3) (af 4)))) (aB (mR (dY (aN (aJ F.U5 (U7 F) Z (cQ (af 3) (af 4) (af 5))) (bF (Ld Z) rfl F.Kh Lg (aE (dY (aN (af 3) (af 5))))))) (mQ rfl (fB (bR 6 Y) (fB (bR 7 Y) mM)))) (aB (nJ 8 (N:=[acK,acC]) (nt:=1) (cap:=[6]) Y rfl (f9 (by kernel_rfl)) (fY 0) (cP rfl F.cc (aE (bF kA rfl F.kj kB (aE (af 5))))) (λcl C s H ex V=>⟨(cm (i:=0) W rfl (ack rfl)),cC,(HL (cA [acH,acK] (bT (af 1)) (λ_ _ _ _ _ _=>⟨cC,(aO (af 0) (af 1))⟩)) rfl rfl F.yJ yO rfl F.Lw L8)⟩)) (aB (bC 9 Y (aJ F.HP (HS F) Z (cQ (af 3) (af 4) (af 5)))) (aB (fQ (ku (fO (vJ (yU F X 8) (Z.mono (by decide)) rfl X.mg X.fn.kp X.b (aN (af 9) (af 8))))) (aI (aY fG)) fP) (aB (jx (mS (aO (af 9) ay) ay)) (aB (jx (mS (af 9) ay)) (aB (fQ (ku (fO (vJ (yU F X 8) (Z.mono (by decide)) rfl X.mg X.fn.kp X.b (aN (aJ F.HP (HS F) Z (cQ (af 3) (af 4) (af 5))) (af 8))))) (aI (aY fG)) fP) (aB (bC 10 Y zZ) (aB (gu Ď rfl (bT (af 6)) (bR 11 Y) (aB (bC 12 Y (dY (cQ (cq Ab (bF (Lp rfl) rfl F.vO wg (aE (af 11))) (bF (zA rfl) rfl F.qy qQ (aE (af 11)))) (bF (zA rfl) rfl F.qy qQ (aE (af 11))) (af 11)))) (aI (bC 10 Y (Az (PW.pt (w_or (bp LW (af 10) zZ (bI _)) (nX (bp (og Z) (af 12) (af 10) (bI _))))) (af 12) (af 10)))))) (aB (bC 8 Y (Az (bp LW (af 10) zZ (bI _)) zZ (aO (af 10) ay))) (aI (fQ (PW.pt (w_or (ku (fO (vJ (yU F X 8) (Z.mono (by decide)) rfl X.mg X.fn.kp X.b (aN (aJ F.ON (OR F) Z (cQ (af 3) (af 4) (af 5))) (af 8))))) (nX (bp (oZ Z) (bF (Ld Z) rfl F.Kh Lg (aE (dY (aN (af 3) (af 5))))) (af 7) (bI _))))) (aI (aY fG)) fP)))))))))))))))) (aI (aY fG)))
end
end DI.cV
namespace DI
open PySem L2
def Wp {α:Type} (r:Res α) (Q:α->ag->Prop):Prop:=∃a s,r=some (.ok a,s)/\Q a s
section
variable {α β:Type} {r:Res α} {k:α->ag->Res β} {Q Q':α->ag->Prop} {R:β->ag->Prop} {env:Env} {s:ag}
theorem Wp.ok {a:α} (h:Q a s):Wp (DI.ok a s) Q:=⟨a,s,rfl,h⟩
def Wp.mono (h:Wp r Q) (i:∀a s,Q a s->Q' a s):Wp r Q':=by
 obtain⟨a,s,e,q⟩:=h;exact⟨a,s,e,i a s q⟩
theorem Wp.ao (h:Wp r λa s=>Wp (k a s) R):Wp (DI.ao r k) R:=by
 obtain⟨a,s,e,b,Z,Y,q⟩:=h;exact⟨b,Z,by rw[e];exact Y,q⟩
theorem Wp.ne (h:Wp r Q):Wp (DI.ne r) Q:=by
 obtain⟨a,s,e,q⟩:=h;exact⟨a,s,by rw[e];rfl,q⟩
def aco (e:r=some (.ok a,s)) (h:Q a s):Wp r Q:=⟨a,s,e,h⟩
def Wp.seq {f g:acn Fl} {Q:Fl->ag->Prop} (h:Wp (f env s) λfl s=>match fl with
  | .nx env=>Wp (g env s) Q
  |fl=>Q fl s):Wp (aw f g env s) Q:=by
 obtain⟨fl,Z,e,h⟩:=h;unfold aw;rw[e]
 cases fl with
 |nx env=>exact h
 |rt d=>exact⟨_,_,rfl,h⟩
 |bk e=>exact⟨_,_,rfl,h⟩
 |ct e=>exact⟨_,_,rfl,h⟩
def Wp.gE {Q:Fl->ag->Prop} (I:Nat->Env->ag->Prop) (all:List D) (h0:I 0 env s)
 (step:∀i d env s,all[i]?=some d->I i env s->∃env',g d env=some env'/\Wp (b env' s) λfl s=>match fl with
   | .nx e=>I (i+1) e s
   | .ct e=>I (i+1) e s
   | .bk e=>Q (.nx e) s
   | .rt d=>Q (.rt d) s) (fin:∀env s,I all.length env s->Q (.nx env) s):Wp (mP g b all env s) Q:=by
 have key:∀(Z:List D) (i:Nat) (env:Env) (s:ag),all.drop i=Z->i<=all.length->I i env s->Wp (mP g b Z env s) Q:=by
  intro Z
  induction Z with
  |nil =>
   intro i env s Y hi h;have e:i=all.length:=by
    have:=Ŀ List.length Y;simp at this;omega
   subst e;exact Wp.ok (fin _ _ h)
  |cons d Z ih =>
   intro i env s Y hi h;have X:all[i]?=some d:=by
    have:=Ŀ (λl=>l[0]?) Y;simpa using this
   have W:all.drop (i+1)=Z:=by
    have:=Ŀ (List.drop 1) Y;simpa [ab8] using this
   obtain⟨env',U,T⟩:=step i d env s X h;have V:=(Å.mp X).1;unfold mP;rw[U];refine Wp.ao (T.mono λfl s q=>?_)
   cases fl with
   |nx e=>exact ih (i+1) e s W V q
   |ct e=>exact ih (i+1) e s W V q
   |bk e=>exact Wp.ok q
   |rt d=>exact Wp.ok q
 exact key all 0 env s rfl (ē _) h0
def qk {nt:Nat} {t:acn Bool} {Q:List D->ag->Prop} (I:Nat->List D->ag->Prop) (all:List D) (h0:I 0 [] s)
 (step:∀i d acc s,all[i]?=some d->I i acc s->∃env,g d (Ñ nt none++caps)=some env/\Wp (t env s) λb s=>if b=true then Wp (f env s) λx s=>I (i+1) (acc++[x]) s else I (i+1) acc s)
 (fin:∀acc s,I all.length acc s->Q acc s):Wp (bY nt caps g t f all s) Q:=by
 have key:∀(Z:List D) (i:Nat) (acc:List D) (s:ag),all.drop i=Z->i<=all.length->I i acc s->Wp (bY nt caps g t f Z s) λX s=>Q (acc++X) s:=by
  intro Z
  induction Z with
  |nil =>
   intro i acc s Y hi h;have e:i=all.length:=by
    have:=Ŀ List.length Y;simp at this;omega
   subst e;exact Wp.ok (by rw[Ķ];exact fin _ _ h)
  |cons d Z ih =>
   intro i acc s Y hi h;have W:all[i]?=some d:=by
    have:=Ŀ (λl=>l[0]?) Y;simpa using this
   have V:all.drop (i+1)=Z:=by
    have:=Ŀ (List.drop 1) Y;simpa [ab8] using this
   obtain⟨U,S,R⟩:=step i d acc s W h;have T:=(Å.mp W).1;unfold bY;rw[S];refine Wp.ao (Wp.ne (R.mono λb s q=>?_))
   cases b with
   |true =>
    rw[ß rfl] at q |-;refine Wp.ao (Wp.ne (q.mono λx s q=>?_));refine Wp.ao ((ih (i+1) (acc++[x]) s V T q).mono λX s q=>Wp.ok ?_);rw[ę] at q;exact q
   |false =>
    rw[æ Í] at q |-;exact ih (i+1) acc s V T q
 have:=key all 0 [] s rfl (ē _) h0;simpa using this
end
section
variable {α β:Type} {Q:D->ag->Prop} {QL:List D->ag->Prop} {QB:Bool->ag->Prop} {QF:Fl->ag->Prop} {QO:Option Int->ag->Prop} {env:Env} {s:ag} {f g h:acn D} {fa:acn (List D)} {c c':acn Bool} {st eD:acn Fl} {o o':D->D->ag->Res D} {u:D->ag->Res D} {bf:List D->ag->Res D}
def aP {a:α} {Q:α->ag->Prop}:Wp (ok a s) Q=Q a s:=propext ⟨λ⟨b,Z,e,q⟩=>by cases e;exact q,λq=>⟨a,s,rfl,q⟩⟩
def zE {Q:α->ag->Prop}:Wp (some (Except.ok a,s)) Q=Q a s:=aP
def bb {r:Res α} {k:α->ag->Res β} {R:β->ag->Prop}:Wp (ao r k) R=Wp r λa s=>Wp (k a s) R:=propext ⟨λ⟨b,Z,e,q⟩=>by
 obtain⟨a,s,e1,e2⟩:=sS e;exact⟨a,s,e1,b,Z,e2,q⟩,λh=>Wp.ao h⟩
def t4 {Q:α->ag->Prop}:Wp (ne r) Q=Wp r Q:=propext ⟨λ⟨b,Z,e,q⟩=>⟨b,Z,CN e,q⟩,λh=>h.ne⟩
def bG {a:D} {r:Env}:Wp (aa 0 (some a::r) s) Q=Q a s:=by rw[show aa 0 (some a::r) s=ok a s from rfl,aP]
def bH {i:Nat} {a:Option D} {r:Env}:Wp (aa (i+1) (a::r) s) Q=Wp (aa i r s) Q:=by rw[show aa (i+1) (a::r) s=aa i r s from rfl]
def fT:Wp (eC d env s) Q=Q d s:=by rw[show eC d env s=ok d s from rfl,aP]
def oW:Wp (e1 u f env s) Q=Wp (f env s) λx s=>Wp (u x s) Q:=by unfold e1;rw[bb]
def dO:Wp (e2 o f g env s) Q=Wp (f env s) λx s=>Wp (g env s) λy s=>Wp (o x y s) Q:=by unfold e2;simp only[bb]
def dI:Wp (ah env s) QL=QL [] s:=by unfold ah;rw[aP]
def fm:Wp (ae f fa env s) QL=Wp (f env s) λx s=>Wp (fa env s) λxs s=>QL (x::xs) s:=by unfold ae;simp only[bb,aP]
def kD:Wp (eB bf fa env s) Q=Wp (fa env s) λds s=>Wp (bf ds s) Q:=by unfold eB;rw[bb]
def wp_call:Wp (ax fn fa env s) Q=Wp (fa env s) λds s=>Wp (fn ds s) Q:=by unfold ax;simp only[bb,t4]
def nF {Q:α->ag->Prop}:Wp (jc ds r) Q=(ds.length<=Õ/\Wp r Q):=propext ⟨λ⟨b,Z,e,q⟩=>by
 unfold jc at e;split at e
 ·exact⟨by assumption,b,Z,e,q⟩
 ·(cases e),λ⟨Y,b,Z,e,q⟩=>⟨b,Z,by unfold jc;rw[ß Y];exact e,q⟩⟩
def iP:Wp (bO fa env s) Q=Wp (fa env s) λds s=>ds.length<=Õ/\Q (.tup ds) s:=by unfold bO;simp only[bb,nF,aP]
def qA:Wp (lK fa env s) Q=Wp (fa env s) λds s=>ds.length<=Õ/\Q (.lst ds) s:=by unfold lK;simp only[bb,nF,aP]
def tL:Wp (eNew fa env s) Q=Wp (fa env s) λds s=>ds.length<=Õ/\Q (.ai s.length) (s++[.lst ds]):=by unfold eNew;simp only[bb,nF,aP]
def qB:Wp (kG f env s) Q=Wp (f env s) λd s=>Wp (dw d s) Q:=by unfold kG;rw[bb]
def jy:Wp (aC f env s) QB=Wp (f env s) λd s=>Wp (ij d s) QB:=by unfold aC;rw[bb]
def gK {b:Bool}:Wp (ij (.bl b) s) QB=QB b s:=by rw[show ij (.bl b) s=ok b s from rfl,aP]
def nP:Wp (dZ f env s) QB=Wp (f env s) λd s=>Wp (truth d s) QB:=by unfold dZ;rw[bb]
def jw {b:Bool}:Wp (truth (.bl b) s) QB=QB b s:=by rw[show truth (.bl b) s=ok b s from rfl,aP]
def zg:Wp (dh c c' env s) QB=Wp (c env s) λb s=>if b=true then Wp (c' env s) QB else QB false s:=by
 unfold dh;rw[bb];congr 1;funext b s
 cases b<;>simp[aP]
def qC:Wp (iW c c' env s) QB=Wp (c env s) λb s=>if b=true then QB true s else Wp (c' env s) QB:=by
 unfold iW;rw[bb];congr 1;funext b s
 cases b<;>simp[aP]
def ql:Wp (ig c env s) QB=Wp (c env s) λb s=>QB (!b) s:=by unfold ig;simp only[bb,aP]
def zh:Wp (dj f g env s) Q=Wp (f env s) λx s=>Wp (ij x s) λb s=>if b=true then Wp (g env s) Q else Q (.bl false) s:=by
 unfold dj;rw[bb];congr 1;funext x s;rw[bb];congr 1;funext b s
 cases b<;>simp[aP]
def zF:Wp (ma f g env s) Q=Wp (f env s) λx s=>Wp (ij x s) λb s=>if b=true then Q (.bl true) s else Wp (g env s) Q:=by
 unfold ma;rw[bb];congr 1;funext x s;rw[bb];congr 1;funext b s
 cases b<;>simp[aP]
def zi:Wp (rj f env s) Q=Wp (f env s) λx s=>Wp (ij x s) λb s=>Q (.bl (!b)) s:=by unfold rj;simp only[bb,aP]
def qD:Wp (rW c f g env s) Q=Wp (c env s) λb s=>if b=true then Wp (f env s) Q else Wp (g env s) Q:=by
 unfold rW;rw[bb];congr 1;funext b s
 cases b<;>simp
def zG:Wp (pO o o' f g h env s) Q=Wp (f env s) λx s=>Wp (g env s) λy s=>Wp (o x y s) λz s=>Wp (ij z s) λb s=>if b=true then Wp (h env s) λu s=>Wp (o' y u s) Q else Q (.bl false) s:=by
 unfold pO;simp only[bb];congr 1;funext x s;congr 1;funext y s;congr 1;funext z s;congr 1;funext b s
 cases b<;>simp[aP,bb]
def i9:Wp (cK env s) QF=QF (.nx env) s:=by unfold cK;rw[aP]
def gL:Wp (aQ f env s) QF=Wp (f env s) λd s=>QF (.rt d) s:=by unfold aQ;simp only[bb,aP]
def nG:Wp (fF f env s) QF=Wp (f env s) λ_ s=>QF (.nx env) s:=by unfold fF;simp only[bb,aP]
def yV:Wp (LS env s) QF=QF (.ct env) s:=by unfold LS;rw[aP]
def sA (st:acn Fl) (Q:Fl->ag->Prop):Fl->ag->Prop:=λfl s=>match fl with
 | .nx env=>Wp (st env s) Q
 |fl=>Q fl s
def eU:Wp (aw st eD env s) QF=Wp (st env s) (sA eD QF):=propext ⟨λh=>by
 unfold aw at h;rw[bb] at h;refine h.mono λZ s q=>?_
 cases Z with
 |nx e=>exact q
 |rt d=>have q:Wp (ok (Fl.rt d) s) QF:=q;rw[aP] at q;exact q
 |bk d=>have q:Wp (ok (Fl.bk d) s) QF:=q;rw[aP] at q;exact q
 |ct d=>have q:Wp (ok (Fl.ct d) s) QF:=q;rw[aP] at q;exact q,λh=>Wp.seq (h.mono λZ s q=>by cases Z<;>exact q)⟩
def acq (h:∀R,R=eD->Wp (st env s) (sA R QF)):Wp (aw st eD env s) QF:=by rw[eU];exact h _ rfl
def jd {env':Env} {s':ag} (h:st env s=ok (.nx env') s') (k:Wp (eD env' s') QF):Wp (aw st eD env s) QF:=by
 rw[eU,h,aP];exact k
def bM:sA st QF (.nx env) s=Wp (st env s) QF:=rfl
def oP:sA st QF (.rt d) s=QF (.rt d) s:=rfl
def zH:sA st QF (.ct env) s=QF (.ct env) s:=rfl
def jb:Wp (cG c st eD env s) QF=Wp (c env s) λb s=>if b=true then Wp (st env s) QF else Wp (eD env s) QF:=by
 unfold cG;rw[bb];congr 1;funext b s
 cases b<;>simp
def cy {gd:D->Env->Option Env}:Wp (aK f gd env s) QF=Wp (f env s) λd s=>∃e,gd d env=some e/\QF (.nx e) s:=by
 unfold aK;rw[bb];congr 1;funext d s
 cases h:gd d env with
 |none=>exact propext ⟨λ⟨_,_,e,_⟩=>(by cases e),λ⟨_,e,_⟩=>(by cases e)⟩
 |some e=>rw[aP];exact propext ⟨λq=>⟨e,rfl,q⟩,λ⟨Z,z,q⟩=>by cases z;exact q⟩
def cZ {i:Nat} {P:Env->Prop}:(∃e,gN i d env=some e/\P e)=P (env.set i (some d)):=propext ⟨λ⟨e,z,q⟩=>by cases z;exact q,λq=>⟨_,rfl,q⟩⟩
def qU {P:Env->Prop}:(∃e,gT gs (.tup ds) env=some e/\P e)=∃e,iS gs ds env=some e/\P e:=rfl
def qm {P:Env->Prop}:(∃e,iS [] [] env=some e/\P e)=P env:=propext ⟨λ⟨e,z,q⟩=>by cases z;exact q,λq=>⟨_,rfl,q⟩⟩
def qe {i:Nat} {P:Env->Prop}:(∃e,iS (gN i::gs) (d::ds) env=some e/\P e)=∃e,iS gs ds (env.set i (some d))=some e/\P e:=rfl
def zj {i j:Nat}:Wp (AG i j fa env s) QF=Wp (fa env s) λds s=>∃x y,ds=[x,y]/\QF (.nx ((env.set i (some x)).set j (some y))) s:=by
 unfold AG;rw[bb];congr 1;funext ds s
 match ds with
 | [x,y] =>
  show Wp (ok (Fl.nx ((env.set i (some x)).set j (some y))) s) QF=_;rw[aP];exact propext ⟨λq=>⟨x,y,rfl,q⟩,λ⟨Z,Y,e,q⟩=>by cases e;exact q⟩
 | []=>exact propext ⟨λ⟨_,_,e,_⟩=>(by cases e),λ⟨_,_,e,_⟩=>(by cases e)⟩
 | [_]=>exact propext ⟨λ⟨_,_,e,_⟩=>(by cases e),λ⟨_,_,e,_⟩=>(by cases e)⟩
 |_::_::_::_=>exact propext ⟨λ⟨_,_,e,_⟩=>(by cases e),λ⟨_,_,e,_⟩=>(by cases e)⟩
def zI {P:D->D->Prop}:(∃x' y',[x,y]=[x',y']/\P x' y')=P x y:=propext ⟨λ⟨_,_,e,q⟩=>by cases e;exact q,λq=>⟨x,y,rfl,q⟩⟩
def gr:Wp (ef it gd st env s) QF=Wp (it env s) λds s=>Wp (mP gd st ds env s) QF:=by unfold ef;rw[bb]
def nK {fo fi:acn D}:Wp (iV f fo fi env s) QF=Wp (f env s) λx s=>Wp (fo env s) λd s=>Wp (fi env s) λn s=>∃s',je d n x s=some s'/\QF (.nx env) s':=by
 unfold iV;simp only[bb];congr 1;funext x s;congr 1;funext d s;congr 1;funext n s
 cases h:je d n x s with
 |none=>exact propext ⟨λ⟨_,_,e,_⟩=>(by cases e),λ⟨_,e,_⟩=>(by cases e)⟩
 |some e=>simp only[aP];exact propext ⟨λq=>⟨e,rfl,q⟩,λ⟨Z,z,q⟩=>by cases z;exact q⟩
def nQ:Wp (gP f g env s) Q=Wp (f env s) λd s=>iU d s=true/\Wp (g env s) λx s=>Wp (iT d x s) Q:=by
 unfold gP;rw[bb];congr 1;funext d s
 cases h:iU d s with
 |true=>rw[ß rfl,bb];simp
 |false=>rw[æ Í];exact propext ⟨λ⟨_,_,e,_⟩=>(by cases e),λ⟨e,_⟩=>(by cases e)⟩
def wQ (Q:D->ag->Prop):Fl->ag->Prop:=λZ s=>match Z with
 | .rt d=>Q d s
 | .nx _=>Q .au s
 |_=>False
def iQ:Wp (aW np ns st ds s) Q=(ds.length=np/\Wp (st (ds.map some++Ñ (ns-np) none) s) (wQ Q)):=by
 unfold aW;by_cases h:ds.length=np
 ·rw[ß h,bb]
  refine propext ⟨λq=>⟨h,q.mono λZ s q=>?_⟩,λ⟨_,q⟩=>q.mono λZ s q=>?_⟩
  ·cases Z with
   |rt d=>exact(show Wp (ok d s) Q from q) |> λz=>by rw[aP] at z;exact z
   |nx e=>exact(show Wp (ok D.au s) Q from q) |> λz=>by rw[aP] at z;exact z
   |bk e=>obtain⟨_,_,e,_⟩:=q;cases e
   |ct e=>obtain⟨_,_,e,_⟩:=q;cases e
  ·cases Z with
   |rt d=>exact Wp.ok q
   |nx e=>exact Wp.ok q
   |bk e=>exact q.elim
   |ct e=>exact q.elim
 ·rw[æ h]
  exact propext ⟨λ⟨_,_,e,_⟩=>(by cases e),λ⟨e,_⟩=>absurd e h⟩
def ia:wQ Q (.rt d) s=Q d s:=rfl
def zJ:wQ Q (.nx env) s=Q .au s:=rfl
def eG:Wp (aM nt cap it gd c f env s) Q=Wp (it env s) λds s=>ds.length<=Õ/\Wp (bY nt (cX cap env) gd c f ds s) λxs s=>Q (.lst xs) s:=by
 unfold aM;simp only[bb,nF,aP]
def qV:Wp (kR f l' h' env s) Q=Wp (f env s) λd s=>Wp (l' env s) λlo s=>Wp (h' env s) λhi s=>Wp (kh d lo hi s) Q:=by unfold kR;simp only[bb]
def qE:Wp (kQ env s) QO=QO none s:=by unfold kQ;rw[aP]
def sY {i:Int} (hi:f env s=ok (.int i) s):Wp (kH f env s) QO=QO (some i) s:=by unfold kH;rw[hi,dW,aP]
end
def bP (s:ag) (k:Nat):Prop:=∃a b:Int,s[k]?=some (.lst [.int a,.int b])/\0<=a/\0<=b/\b<2147483647
structure Ex (k:Nat) (s s':ag):Prop where
 len:s.length<=s'.length
 val:∀j,j<s.length->j≠k->s'[j]?=s[j]?
def Ex.refl (k:Nat) (s:ag):Ex k s s:=⟨acr _,λ_ _ _=>rfl⟩
theorem Ex.trans (h:Ex k a b) (g:Ex k b c):Ex k a c:=⟨Û h.len g.len,λj Z Y=>(g.val j (É Z h.len) Y).trans (h.val j Z Y)⟩
theorem Ex.set (k:Nat) (s:ag) (c:Cell):Ex k s (s.set k c):=⟨by simp,λj _ Z=>Ý (œ Z)⟩
def Ex.app (k:Nat) (s:ag) (c:List Cell):Ex k s (s++c):=⟨by simp,λj Z _=>ã Z⟩
def bP.lt (h:bP s k):k<s.length:=by
 obtain⟨a,b,e,_⟩:=h;exact(Å.mp e).1
def bP.app (h:bP s k) (c:List Cell):bP (s++c) k:=by
 obtain⟨a,b,e,r⟩:=h;exact⟨a,b,by rw[ã (Å.mp e).1];exact e,r⟩
theorem bP.set (h:bP s k) (hj:j≠k) (c:Cell):bP (s.set j c) k:=by
 obtain⟨a,b,e,r⟩:=h;exact⟨a,b,by rw[Ý hj];exact e,r⟩
def Gm (x y:D) (k:Nat) (s:ag) (h:s[k]?=some (.lst [x,y])):aj (.ai k) (.int 0) s=ok x s:=by
 simp[aj,iy,res,h,cN,iq,bE]
def Gn (x y:D) (k:Nat) (s:ag) (h:s[k]?=some (.lst [x,y])):aj (.ai k) (.int 1) s=ok y s:=by
 simp[aj,iy,res,h,cN,iq,bE]
def M0 (x y z:D) (k:Nat) (s:ag) (h:s[k]?=some (.lst [x,y])):je (.ai k) (.int 0) z s=some (s.set k (.lst [z,y])):=by
 simp[je,h,iq]
def M3 (x y z:D) (k:Nat) (s:ag) (h:s[k]?=some (.lst [x,y])):je (.ai k) (.int 1) z s=some (s.set k (.lst [x,z])):=by
 simp[je,h,iq]
@[simp] theorem tM {a:D} {r:Env} {s:ag}:aa 0 (some a::r) s=ok a s:=rfl
@[simp] theorem tN {i:Nat} {a:Option D} {r:Env} {s:ag}:aa (i+1) (a::r) s=aa i r s:=rfl
def ltI (i j:Int) (s:ag):gC (.int i) (.int j) s=ok (.bl (decide (i<j))) s:=rfl
def Bj (i j:Int) (s:ag):uq (.int i) (.int j) s=ok (.bl (decide (j<i))) s:=rfl
def geI (i j:Int) (s:ag):AE (.int i) (.int j) s=ok (.bl (decide (j<=i))) s:=rfl
def leI (i j:Int) (s:ag):o9 (.int i) (.int j) s=ok (.bl (decide (i<=j))) s:=rfl
def Fe (i j:Int) (s:ag):cY (.int i) (.int j) s=ok (.int (i+j)) s:=rfl
def M4 (i j:Int) (s:ag):qJ (.int i) (.int j) s=ok (.int (i-j)) s:=rfl
def NK (i j:Int) (s:ag):aS (.int i) (.int j) s=ok (.bl (i==j)) s:=rfl
def neI (i j:Int) (s:ag):gO (.int i) (.int j) s=ok (.bl (!(i==j))) s:=rfl
def uy {i j:Int} (s:ag) (h:0<j):nY (.int i) (.int j) s=ok (.int (i % j)) s:=by
 simp[nY,EZ,h,bE]
def M5 (s:ag) (h:0<j) (h2:j<1073741824):vZ (.int i) (.int j) s=ok (.int (i / j)) s:=by
 simp[vZ,E1,h,h2,bE]
def wR (s:ag) (h:vY i j=true):jL (.int i) (.int j) s=ok (.int (i*j)) s:=by
 simp[jL,EY,h,bE]
def mulOk_of (h1:-(2 ^ 64)<i) (h2:i<2 ^ 64):vY i j=true:=by
 unfold vY;rw[à h1,à h2];rfl
def gM (h:bP s k) (h1:0<m) (h2:m<1073741824):Wp (cf [.ai k,.int m] s) λd s'=>∃r:Int,d=.int r/\0<=r/\r<m/\bP s' k/\Ex k s s':=by
 obtain⟨a,b,e,Y,U,T⟩:=h;have X:=(Å.mp e).1;by_cases W:0<a
 ·have Z:(s.set k (.lst [.int (a / m),.int b]))[k]?=some (.lst [.int (a / m),.int b]):=ç X
  refine⟨.int (a % m),s.set k (.lst [.int (a / m),.int b]),?_,a % m,rfl,aa5 _ (by omega),aah _ h1,⟨a / m,b,Z,Int.ediv_nonneg Y (by omega),U,T⟩,Ex.set _ _ _⟩;simp only[cf,aW,aw,cG,aC,e2,tM,tN,eC,dW,Ö,Ħ,ĕ,ķ,Gm _ _ k s e,Bj,ij,ù,Ę,à W,ô,aK,gN,uy s h1,iV,M5 s h1 h2,M0 _ _ _ k s e,aQ,Ù,Ú,Ñ]
 ·have S:decide (0<a)=false:=è W
  have ex:0<=(b*48271+29) % 2147483647/\(b*48271+29) % 2147483647<2147483647:=⟨aa5 _ (by decide),aah _ (by decide)⟩;generalize R:(b*48271+29) % 2147483647=x at ex;have Z:(s.set k (.lst [.int a,.int x]))[k]?=some (.lst [.int a,.int x]):=ç X;generalize V:(x*x+39373*x+7) % 2147483629=y;have L:0<=y/\y<2147483629:=by rw[<- V];exact⟨aa5 _ (by decide),aah _ (by decide)⟩
  generalize Q:(y*y+16807*y) % 2147483587=z;refine⟨.int (z / 8 % m),s.set k (.lst [.int a,.int x]),?_,_,rfl,aa5 _ (by omega),aah _ h1,⟨a,x,Z,Y,ex.1,ex.2⟩,Ex.set _ _ _⟩;have P:jL (.int b) (.int 48271) s=ok (.int (b*48271)) s:=wR s (mulOk_of (by omega) (by omega));have O:∀s',jL (.int x) (.int x) s'=ok (.int (x*x)) s':=λs'=>wR s' (mulOk_of (by omega) (by omega));have N:∀s',jL (.int 39373) (.int x) s'=ok (.int (39373*x)) s':=λs'=>wR s' (mulOk_of (by decide) (by decide));have m4:∀s',jL (.int y) (.int y) s'=ok (.int (y*y)) s':=λs'=>wR s' (mulOk_of (by omega) (by omega));have M:∀s',jL (.int 16807) (.int y) s'=ok (.int (16807*y)) s':=λs'=>wR s' (mulOk_of (by decide) (by decide));simp only[cf,aW,aw,cG,aC,e2,tM,tN,eC,dW,Ö,Ħ,ĕ,ķ,Gm _ _ k s e,Gn _ _ k s e,Bj,ij,ù,Ę,S,Ä,ê,ô,cK,iV,P,Fe,uy _ (show (0:Int)<2147483647 by decide),R,M3 _ _ _ k s e,aK,gN,Gn _ _ k _ Z,O,N,
   uy _ (show (0:Int)<2147483629 by decide),V,Ù,Ú,Ñ,m4,M,uy _ (show (0:Int)<2147483587 by decide),Q,aQ,M5 _ (show (0:Int)<8 by decide) (by decide),uy _ h1]
def le_size (h:n<=1000000):n<=Õ:=Û h (by decide)
def Cm (h1:-1000000<=j) (h2:j<=1000000):kz j=true:=by
 unfold kz;rw[à (show -(2 ^ 62)<=j by omega),à (show j<2 ^ 62 by omega)];rfl
def Jr {α:Type} {ds:List D} {r:Res α} (h:ds.length<=1000000):jc ds r=r:=ß (le_size h)
def vE {α β:Type} (f:α->β) (xs:List α) (i:Int):cN (xs.map f) i=(cN xs i).map f:=by
 unfold cN;rw[Ã]
 cases iq xs.length i with
 |none=>rfl
 |some j=>simp
def tO {α:Type} {xs:List α} {i:Int} (h0:0<=i) (h1:i<xs.length):∃x,cN xs i=some x/\xs[i.toNat]?=some x:=by
 have Z:i.toNat<xs.length:=by omega
 refine⟨xs[i.toNat],?_,Ë Z⟩;unfold cN iq;rw[ß h0,ß h1];exact Ë Z
def U8 {ns:List Int} {i:Int} {s:ag} (h0:0<=i):∃c:Int,vh [.bQ ns,.int i] s=ok (.int c) s:=by
 by_cases h:i<(ns.length:Int)
 ·obtain⟨x,Z,_⟩:=tO h0 h
  refine⟨x,?_⟩;have Y:aj (.bQ ns) (.int i) s=ok (.int x) s:=by simp[aj,iy,res,Z,bE]
  simp only[vh,aW,aw,cG,aC,e2,eB,ae,ah,cz,wF,res,bE,tM,tN,eC,dW,Ö,Ħ,ĕ,ķ,ù,Ę,ô,ltI,ij,à h,aQ,Y,Ñ]
 ·refine⟨0,?_⟩
  simp only[vh,aW,aw,cG,aC,e2,eB,ae,ah,cz,wF,res,bE,tM,tN,eC,dW,Ö,Ħ,ĕ,ķ,ù,Ę,ô,ltI,ij,è h,Ä,ê,cK,aQ,Ñ]
def S7 {ns:List Int} {i:Int} {s:ag} (h0:0<=i):Wp (yP [.bQ ns,.int i] s) λd s'=>d=.ai s.length/\bP s' s.length/\∃c,s'=s++[c]:=by
 obtain⟨c,Z⟩:=U8 (ns:=ns) (s:=s) h0;have Y:∀s,Aa (.int 10) (.int 18) s=ok (.int (10 ^ 18)) s:=λs=>by
  have e:E2 (.int 10) (.int 18)=some (.int (10 ^ 18)):=by
   show (if (decide ((0:Int)<=18)&&decide ((18:Int)<=1000000)&&decide ((10:Int).natAbs<2 ^ 64))=true then some (D.int (10 ^ (18:Int).toNat)) else none)=_
   rw[ß (by decide)];rfl
  simp only[Aa,e,bE]
 refine⟨.ai s.length,s++[.lst [.int (if c-10 ^ 18 > 0 then c-10 ^ 18 else 0),.int (c % 2147483647)]],?_,rfl,⟨_,_,by simp;exact⟨rfl,rfl⟩,?_,aa5 _ (by decide),aah _ (by decide)⟩,_,rfl⟩
 ·simp only[yP,aW,aw,aK,ax,ae,ah,tM,tN,eC,dW,Ö,Ħ,ĕ,ķ,ù,Ę,ô,Z,jK,gN,Ù,Ú,Ñ,aQ,eNew,eB,qL,e2,Y,M4,uy _ (show (0:Int)<2147483647 by decide)]
  rw[Jr (by simp)];rfl
 ·split<;>omega
structure dR (m:Nat) (ns:List Int):Prop where
 lo:∀x∈ns,0<=x/\x<m
 up:ns.Pairwise (· < ·)
noncomputable abbrev mD (ns:List Int):D:=.tup (ns.map D.int)
def dR.len (h:dR m ns):ns.length<=m:=by
 have key:∀(l:List Int) (b:Int),l.Pairwise (· < ·)->(∀x∈l,b<=x/\x<m)->(l.length:Int)<=m-b\/l=[]:=by
  intro l
  induction l with
  |nil=>intro b _ _;exact .inr rfl
  |cons x l ih =>
   intro b X Z;obtain⟨W,V⟩:=ą.mp X;have U:=Z x Î;left
   rcases ih (x+1) V (λy Y=>⟨by have:=W y Y;omega,(Z y (Ï _ Y)).2⟩) with h|h
   ·rw[ù];omega
   ·subst h
    simp;omega
 rcases key ns 0 h.up h.lo with h'|h'
 ·omega
 ·subst h';simp
def Rk {k n:Nat} {w:Int} (h1:bP s1 k) (w0:0<=w) (w1:w<4):Wp (bY 1 (cX [0,2] [some (.ai k),some (.int n),some (.int (1+w))]) (gN 0) (aC (e2 aS (ax cf (ae (aa 1) (ae (e2 cY (aa 2) (eC (.int 1))) ah))) (eC (.int 0)))) (aa 0) (bS 0 n) s1)
   λxs s'=>∃ns,xs=ns.map D.int/\dR n ns/\bP s' k/\Ex k s1 s':=by
 refine qk (λi Z s'=>∃ns:List Int,Z=ns.map D.int/\dR i ns/\bP s' k/\Ex k s1 s') (bS 0 n) ⟨[],rfl,⟨by simp,.nil⟩,h1,Ex.refl _ _⟩ (λi d Z s' X W=>?_) λZ s' W=>?_
 ·obtain⟨ns,rfl,Y,S,V⟩:=W
  rw[fZ] at X;split at X
  ·cases X
   refine⟨[some (.int (0+i)),some (.ai k),some (.int (1+w))],rfl,?_⟩;have R:=gM S (m:=1+w+1) (by omega) (by omega);obtain⟨d,Q,P,r,rfl,M,L,U,T⟩:=R;have O:aC (e2 aS (ax cf (ae (aa 1) (ae (e2 cY (aa 2) (eC (.int 1))) ah))) (eC (.int 0))) [some (.int (0+(i:Int))),some (.ai k),some (.int (1+w))] s'=ok (r==0) Q:=by
    simp only[aC,e2,ax,ae,ah,tM,tN,eC,dW,Fe,P,jK,NK,ij]
   refine aco O ?_;split
   ·refine Wp.ok ⟨ns++[0+(i:Int)],by simp,⟨λx hx=>?_,?_⟩,U,V.trans T⟩
    ·rcases ä.mp hx with hx|hx
     ·have:=Y.lo x hx;omega
     ·rw[å.mp hx];omega
    ·refine aaA.mpr ⟨Y.up,by simp,λx hx y N=>?_⟩
     rw[å.mp N];have:=Y.lo x hx;omega
   ·exact⟨ns,rfl,⟨λx hx=>by have:=Y.lo x hx;omega,Y.up⟩,U,V.trans T⟩
  ·cases X
 ·rw[bX] at W
  exact W
def sU {nt:Nat} {cap:List Nat} {it:acn (List D)} {g:D->Env->Option Env} {t:acn Bool} {f:acn D} {env:Env} {s s1 s2:ag} {ds xs:List D} (h1:it env s=ok ds s1) (hl:ds.length<=1000000) (h2:bY nt (cX cap env) g t f ds s1=ok xs s2):aM nt cap it g t f env s=ok (.lst xs) s2:=by
 unfold aM;rw[h1,dW,Jr hl,h2,dW]
def dJ (h:fa env s=ok [.int n] s1) (hn:n<=1000000):bL fa env s=ok (bS 0 n) s1:=by
 unfold bL;rw[h,dW]
 show (if kz (n:Int)=true then ok (bS 0 (n:Int).toNat) s1 else none)=_
 rw[ß (Cm (by omega) (by omega)),ò]
def zk {n:Nat} {i:Int} (h:fa env s=ok [.int i] s1) (hi:i=n) (hn:n<=1000000):bL fa env s=ok (bS 0 n) s1:=by
 subst hi;exact dJ h hn
def DJ (h:fa env s=ok [.int i,.int j] s1) (h1:-1000000<=i) (h2:i<=1000000) (h3:-1000000<=j) (h4:j<=1000000):rZ fa env s=ok (bS i (j-i).toNat) s1:=by
 unfold rZ;rw[h,dW]
 show (if (kz i&&kz j)=true then ok (bS i (j-i).toNat) s1 else none)=_
 rw[ß (by rw[Cm h1 h2,Cm h3 h4];rfl)]
def vQ:Wp (gC (.int i) (.int j) s) Q=Q (.bl (decide (i<j))) s:=by rw[ltI,aP]
def zK:Wp (uq (.int i) (.int j) s) Q=Q (.bl (decide (j<i))) s:=by rw[Bj,aP]
def zL:Wp (AE (.int i) (.int j) s) Q=Q (.bl (decide (j<=i))) s:=by rw[geI,aP]
def tQ:Wp (o9 (.int i) (.int j) s) Q=Q (.bl (decide (i<=j))) s:=by rw[leI,aP]
def zl:Wp (cY (.int i) (.int j) s) Q=Q (.int (i+j)) s:=by rw[Fe,aP]
def sZ:Wp (qJ (.int i) (.int j) s) Q=Q (.int (i-j)) s:=by rw[M4,aP]
def qF:Wp (aS (.int i) (.int j) s) Q=Q (.bl (i==j)) s:=by rw[NK,aP]
def zM:Wp (gO (.int i) (.int j) s) Q=Q (.bl (!(i==j))) s:=by rw[neI,aP]
def Js {k n:Nat} (h:bP s k) (hn:n<=8):Wp (vA [.ai k,.int n] s) λd s'=>∃ns,d=mD ns/\dR n ns/\bP s' k/\Ex k s s':=by
 unfold vA;simp only[aP,zE,t4,bG,bH,fT,oW,dO,dI,fm,kD,wp_call,iP,qA,tL,qB,jy,gK,nP,jw,zg,qC,ql,zh,zF,zi,qD,zG,i9,gL,nG,yV,eU,bM,oP,zH,jb,cy,cZ,qU,qm,qe,zj,zI,gr,nK,nQ,iQ,ia,zJ,eG,qV,qE,Ö,Ħ,ĕ,ķ,ù,Ę,Ù,Ú,Ñ,true_and,Nat.reduceSub,Nat.reduceAdd,vQ,zK,zL,tQ,zl,sZ,qF,zM];refine(gM h (by decide) (by decide)).mono λd Q Z=>?_;obtain⟨w,rfl,Y,X,W,V⟩:=Z;simp only[aP,zE,t4,bG,bH,fT,oW,dO,dI,fm,kD,wp_call,iP,qA,tL,qB,jy,gK,nP,jw,zg,qC,ql,zh,zF,zi,qD,zG,i9,gL,nG,yV,eU,bM,oP,zH,jb,cy,cZ,qU,qm,qe,zj,zI,gr,nK,nQ,iQ,ia,zJ,eG,qV,qE,Ö,Ħ,ĕ,ķ,ù,Ę,Ù,Ú,Ñ,true_and,Nat.reduceSub,Nat.reduceAdd,vQ,zK,zL,tQ,zl,sZ,qF,zM];refine aco (dJ rfl (by omega)) ⟨by rw[bX];exact le_size (by omega),(Rk W Y X).mono λP O U=>?_⟩;obtain⟨ns,rfl,T,S,R⟩:=U;exact aco rfl ⟨ns,rfl,T,S,V.trans R⟩
end DI
local macro_rules | `(tactic| simp only[VC])=>`(tactic| simp only[DI.aP,DI.zE,DI.t4,DI.bG,DI.bH,DI.fT,DI.oW,DI.dO,DI.dI,DI.fm,DI.kD,DI.wp_call,DI.iP,DI.qA,DI.tL,DI.qB,DI.jy,DI.gK,DI.nP,DI.jw,DI.zg,DI.qC,DI.ql,DI.zh,DI.zF,DI.zi,DI.qD,DI.zG,DI.i9,DI.gL,DI.nG,DI.yV,DI.eU,DI.bM,DI.oP,DI.zH,DI.jb,DI.cy,DI.cZ,DI.qU,DI.qm,DI.qe,DI.zj,DI.zI,DI.gr,DI.nK,DI.nQ,DI.iQ,DI.ia,DI.zJ,DI.eG,DI.qV,DI.qE,List.map_cons,List.map_nil,List.cons_append,List.nil_append,List.length_cons,List.length_nil,List.set_cons_succ,List.set_cons_zero,List.replicate,true_and,Nat.reduceSub,Nat.reduceAdd,DI.vQ,DI.zK,DI.zL,DI.tQ,DI.zl,DI.sZ,DI.qF,DI.zM])
local macro_rules | `(tactic| simp only[VC,$xs,*])=>`(tactic| simp only[DI.aP,DI.zE,DI.t4,DI.bG,DI.bH,DI.fT,DI.oW,DI.dO,DI.dI,DI.fm,DI.kD,DI.wp_call,DI.iP,DI.qA,DI.tL,DI.qB,DI.jy,DI.gK,DI.nP,DI.jw,DI.zg,DI.qC,DI.ql,DI.zh,DI.zF,DI.zi,DI.qD,DI.zG,DI.i9,DI.gL,DI.nG,DI.yV,DI.eU,DI.bM,DI.oP,DI.zH,DI.jb,DI.cy,DI.cZ,DI.qU,DI.qm,DI.qe,DI.zj,DI.zI,DI.gr,DI.nK,DI.nQ,DI.iQ,DI.ia,DI.zJ,DI.eG,DI.qV,DI.qE,List.map_cons,List.map_nil,List.cons_append,List.nil_append,List.length_cons,List.length_nil,List.set_cons_succ,List.set_cons_zero,List.replicate,true_and,Nat.reduceSub,Nat.reduceAdd,DI.vQ,DI.zK,DI.zL,DI.tQ,DI.zl,DI.sZ,DI.qF,DI.zM,$xs,*])
namespace DI
open PySem L2
def acp {α:Type} {r:Res α} {d:α} {s:ag} (h:Wp r λa s'=>a=d/\s'=s):r=DI.ok d s:=by
 obtain⟨a,s',e,rfl,rfl⟩:=h;exact e
def iE {f:acn D} {env:Env} {s s1:ag} {ds:List D} (h:f env s=ok (.tup ds) s1):aR f env s=ok ds s1:=by
 unfold aR;rw[h];rfl
def fy (h:f env s=ok (.lst ds) s1):aR f env s=ok ds s1:=by
 unfold aR;rw[h];rfl
theorem yL:∀(ns:List Int),dq (ns.map D.int)=true
 | []=>rfl
 |n::ns=>by simp only[Ö,dq,lay,yL ns,ĵ]
theorem IC:∀(ns:List Int),cv (ns.map D.int)=0
 | []=>rfl
 |n::ns=>by simp only[Ö,cv,dep,IC ns,Nat.max_self]
def Kk (x:Int) (ns:List Int):((ns.map D.int).any λy=>beq y (.int x))=decide (x∈ns):=by
 induction ns with
 |nil=>simp
 |cons n ns ih =>
  simp only[Ö,List.any_cons,ih,beq];by_cases h:n=x
  ·subst h;simp
  ·have Z:¬ x=n:=λe=>h e.symm
   simp[h,Z]
def oF {x:Int} {ns:List Int} {s:ag}:cD (.int x) (mD ns) s=ok (.bl (decide (x∈ns))) s:=by
 have Z:qM 100 (.int x) (ns.map D.int)=true:=by simp only[qM,lay,yL,dep,ĵ,ē,ĥ]
 have e:inD (.int x) (ns.map D.int)=some (decide (x∈ns)):=by unfold inD;rw[ß Z,Kk]
 unfold cD;rw[show oV (mD ns) s=some (ns.map D.int) from rfl];simp only[e];rfl
def Qd:dU (.int x) (mD ns) s=ok (.bl (!decide (x∈ns))) s:=by
 have Z:qM 100 (.int x) (ns.map D.int)=true:=by simp only[qM,lay,yL,dep,ĵ,ē,ĥ]
 have e:inD (.int x) (ns.map D.int)=some (decide (x∈ns)):=by unfold inD;rw[ß Z,Kk]
 unfold dU;rw[show oV (mD ns) s=some (ns.map D.int) from rfl];simp only[e];rfl
noncomputable def sub (a b:List Int):Bool:=a.all λx=>decide (x∈b)
def oG {α:Type} (p:α->Bool) (xs:List α) (s:ag):lL [.lst (xs.map λx=>D.bl (p x))] s=ok (.bl (xs.all p)) s:=by
 have e:jl (xs.map λx=>D.bl (p x))=some (xs.map p):=by
  have:=UG (bs:=xs.map p);rw[ĉ] at this;exact this
 show bE ((jl (xs.map λx=>D.bl (p x))).map λ(bs:List Bool)=>D.bl (bs.all id)) s=_;rw[e];show ok (D.bl ((xs.map p).all id)) s=_;rw[List.all_map];rfl
def filter_tt {α:Type} (xs:List α):xs.filter (λ_=>true)=xs:=by simp
def fX {nt:Nat} {caps:Env} {g:D->Env->Option Env} {t:acn Bool} {f:acn D} {s:ag} (p:Int->Bool) (h:Int->D) (ns:List Int) (hh:∀n∈ns,∃env,g (.int n) (Ñ nt none++caps)=some env/\t env s=ok (p n) s/\(p n=true->f env s=ok (h n) s)) :
  bY nt caps g t f (ns.map D.int) s=ok ((ns.filter p).map h) s:=by
 induction ns with
 |nil=>rfl
 |cons n ns ih =>
  obtain⟨env,Y,X,W⟩:=hh n Î;have ih:=ih λV U=>hh V (Ï _ U);rw[Ö];unfold bY;rw[Y];simp only[X,jK,dW]
  cases Z:p n with
  |true=>simp only[ô,W Z,jK,dW,ih,Ĺ,Z,Ö]
  |false=>simp only[Ä,ê,ih,Ĺ,Z]
def comp_map {α:Type} (d:α->D) (p:α->Bool) (h:α->D) (xs:List α) (hh:∀x∈xs,∃env,g (d x) (Ñ nt none++caps)=some env/\t env s=ok (p x) s/\(p x=true->f env s=ok (h x) s)) :
  bY nt caps g t f (xs.map d) s=ok ((xs.filter p).map h) s:=by
 induction xs with
 |nil=>rfl
 |cons n T ih =>
  obtain⟨env,Y,X,W⟩:=hh n Î;have ih:=ih λV U=>hh V (Ï _ U);rw[Ö];unfold bY;rw[Y];simp only[X,jK,dW]
  cases Z:p n with
  |true=>simp only[ô,W Z,jK,dW,ih,Ĺ,Z,Ö]
  |false=>simp only[Ä,ê,ih,Ĺ,Z]
def Rl:Bz [.int i] s=ok (.bl (decide (0<=i))) s:=by
 rfl
def sR:sP [.int i,.int m] s=ok (.bl (decide (0<=i)&&decide (i<m))) s:=by
 refine acp ?_;unfold sP;simp only[VC,Rl];by_cases h:0<=i
 ·simp[h]
 ·simp[h]
def Kl:vp [.int i] s=ok (.bl (decide (0<=i)&&decide (i<8))) s:=by
 refine acp ?_;unfold vp;simp only[VC,sR,true_and]
def Jt (xs:List D):cutD xs (some 1) none=xs.drop 1:=by
 unfold cutD HT.aV
 cases xs with
 |nil=>simp
 |cons x xs =>
  simp only[ù]
  have e:(if (1:Int)<0 then (1+((xs.length+1:Nat):Int)).toNat else min (1:Int).toNat (xs.length+1))=1:=by simp
  simp
noncomputable def rise:List Int->Bool
 | []=>true
 | [_]=>true
 |a::b::r=>decide (a<b)&&rise (b::r)
def U9 (h:ns.Pairwise (· < ·)):rise ns=true:=by
 induction ns with
 |nil=>rfl
 |cons a ns ih =>
  cases ns with
  |nil=>rfl
  |cons b r =>
   obtain⟨Z,Y⟩:=ą.mp h;simp only[rise,ih Y,ο];exact à (Z b Î)
theorem Ju:∀(ns:List Int),((ns.zip (ns.drop 1)).all λp=>decide (p.1<p.2))=rise ns
 | []=>rfl
 | [_]=>rfl
 |a::b::r=>by
  have ih:=Ju (b::r);simp only[List.drop_succ_cons,ab9,ġ,List.all_cons,rise] at ih |-;rw[ih]
def Rm (xs ys:List Int):cT (xs.map D.int) (ys.map D.int)=(xs.zip ys).map λp=>D.tup [.int p.1,.int p.2]:=by
 unfold cT;rw[List.zip_map,ĉ];rfl
def Jv (h:fa env s=ok [.tup xs,.tup ys] s1):rn fa env s=ok (cT xs ys) s1:=by
 unfold rn;rw[h];rfl
def Rn (hl:ns.length<=1000000):pZ [mD ns] s=ok (.bl (rise ns)) s:=by
 refine acp ?_;unfold pZ;simp only[VC];have Z:rn (ae (aa 0) (ae (kR (aa 0) (kH (eC (.int 1))) kQ) ah)) [some (mD ns)] s=ok (cT (ns.map D.int) ((ns.drop 1).map D.int)) s:=by
  refine Jv (acp ?_);simp only[VC];rw[sY (i:=1) rfl]
  try simp only[VC]
  refine aco (show kh (mD ns) (some 1) none s=ok (.tup (cutD (ns.map D.int) (some 1) none)) s from rfl) ⟨?_,rfl⟩;rw[Jt,List.map_drop]
 refine aco Z ⟨le_size (by rw[qb];simp only[Ã];omega),?_⟩;rw[Rm];refine aco (comp_map (λp:Int×Int=>D.tup [.int p.1,.int p.2]) (λ_=>true) (λp=>.bl (decide (p.1<p.2))) _ λp _=>⟨[some (.int p.1),some (.int p.2)],rfl,rfl,λ_=>rfl⟩) ?_;rw[filter_tt];exact aco (oG _ _ _) ⟨by rw[Ju],rfl⟩
structure ab1 (rs:List (List Int)):Prop where
 lo:1<=rs.length
 hi:rs.length<=10
 Bk:∀r∈rs,dR 8 r
def tj (lo:Int) (n:Nat):bS lo n=(Ø n).map λi:Nat=>D.int (lo+i):=rfl
def WQ (rs:List (List Int)) (laid:List Int) (m:Int):Bool:=((Ø laid.length).filter λi=>laid.getD i 0==m).all λi=>sub (rs.getD i []) (rs.getD laid.length [])
def qG {α:Type} (d:α->D) (p:α->Bool) (h:α->List D) (xs:List α) (hh:∀x∈xs,∃env,g (d x) rf=some env/\t env s=ok (p x) s/\(p x=true->act env s=ok (h x) s)) :
  kJ g t act rf (xs.map d) s=ok ((xs.filter p).flatMap h) s:=by
 induction xs with
 |nil=>rfl
 |cons n T ih =>
  obtain⟨env,Y,X,W⟩:=hh n Î;have ih:=ih λV U=>hh V (Ï _ U);rw[Ö];unfold kJ;rw[Y];simp only[X,jK,dW]
  cases Z:p n with
  |true=>simp only[ô,W Z,jK,dW,ih,Ĺ,Z,List.flatMap_cons]
  |false=>simp only[Ä,ê,ih,Ĺ,Z]
def Cn :
  Wp (vL nt cap it gd c act env s) Q=Wp (it env s) λds s=>Wp (kJ gd c act (Ñ nt none++cX cap env) ds s) λxs s=>xs.length<=Õ/\Q (.lst xs) s:=by
 unfold vL;simp only[bb,t4,nF,aP]
def step (rs:List (List Int)) (told:List (List Int)):List (List Int):=told.flatMap λlaid=>([0,1].filter λm=>WQ rs laid m).map λm=>laid++[m]
def fR (h:a.length+b.length<=1000000):cY (mD a) (mD b) s=ok (mD (a++b)) s:=by
 have e:rA (mD a) (mD b)=some (mD (a++b)):=by
  show (if rq (a.map D.int) (b.map D.int)=true then some (D.tup (a.map D.int++b.map D.int)) else none)=_
  have Z:rq (a.map D.int) (b.map D.int)=true:=by
   unfold rq;rw[Ã,Ã];exact à (le_size h)
  rw[ß Z];show some (D.tup (a.map D.int++b.map D.int))=some (D.tup ((a++b).map D.int));rw[õ]
 show bE (rA (mD a) (mD b)) s=_;rw[e];rfl
open TK
noncomputable def markB (i:Int):Bool:=decide (0<=i)&&decide (i<8)
noncomputable def km (i:Int):Bool:=decide (0<=i)&&decide (i<4)
noncomputable def lO (i:Int):Bool:=decide (0<=i)&&decide (i<31)
def ko (ns:List Int):Bool:=ns.all markB&&rise ns
noncomputable def kq (a b:List Int):Bool:=!(a.any λx=>decide (x∈b))
def gv:Pg->Bool
 | .made m d h l=>km m&&lO d&&(ko h&&(ko l&&kq h l))
 | .aU m d k=>km m&&lO d&&markB k
def lP:Pg->Prop
 | .made _ _ h l=>h.length<=1000/\l.length<=1000
 | .aU _ _ _=>True
def S8:jl (bs.map D.bl)=some bs:=by
 induction bs with
 |nil=>rfl
 |cons b bs ih=>simp only[Ö,jl,ih];rfl
def Jw {α:Type} (p:α->Bool) (xs:List α) (s:ag):uu [.lst (xs.map λx=>D.bl (p x))] s=ok (.bl (xs.any p)) s:=by
 have e:jl (xs.map λx=>D.bl (p x))=some (xs.map p):=by
  have:=S8 (bs:=xs.map p);rw[ĉ] at this;exact this
 simp only[uu,res,e,bE,Ŭ,List.any_map,ŗ,id]
def Jx (hl:ns.length<=1000):vf [mD ns] s=ok (.bl (ko ns)) s:=by
 refine acp ?_;unfold vf;simp only[VC];refine aco (show cL [mD ns,.ty "tuple"] s=ok (.bl true) s from rfl) ?_;simp only[VC,ô];refine aco (iE rfl) ⟨le_size (by rw[Ã];omega),?_⟩;refine aco (fX (λ_=>true) (λx=>.bl (markB x)) ns λn _=>⟨[some (.int n)],rfl,rfl,λ_=>?_⟩) ?_
 ·refine acp ?_
  simp only[VC,Kl,markB,true_and]
 ·rw[filter_tt]
  refine aco (oG _ _ _) ?_;simp only[VC];unfold ko
  cases e:ns.all markB with
  |true =>
   simp only[ô,û];exact aco (Rn (by omega)) ⟨rfl,rfl⟩
  |false=>simp
def Co (ha:a.length<=1000):sM [mD a,mD b] s=ok (.bl (kq a b)) s:=by
 refine acp ?_;unfold sM;simp only[VC];refine aco (iE rfl) ⟨le_size (by rw[Ã];omega),?_⟩;refine aco (fX (λ_=>true) (λx=>.bl (decide (x∈b))) a λn _=>⟨[some (.int n),some (mD b)],rfl,rfl,λ_=>?_⟩) ?_
 ·refine acp ?_
  simp only[VC,oF,true_and]
 ·rw[filter_tt]
  refine aco (Jw _ _ _) ?_;simp only[VC];exact⟨rfl,trivial⟩
def Jy (h1:h.length<=1000) (h2:l.length<=1000):sQ [.tup [mD h,mD l]] s=ok (.bl (ko h&&(ko l&&kq h l))) s:=by
 refine acp ?_;unfold sQ;simp only[VC];refine aco (show cL [.tup [mD h,mD l],.ty "tuple"] s=ok (.bl true) s from rfl) ?_;simp only[VC,Ā,Ä,ê];refine aco (show cz [.tup [mD h,mD l]] s=ok (.int 2) s from rfl) ?_;simp only[VC];simp only[VC,ě,Ā,Ä,ê];refine aco (Jx h1) ?_;simp only[VC]
 cases ko h with
 |false=>simp
 |true =>
  simp only[ô,û];refine aco (Jx h2) ?_;simp only[VC]
  cases ko l with
  |false=>simp
  |true =>
   simp only[ô,û];exact aco (Co h1) ⟨rfl,rfl⟩
def Cp:vj [.int i] s=ok (.bl (km i)) s:=by
 refine acp ?_;unfold vj;simp only[VC,sR,km,Ě]
def Lx:yR [.int i] s=ok (.bl (lO i)) s:=by
 refine acp ?_;unfold yR;simp only[VC,sR,lO,Ě]
def j7:aS (.str x) (.str y) s=ok (.bl (decide (x=y))) s:=by
 show ok (D.bl (x==y)) s=_
 by_cases e:x=y<;>simp[e]
def Km:¬ (ð "made"=ð "mended"):=by decide +kernel
def vF:¬ (ð "mended"=ð "made"):=by decide +kernel
def Va (hf:lP p):yF [p.d] s=ok (.bl (gv p)) s:=by
 refine acp ?_;unfold yF;have key:∀(a b c d:D),p.d=.tup [a,b,c,d]->cL [p.d,.ty "tuple"] s=ok (.bl true) s/\cz [p.d] s=ok (.int 4) s:=λa b c d e=>by rw[e];exact⟨rfl,rfl⟩
 cases p with
 |made m d h l =>
  obtain⟨Z,Y⟩:=key _ _ _ _ rfl;simp only[VC];refine aco Z ?_;simp only[VC,Ā,Ä,ê];refine aco Y ?_;simp only[VC];simp only[VC,ě,Ā,Ä,ê,Pg.d];refine aco Cp ?_;simp only[VC,gv]
  cases km m with
  |false=>simp[oP,ia,gL,fT]
  |true =>
   simp only[Ā,Ä,ê,û];refine aco Lx ?_;simp only[VC]
   cases lO d with
   |false=>simp[oP,ia,gL,fT]
   |true =>
    simp only[VC,Ā,Ä,ê,û];refine aco j7 ?_;simp only[VC,ĥ,ô];exact aco (Jy hf.1 hf.2) ⟨rfl,rfl⟩
 |aU m d k =>
  obtain⟨Z,Y⟩:=key _ _ _ _ rfl;simp only[VC];refine aco Z ?_;simp only[VC,Ā,Ä,ê];refine aco Y ?_;simp only[VC];simp only[VC,ě,Ā,Ä,ê,Pg.d];refine aco Cp ?_;simp only[VC,gv]
  cases km m with
  |false=>simp[oP,ia,gL,fT]
  |true =>
   simp only[Ā,Ä,ê,û];refine aco Lx ?_;simp only[VC]
   cases lO d with
   |false=>simp[oP,ia,gL,fT]
   |true =>
    simp only[VC,Ā,Ä,ê,û];refine aco j7 ?_;simp only[VC,è vF,Ä,ê];refine aco j7 ?_;simp only[VC,ĥ,ô];exact aco Kl ⟨rfl,rfl⟩
abbrev bD (ps:List Pg):D:=.tup (ps.map Pg.d)
def WR:gC p.d q.d s=ok (.bl (fW.lt p q)) s:=by
 unfold gC;rw[ß (by rw[qv _ (lu p),qv _ (lu q)];simp only[ĵ,û,È];have:=DE p;omega),Mi];rfl
noncomputable def Am (ps:List Pg):Bool:=(ps.zip (ps.drop 1)).all λp=>fW.lt p.1 p.2
def S9 (xs ys:List Pg):cT (xs.map Pg.d) (ys.map Pg.d)=(xs.zip ys).map λp=>D.tup [p.1.d,p.2.d]:=by
 unfold cT;rw[List.zip_map,ĉ];rfl
def Qe (hl:ps.length<=1000):pZ [bD ps] s=ok (.bl (Am ps)) s:=by
 refine acp ?_;unfold pZ;simp only[VC];have Z:rn (ae (aa 0) (ae (kR (aa 0) (kH (eC (.int 1))) kQ) ah)) [some (bD ps)] s=ok (cT (ps.map Pg.d) ((ps.drop 1).map Pg.d)) s:=by
  refine Jv (acp ?_);simp only[VC];rw[sY (i:=1) rfl]
  try simp only[VC]
  refine aco (show kh (bD ps) (some 1) none s=ok (.tup (cutD (ps.map Pg.d) (some 1) none)) s from rfl) ⟨?_,rfl⟩;rw[Jt,List.map_drop]
 refine aco Z ⟨le_size (by rw[qb];simp only[Ã];omega),?_⟩;rw[S9];refine aco (comp_map (λp:Pg×Pg=>D.tup [p.1.d,p.2.d]) (λ_=>true) (λp=>.bl (fW.lt p.1 p.2)) _ λp _=>⟨[some p.1.d,some p.2.d],rfl,rfl,λ_=>?_⟩) ?_
 ·refine acp ?_
  simp only[VC,WR,Ě]
 rw[filter_tt];exact aco (oG _ _ _) ⟨rfl,rfl⟩
def lA (ps:List Pg):Bool:=decide (ps.length<=24)&&(ps.all gv&&Am ps)
def Vb (hl:ps.length<=1000) (hf:∀p∈ps,lP p):yC [bD ps] s=ok (.bl (lA ps)) s:=by
 refine acp ?_;unfold yC lA;simp only[VC];refine aco (show cL [bD ps,.ty "tuple"] s=ok (.bl true) s from rfl) ?_;simp only[VC,ô];refine aco (show cz [bD ps] s=ok (.int ps.length) s from by show ok (D.int (ps.map Pg.d).length) s=_;rw[Ã]) ?_;simp only[VC];by_cases h:ps.length<=24
 ·have Z:(ps.length:Int)<=24:=by omega
  simp only[h,Z,ĥ,ô,û];refine aco (iE rfl) ⟨le_size (by rw[Ã];omega),?_⟩;refine aco (comp_map Pg.d (λ_=>true) (λp=>.bl (gv p)) ps λp Y=>⟨[some p.d],rfl,rfl,λ_=>?_⟩) ?_
  ·refine acp ?_
   simp only[VC,Va (hf p Y),Ě]
  ·rw[filter_tt]
   refine aco (oG _ _ _) ?_;simp only[VC]
   cases ps.all gv with
   |false=>simp
   |true =>
    simp only[ô,û];exact aco (Qe hl) ⟨rfl,rfl⟩
 ·have Z:¬ (ps.length:Int)<=24:=by omega
  simp[h,Z]
noncomputable def _root_.TK.Pg.day:Pg->Int
 | .made _ d _ _=>d
 | .aU _ d _=>d
noncomputable def mz (m k:Int):Pg->Bool
 | .made Z _ h _=>decide (Z=m)&&decide (k∈h)
 |_=>false
noncomputable def mB (m k:Int):Pg->Bool
 | .made Z _ _ l=>decide (Z=m)&&decide (k∈l)
 |_=>false
noncomputable def jE (m k:Int):Pg->Bool
 | .aU Z _ Y=>decide (Z=m)&&decide (Y=k)
 |_=>false
def shown (ps:List Pg) (m k:Int):List Int:=(ps.filter (mz m k)).map Pg.day
def eJ (ps:List Pg) (m k:Int):List Int:=(ps.filter (mB m k)).map Pg.day
def cg (ps:List Pg) (m k:Int):List Int:=(ps.filter (jE m k)).map Pg.day
noncomputable abbrev lI (ns:List Int):D:=.lst (ns.map D.int)
def gm (a b c d:D) (s:ag):aj (.tup [a,b,c,d]) (.int 0) s=ok a s/\aj (.tup [a,b,c,d]) (.int 1) s=ok b s/\aj (.tup [a,b,c,d]) (.int 2) s=ok c s/\aj (.tup [a,b,c,d]) (.int 3) s=ok d s:=⟨rfl,rfl,rfl,rfl⟩
def sC (a b:D) (s:ag):aj (.tup [a,b]) (.int 0) s=ok a s/\aj (.tup [a,b]) (.int 1) s=ok b s:=⟨rfl,rfl⟩
def sD (p:Pg) (s:ag):aj p.d (.int 1) s=ok (.int (match p with | .made m _ _ _=>m | .aU m _ _=>m)) s/\aj p.d (.int 2) s=ok (.int p.day) s:=by cases p<;>exact⟨rfl,rfl⟩
def zm (hl:ps.length<=1000):mH [bD ps,.int m,.int k,.int 0] s=ok (lI (shown ps m k)) s/\mH [bD ps,.int m,.int k,.int 1] s=ok (lI (eJ ps m k)) s:=by
 constructor
 ·refine acp ?_
  unfold mH;simp only[VC];refine aco (iE rfl) ⟨le_size (by rw[Ã];omega),?_⟩;refine aco (comp_map Pg.d (mz m k) (λp=>.int p.day) ps λp Y=>⟨[some p.d,some (.int m),some (.int k),some (.int 0)],rfl,?_,λ_=>?_⟩) ?_
  ·refine acp ?_
   cases p with
   |made Z d h l =>
    simp only[VC,Pg.d];rw[(gm _ _ _ _ s).1];simp only[VC,j7,ĥ,ô];rw[(gm _ _ _ _ s).2.1];simp only[VC,mz];by_cases e:Z=m
    ·simp only[e,ě,ô,ĥ,û]
     rw[(gm _ _ _ _ s).2.2.2];simp only[VC];rw[(sC _ _ s).1];simp only[VC];refine aco (oF (ns:=h)) ?_;simp only[VC,Ě]
    ·simp[e]
   |aU Z d X =>
    simp only[VC,Pg.d];rw[(gm _ _ _ _ s).1];simp only[VC,j7,è vF,Ä,ê,mz,Ě]
  ·refine acp ?_
   simp only[VC,(sD p s).2,Ě]
  ·simp only[shown,lI,ĉ,ŗ,Ě]
 ·refine acp ?_
  unfold mH;simp only[VC];refine aco (iE rfl) ⟨le_size (by rw[Ã];omega),?_⟩;refine aco (comp_map Pg.d (mB m k) (λp=>.int p.day) ps λp Y=>⟨[some p.d,some (.int m),some (.int k),some (.int 1)],rfl,?_,λ_=>?_⟩) ?_
  ·refine acp ?_
   cases p with
   |made Z d h l =>
    simp only[VC,Pg.d];rw[(gm _ _ _ _ s).1];simp only[VC,j7,ĥ,ô];rw[(gm _ _ _ _ s).2.1];simp only[VC,mB];by_cases e:Z=m
    ·simp only[e,ě,ô,ĥ,û]
     rw[(gm _ _ _ _ s).2.2.2];simp only[VC];rw[(sC _ _ s).2];simp only[VC];refine aco (oF (ns:=l)) ?_;simp only[VC,Ě]
    ·simp[e]
   |aU Z d X =>
    simp only[VC,Pg.d];rw[(gm _ _ _ _ s).1];simp only[VC,j7,è vF,Ä,ê,mB,Ě]
  ·refine acp ?_
   simp only[VC,(sD p s).2,Ě]
  ·simp only[eJ,lI,ĉ,ŗ,Ě]
def zo (hl:ps.length<=1000):pX [bD ps,.int m,.int k] s=ok (lI (cg ps m k)) s:=by
 refine acp ?_;unfold pX;simp only[VC];refine aco (iE rfl) ⟨le_size (by rw[Ã];omega),?_⟩;refine aco (comp_map Pg.d (jE m k) (λp=>.int p.day) ps λp X=>⟨[some p.d,some (.int m),some (.int k)],rfl,?_,λ_=>?_⟩) ?_
 ·refine acp ?_
  cases p with
  |aU Z d Y =>
   simp only[VC,Pg.d];rw[(gm _ _ _ _ s).1];simp only[VC,j7,ĥ,ô];rw[(gm _ _ _ _ s).2.1];simp only[VC,jE];by_cases e:Z=m
   ·simp only[e,ě,ô,ĥ,û]
    rw[(gm _ _ _ _ s).2.2.2];simp only[VC]
    by_cases e:Y=k<;>simp[e]
   ·simp[e]
  |made Z d h l =>
   simp only[VC,Pg.d];rw[(gm _ _ _ _ s).1];simp only[VC,j7,è Km,Ä,ê,jE,Ě]
 ·refine acp ?_
  simp only[VC,(sD p s).2,Ě]
 ·simp only[cg,lI,ĉ,ŗ,Ě]
def fM (h:n<=1000):n<=Õ:=le_size (by omega)
def t6:cD (.int x) (lI ns) s=ok (.bl (decide (x∈ns))) s:=by
 show cD (.int x) (mD ns) s=_;exact oF
def qf:dU (.int x) (lI ns) s=ok (.bl (!decide (x∈ns))) s:=by
 show dU (.int x) (mD ns) s=_;exact Qd
noncomputable def lQ (ds:List Int) (a b:Int):Bool:=ds.any λx=>decide (a<x)&&decide (x<=b)
def ID (hl:ds.length<=1000):va [lI ds,.int a,.int b] s=ok (.bl (lQ ds a b)) s:=by
 refine acp ?_;unfold va;simp only[VC];refine aco (fy rfl) ⟨fM (by rw[Ã];omega),?_⟩;refine aco (fX (λ_=>true) (λx=>.bl (decide (a<x)&&decide (x<=b))) ds λn _=>⟨[some (.int n),some (.int a),some (.int b)],rfl,rfl,λ_=>?_⟩) ?_
 ·refine acp ?_
  simp only[VC]
  by_cases e:a<n<;>simp[e,aP,tQ,bH,bG]
 ·rw[filter_tt]
  exact aco (Jw _ _ _) ⟨rfl,rfl⟩
def pV (ps:List Pg) (m k d l:Int):Bool:=(decide (l∈eJ ps m k)||(decide (l=d)&&decide (d∈cg ps m k)))&&!lQ (cg ps m k) d l
noncomputable def qH (d:Int):List Int:=(Ø (31-d).toNat).map λi:Nat=>d+(i:Int)
def mO (ps:List Pg) (m k:Int):List (Int×Int):=(eY (shown ps m k)).flatMap λd=>((qH d).filter (pV ps m k d)).map λl=>(d,l)
def vB {ps:List Pg} {f:Pg->Bool}:((ps.filter f).map Pg.day).length<=ps.length:=by rw[Ã];exact Ċ _ _
theorem qg {α β:Type} {f:α->List β} {b:Nat}:∀{l:List α},(∀x∈l,(f x).length<=b)->(l.flatMap f).length<=l.length*b
 | [],_=>by simp
 |x::l,h=>by
  rw[List.flatMap_cons,é,ù,Nat.succ_mul];have Y:=h x Î;have X:=qg (l:=l) λy Z=>h y (Ï _ Z);omega
def HU (d:Int) (h:0<=d):(qH d).length<=31:=by unfold qH;rw[Ã,İ];omega
structure rF (ps:List Pg):Prop where
 len:ps.length<=24
 lo:∀p∈ps,0<=p.day/\p.day<31
def rF.of (h:rF ps) (hx:x∈(ps.filter f).map Pg.day):0<=x/\x<31:=by
 obtain⟨p,Z,rfl⟩:=ó.mp hx;exact h.lo p (ü.mp Z).1
def Qf {ps:List Pg} {m k:Int} {s:ag} (h:rF ps):vq [bD ps,.int m,.int k] s=ok (.lst ((mO ps m k).map λp=>D.tup [.int p.1,.int p.2])) s:=by
 have Y:=h.len;have S:(shown ps m k).length<=24:=Û vB Y;have R:(eJ ps m k).length<=24:=Û vB Y;have Q:(cg ps m k).length<=24:=Û vB Y;refine acp ?_;unfold vq;simp only[VC];refine aco (zm (by omega)).2 ?_;refine aco (zo (by omega)) ?_;rw[Cn];have hs:aR (e1 ka (ax mH (ae (aa 0) (ae (aa 1) (ae (aa 2) (ae (eC (.int (0))) ah)))))) [some (bD ps),some (.int m),some (.int k),some (lI (eJ ps m k)),some (lI (cg ps m k))] s=ok ((eY (shown ps m k)).map D.int) s:=by
  refine fy (acp ?_);simp only[VC];refine aco (zm (by omega)).1 ?_;refine aco (show ka (lI (shown ps m k)) s=ok (lI (eY (shown ps m k))) s from ?_) ⟨rfl,rfl⟩;unfold ka;simp only[BP];rw[ß (by have:=BQ (shown ps m k);rw[È];omega)]
 refine aco hs ?_;have day:∀d∈eY (shown ps m k),0<=d/\d<31:=λd Z=>h.of (nA.mp Z);refine aco (qG D.int (λ_=>true) (λd=>((qH d).filter (pV ps m k d)).map λl=>D.tup [.int d,.int l]) _ λd Z=>⟨[some (.int d),none,some (lI (eJ ps m k)),some (lI (cg ps m k))],rfl,rfl,λ_=>?_⟩) ?_
 ·have Z:=day d Z
  unfold more;rw[DJ (i:=d) (j:=31) rfl (by omega) (by omega) (by omega) (by omega),dW];have T:bS d (31-d).toNat=(qH d).map D.int:=by unfold qH;rw[tj,ĉ];rfl
  rw[T];rw[qG D.int (pV ps m k d) (λl=>[D.tup [.int d,.int l]]) (qH d) λl Y=>⟨[some (.int d),some (.int l),some (lI (eJ ps m k)),some (lI (cg ps m k))],rfl,?_,λ_=>?_⟩]
  ·rw[<- ab3]
  ·refine acp ?_
   simp only[VC,t6];unfold pV;have X:=ID (ds:=cg ps m k) (a:=d) (b:=l) (s:=s) (by omega);by_cases W:l∈eJ ps m k
   ·simp only[VC,W,ĥ,ô,Bool.true_or,û]
    exact aco X (by simp only[VC,Ě])
   ·simp only[W,aby,Ä,ê,ς]
    by_cases V:l=d
    ·subst V
     simp only[VC,ě,ô,ĥ,û];by_cases U:l∈cg ps m k
     ·simp only[U,ĥ,ô,û]
      exact aco X (by simp only[VC,Ě])
     ·simp[U]
    ·simp[V]
  ·refine acp ?_
   unfold emit;rw[bb];simp only[VC];exact⟨by decide,trivial⟩
 ·rw[filter_tt]
  refine⟨?_,?_,rfl⟩
  ·refine fM (Û (qg (b:=31) λd Z=>?_) ?_)
   ·rw[Ã]
    exact Û (Ċ _ _) (HU d (day d Z).1)
   ·have:=BQ (shown ps m k)
    have:(eY (shown ps m k)).length<=24:=by omega
    omega
  ·unfold mO
   simp only[List.map_flatMap,ĉ,ŗ]
noncomputable def m4:List Int:=(Ø 4).map λi:Nat=>(i:Int)
noncomputable def k8:List Int:=(Ø 8).map λi:Nat=>(i:Int)
def nR (ps:List Pg):List (Int×Int×Int×Int):=m4.flatMap λm=>k8.flatMap λk=>(mO ps m k).map λp=>(m,k,p.1,p.2)
noncomputable def fD (p:Int×Int×Int×Int):D:=.tup [.int p.1,.int p.2.1,.int p.2.2.1,.int p.2.2.2]
def Ro {ps:List Pg} (h:rF ps) (m k:Int):(mO ps m k).length<=744:=by
 have Y:(shown ps m k).length<=24:=Û vB h.len;have:=BQ (shown ps m k);refine Û (qg (b:=31) λd Z=>?_) (by omega);rw[Ã];exact Û (Ċ _ _) (HU d (h.of (nA.mp Z)).1)
def Rp {ps:List Pg} {s:ag} (h:rF ps):yy [bD ps] s=ok (.lst ((nR ps).map fD)) s:=by
 refine acp ?_;unfold yy;simp only[iQ,gL,ia,Ö,Ħ,ĕ,ķ,ù,Ę,Ñ,true_and,Nat.reduceSub,Nat.reduceAdd];rw[Cn];refine aco (dJ (n:=4) rfl (by decide)) ?_;have Z:bS 0 4=m4.map D.int:=rfl;have Y:bS 0 8=k8.map D.int:=rfl;rw[Z];refine aco (qG D.int (λ_=>true) (λm=>k8.flatMap λk=>(mO ps m k).map λp=>fD (m,k,p.1,p.2)) m4 λm X=>⟨[some (.int m),none,none,none,some (bD ps)],rfl,rfl,λ_=>?_⟩) ?_
 ·unfold more
  rw[dJ (n:=8) rfl (by decide),dW,Y];rw[qG D.int (λ_=>true) (λk=>(mO ps m k).map λp=>fD (m,k,p.1,p.2)) k8 λk W=>⟨[some (.int m),some (.int k),none,none,some (bD ps)],rfl,rfl,λ_=>?_⟩]
  ·rw[filter_tt]
  ·have hi:aR (ax vq (ae (aa 4) (ae (aa 0) (ae (aa 1) ah)))) [some (.int m),some (.int k),none,none,some (bD ps)] s=ok ((mO ps m k).map λp=>D.tup [.int p.1,.int p.2]) s:=by
    refine fy (acp ?_);simp only[VC];exact aco (Qf h) ⟨rfl,rfl⟩
   rw[hi,dW];rw[qG (λp:Int×Int=>D.tup [.int p.1,.int p.2]) (λ_=>true) (λp=>[fD (m,k,p.1,p.2)]) (mO ps m k) λp V=>⟨[some (.int m),some (.int k),some (.int p.1),some (.int p.2),some (bD ps)],rfl,rfl,λ_=>?_⟩]
   ·rw[filter_tt,<- ab3]
   ·refine acp ?_
    unfold emit;rw[bb];simp only[VC];exact⟨by decide,rfl,trivial⟩
 ·rw[filter_tt]
  refine⟨?_,?_,rfl⟩
  ·refine le_size (Û (qg (b:=8*744) λm X=>?_) (by decide))
   refine Û (qg (b:=744) λk W=>?_) (by decide);rw[Ã];exact Ro h m k
  ·unfold nR
   simp only[List.map_flatMap,ĉ,ŗ]
def gw (ps:List Pg):Bool:=lA ps&&(nR ps).isEmpty
def IE (h:lA ps=true):rF ps:=by
 unfold lA at h;simp only[Ê,È,Ĕ] at h;refine⟨h.1,λp Z=>?_⟩;have:=h.2.1 p Z
 cases p<;>simp only[gv,lO,Ê,È] at this<;>exact this.1.2
def Vc (hl:ps.length<=1000) (hf:∀p∈ps,lP p):yG [bD ps] s=ok (.bl (gw ps)) s:=by
 refine acp ?_;unfold yG;simp only[VC];refine aco (Vb hl hf) ?_;simp only[VC];unfold gw
 cases h:lA ps with
 |false=>simp
 |true =>
  simp only[ô,û];unfold D9;simp only[VC,bb];refine aco (Rp (IE h)) ?_;refine aco (show truth (.lst ((nR ps).map fD)) s=ok (!((nR ps).map fD).isEmpty) s from rfl) ?_;simp only[aP];refine⟨?_,trivial⟩
  cases nR ps<;>rfl
def WS:m∈m4↔0<=m/\m<4:=by
 unfold m4;rw[ó];constructor
 ·rintro ⟨i,hi,rfl⟩
  have:=ñ.mp hi;omega
 ·rintro ⟨Z,Y⟩
  exact⟨m.toNat,ñ.mpr (by omega),by omega⟩
def zN:m∈k8↔0<=m/\m<8:=by
 unfold k8;rw[ó];constructor
 ·rintro ⟨i,hi,rfl⟩
  have:=ñ.mp hi;omega
 ·rintro ⟨Z,Y⟩
  exact⟨m.toNat,ñ.mpr (by omega),by omega⟩
def Ta (h:gw ps=true) (hm:0<=m/\m<4) (hk:0<=k/\k<8) (hd:d∈shown ps m k) (h1:d<=l) (h2:l<31):pV ps m k d l=false:=by
 unfold gw at h;rw[Ê,abA] at h
 cases Z:pV ps m k d l with
 |false=>rfl
 |true =>
  exfalso;have Y:(d,l)∈mO ps m k:=by
   refine abB.mpr ⟨d,nA.mpr hd,ó.mpr ⟨l,ü.mpr ⟨?_,Z⟩,rfl⟩⟩;exact ó.mpr ⟨(l-d).toNat,ñ.mpr (by omega),by omega⟩
  have:(m,k,d,l)∈nR ps:=abB.mpr ⟨m,WS.mpr hm,abB.mpr ⟨k,zN.mpr hk,ó.mpr ⟨(d,l),Y,rfl⟩⟩⟩;rw[h.2] at this;cases this
theorem Ko:∀{ns:List Int},rise ns=true->ns.Pairwise (· < ·)
 | [],_=>.nil
 | [a],_=>by simp
 |a::b::r,h=>by
  simp only[rise,Ê,È] at h;have ih:=Ko h.2;refine ą.mpr ⟨λx hx=>?_,ih⟩
  rcases Ó.mp hx with rfl|hx
  ·exact h.1
  ·have:=(ą.mp ih).1 x hx
   omega
def HV (h:ko ns=true):dR 8 ns:=by
 unfold ko at h;rw[Ê,Ĕ] at h;refine⟨λx Z=>?_,Ko h.2⟩;have:=h.1 x Z;unfold markB at this;simp only[Ê,È] at this;exact this
def yE (h:dR n ns) (hn:n<=8):ko ns=true:=by
 unfold ko;rw[Ê,Ĕ];refine⟨λx Z=>?_,U9 h.up⟩;have:=h.lo x Z;unfold markB;simp only[Ê,È];omega
theorem dR.filter (h:dR n ns) (p:Int->Bool):dR n (ns.filter p):=⟨λx Z=>h.lo x (ü.mp Z).1,h.up.filter p⟩
def Rq (hm:0<=m/\m<4) (hd:0<=d/\d<31) (hk:0<=k/\k<8):gv (.aU m d k)=true:=by
 simp only[gv,km,lO,markB,Ê,È];omega
def Rr (hm:0<=m/\m<4) (hd:0<=d/\d<31) (h1:dR n h) (h2:dR n l) (hn:n<=8) (ha:∀x∈h,x∉l):gv (.made m d h l)=true:=by
 simp only[gv,km,lO,Ê,È,kq,Ġ,abl];exact⟨⟨hm,hd⟩,yE h1 hn,yE h2 hn,ha⟩
def gn (W:Ć) (R:Pg->Prop) (s:ag) (j n:Nat):Prop:=∃Z:List Pg,s[j]?=some (.dT (Z.map λp=>(p.d,hs W p.d)))/\(Z.Nodup/\∀p∈Z,R p)/\Z.length<=n
def gn.lt (h:gn W R s j n):j<s.length:=by
 obtain⟨Z,e,_⟩:=h;exact(Å.mp e).1
def gn.ex (h:gn W R s j n) (x:Ex k s s') (hj:j≠k):gn W R s' j n:=by
 have Z:=h.lt;obtain⟨Y,e,r⟩:=h;exact⟨Y,(x.val j Z hj).trans e,r⟩
def gn.more (h:gn W R s j n) (hm:n<=m):gn W R s j m:=by
 obtain⟨Z,e,r,l⟩:=h;exact⟨Z,e,r,by omega⟩
def gn.app (h:gn W R s j n) (c:List Cell):gn W R (s++c) j n:=by
 have Z:=h.lt;obtain⟨Y,e,r⟩:=h;exact⟨Y,by rw[ã Z];exact e,r⟩
theorem gn.set (h:gn W R s j n) (hi:i≠j) (c:Cell):gn W R (s.set i c) j n:=by
 obtain⟨Z,e,r⟩:=h;exact⟨Z,by rw[Ý hi];exact e,r⟩
def gn.mono (h:gn W R s j n) (hR:∀p,R p->R' p):gn W R' s j n:=by
 obtain⟨Z,e,r,l⟩:=h;exact⟨Z,e,⟨r.1,λp Y=>hR p (r.2 p Y)⟩,l⟩
def Ex.sE (h:Ex k s s') (hj:s.length<=j) (c:Cell):Ex k s (s'.set j c) :=
 ⟨by rw[Ģ];exact h.len,λi hi Z=>by rw[Ý (by omega)];exact h.val i hi Z⟩
def ke (p:Pg):∃ks,p.d=.tup ks/\cU ks=true/\cv ks<=6:=by
 have Z:=lu p;have Y:=DE p;obtain⟨x,r,e⟩:=Jn p;rw[e] at Z Y;simp only[kd,dep] at Z Y;exact⟨_,e,Z,by omega⟩
def Ly (W:Ć) (ps:List Pg):(ps.map λp=>(p.d,hs W p.d)).all (keyOk W)=true:=by
 rw[List.all_map,Ĕ];intro p _;obtain⟨X,e,Z,Y⟩:=ke p;simp only[Function.comp,keyOk];rw[e];simp only[Z,à Y,ĥ,ĵ]
def WT (h:gn W R s j n) (hf:R p) (hn:n<1000):∃c,jT W (.ai j) p.d (.bl true) s=some (s.set j c)/\gn W R (s.set j c) j (n+1):=by
 have T:=h.lt;obtain⟨Z,e,X,len⟩:=h;obtain⟨Q,V,P,O⟩:=ke p;have S:=Ly W Z;generalize Y:(Z.map λp=>(p.d,hs W p.d))=U at e S;have K:U.length=Z.length:=by rw[<- Y,Ã]
 refine⟨.dT (TK.fR W U (.tup Q)),?_,?_⟩
 ·rw[V]
  unfold jT;simp only[e];rw[ß];rw[P,à O,S,à (É (show U.length<1000 by omega) (le_size (by decide)))];rfl
 ·unfold TK.fR
  split
  ·exact⟨Z,by rw[Y];exact ç T,X,by omega⟩
  ·rename_i N
   refine⟨Z++[p],?_,⟨aax.mpr ⟨X.1,by simp,λa M b L=>?_⟩,λq hq=>?_⟩,by simp;omega⟩
   ·rw[ç T,õ,Y]
    simp only[Ö,Ħ,V]
   ·rw[å.mp L]
    rintro rfl;refine N (ŏ.mpr ⟨(a.d,hs W a.d),?_,?_⟩)
    ·rw[<- Y];exact ó.mpr ⟨a,M,rfl⟩
    ·rw[<- V];exact(tH _ _ (lu a) (lu a)).mpr rfl
   ·rcases ä.mp hq with hq|hq
    ·exact X.2 q hq
    ·rw[å.mp hq];exact hf
def C1:Wp (mT W f fo fi env s) QF=Wp (f env s) λx s=>Wp (fo env s) λd s=>Wp (fi env s) λn s=>∃s',jT W d n x s=some s'/\QF (.nx env) s':=by
 unfold mT;simp only[bb];congr 1;funext x s;congr 1;funext d s;congr 1;funext n s
 cases jT W d n x s with
 |none=>exact propext ⟨λ⟨_,_,e,_⟩=>(by cases e),λ⟨_,e,_⟩=>(by cases e)⟩
 |some s'=>exact propext ⟨λh=>⟨s',rfl,by simpa only [aP] using h⟩,λ⟨t,e,h⟩=>by cases e;simpa only [aP] using h⟩
def Vd:Wp (wo env s) Q=Q (.ai s.length) (s++[.dT []]):=by unfold wo;rw[aP]
theorem Kp:∀{ps:List Pg},ps.Pairwise (λa b=>fW.lt a b=true)->Am ps=true
 | [],_=>rfl
 | [a],_=>rfl
 |a::b::r,h=>by
  obtain⟨Z,Y⟩:=ą.mp h;have ih:=Kp Y;unfold Am at ih |-;simp only[List.drop_succ_cons,ab9,ġ,List.all_cons,Ê] at ih |-;exact⟨Z b Î,ih⟩
def Tc (h:ps.Nodup):(ST.kC fW ps).Pairwise λa b=>fW.lt a b=true:=by
 have Y:=ST.Jl (O:=fW) ps;have X:(ST.kC fW ps).Nodup:=(ST.vi ps).nodup_iff.mpr h;refine(Y.and X).imp λ{a b} Z=>?_
 cases W:fW.lt a b with
 |true=>rfl
 |false=>exact(Z.2 (fW.xW a b W Z.1)).elim
def Wp.X8 (h:Wp (fa env s) λds s=>∃x y z,ds=[x,y,z]/\QF (.nx (((env.set i (some x)).set j (some y)).set k (some z))) s):Wp (AK i j k fa env s) QF:=by
 unfold AK;refine Wp.ao (h.mono λds s ⟨x,y,z,e,q⟩=>?_);subst e;exact Wp.ok q
abbrev PGB (p:Pg):Prop:=gv p=true
structure Laid (ps:List Pg):Prop where
 pg:∀p∈ps,gv p=true
 up:ps.Pairwise λa b=>fW.lt a b=true
theorem Laid.lA (h:Laid ps) (hl:ps.length<=24):lA ps=true:=by
 unfold DI.lA;rw[à hl,Ĕ.mpr h.pg,Kp h.up];rfl
def Laid.sub (h:Laid ps) (hs:qs.Sublist ps):Laid qs:=⟨λp Z=>h.pg p (hs.subset Z),h.up.sublist hs⟩
def jn (s:ag) (j n:Nat):Prop:=∃Z:List Int,s[j]?=some (.lst (Z.map D.int))/\Z.length<=n
def jn.lt (h:jn s j n):j<s.length:=by
 obtain⟨Z,e,_⟩:=h;exact(Å.mp e).1
def jn.ex (h:jn s j n) (x:Ex k s s') (hj:j≠k):jn s' j n:=by
 have Z:=h.lt;obtain⟨Y,e,r⟩:=h;exact⟨Y,(x.val j Z hj).trans e,r⟩
theorem jn.set (h:jn s j n) (hi:i≠j) (c:Cell):jn (s.set i c) j n:=by
 obtain⟨Z,e,r⟩:=h;exact⟨Z,by rw[Ý hi];exact e,r⟩
def jn.app (h:jn s j n) (c:List Cell):jn (s++c) j n:=by
 have Z:=h.lt;obtain⟨Y,e,r⟩:=h;exact⟨Y,by rw[ã Z];exact e,r⟩
structure Lf (md:List Int) (b:Bool) (n:Nat) (ns:List Int):Prop where
 len:ns.length<=n
 lo:∀d∈ns,0<=d/\d<n/\d∉md
 on:∀d∈ns,d+1<n->d+1∉md->d+1∈ns
 la:0<n->(n:Int)-1∈ns->b=true
def Lf.put (h:Lf md b n ns) (hn:(n:Int)∉md):Lf md true (n+1) (ns++[(n:Int)]):=by
 refine⟨by rw[é,abt];have:=h.len;omega,λd hd=>?_,λd hd Z Y=>?_,λ_ _=>rfl⟩
 ·rcases ä.mp hd with hd|hd
  ·have:=h.lo d hd
   exact⟨this.1,by omega,this.2.2⟩
  ·rw[å.mp hd]
   exact⟨by omega,by omega,hn⟩
 ·rcases ä.mp hd with hd|hd
  ·by_cases e:d+1=n
   ·exact ä.mpr (.inr (å.mpr e))
   ·exact ä.mpr (.inl (h.on d hd (by omega) Y))
  ·rw[å.mp hd] at Z
   omega
def Lf.pass (h:Lf md b n ns) (hn:b=true->(n:Int)∈md):Lf md false (n+1) ns:=by
 refine⟨by have:=h.len;omega,λd Z=>?_,λd Z X Y=>?_,λ_ Z=>?_⟩
 ·have:=h.lo d Z
  exact⟨this.1,by omega,this.2.2⟩
 ·by_cases e:d+1=n
  ·exfalso
   have W:=(h.lo d Z).1;have:=h.la (by omega) (by rw[show (n:Int)-1=d by omega];exact Z);exact Y (by rw[e];exact hn this)
  ·exact h.on d Z (by omega) Y
 ·have:=h.lo _ Z
  omega
def IF {j:Nat} {x:Int} {ns:List Int} (e:s[j]?=some (.lst (ns.map D.int))):dU (.int x) (.ai j) s=ok (.bl (!decide (x∈ns))) s:=by
 have Z:dU (.int x) (.ai j) s=dU (.int x) (lI ns) s:=by simp only[dU,oV,res,e]
 exact Z.trans qf
def Kq (e:s[j]?=some (.lst (ns.map D.int))) (hn:ns.length<1000):iU (.ai j) s=true/\iT (.ai j) (.int x) s=ok .au (s.set j (.lst ((ns++[x]).map D.int))):=by
 refine⟨by simp only[iU,e],?_⟩;unfold iT;simp only[e];rw[ß (by rw[È,Ã];exact É hn (le_size (by decide)))];simp
def Rt {k m:Nat} {md:List Int} (h:bP s k) (hm:s[m]?=some (.lst (md.map D.int))) (NM:m≠k):Wp (sT [.ai k,.ai m] s) λd s'=>∃(ds:List Int) (b:Bool),d=lI ds/\Lf md b 31 ds/\bP s' k/\Ex k s s':=by
 unfold sT;rw[iQ];refine⟨rfl,?_⟩;rw[eU];refine Wp.X8 ?_
 try simp only[VC]
 refine(gM h (by decide) (by decide)).mono λd t1 F=>?_;obtain⟨t,rfl,r,q,I,e1⟩:=F
 try simp only[VC]
 refine⟨by decide,?_⟩;have Q:t1.length≠k:=by have:=I.lt;omega
 refine(gM (I.app _) (by decide) (by decide)).mono λd H hd2=>?_;obtain⟨T,rfl,p,o,E,e2⟩:=hd2
 try simp only[VC]
 refine⟨_,_,_,rfl,?_⟩
 try simp only[VC]
 have G:Ex k s H:=e1.trans ((Ex.app k t1 _).trans e2);have C:H[t1.length]?=some (.lst (([]:List Int).map D.int)):=(e2.val t1.length (by simp) Q).trans (by simp);have X:s.length<=t1.length:=e1.len;refine aco (dJ (n:=31) rfl (by decide)) ?_;have L:=(Å.mp hm).1;have K:m≠t1.length:=by omega
 refine Wp.gE (λi env s'=>i<=31->∃b W Y,env=[some (.ai k),some (.ai m),some (.bl b),some (.ai t1.length),some (.int (2+T)),W]/\bP s' k/\s'[t1.length]?=some (.lst (Y.map D.int))/\Lf md b i Y/\s'[m]?=some (.lst (md.map D.int))/\Ex k s s') _ (λ_=>⟨_,_,[],rfl,E,C,⟨acr _,by simp,by simp,by simp⟩,(G.val m L NM).trans hm,G⟩) (λi d env s' P O=>?_) (λenv s' O=>?_)
 ·rw[fZ] at P
  split at P
  ·rename_i hi
   cases P;obtain⟨b,W,Y,rfl,g1,g2,gl,g3,N⟩:=O (by omega);refine⟨_,rfl,?_⟩;simp only[VC,Ū];have fin:∀(c:Bool) (Z:ag),(c=true->(i:Int)∉md)->(c=false->b=true->(i:Int)∈md)->bP Z k->Z[t1.length]?=some (.lst (Y.map D.int))->Z[m]?=some (.lst (md.map D.int))->Ex k s Z ->
     if c=true then iU (.ai t1.length) Z=true/\Wp (iT (.ai t1.length) (.int (i:Int)) Z) λx M=>i+1<=31->∃b W Y,([some (.ai k),some (.ai m),some (.bl c),some (.ai t1.length),some (.int (2+T)),some (.int (i:Int))]:Env)=[some (.ai k),some (.ai m),some (.bl b),some (.ai t1.length),some (.int (2+T)),W]/\bP M k/\M[t1.length]?=some (.lst (Y.map D.int))/\Lf md b (i+1) Y/\M[m]?=some (.lst (md.map D.int))/\Ex k s M
     else i+1<=31->∃b W Y,([some (.ai k),some (.ai m),some (.bl c),some (.ai t1.length),some (.int (2+T)),some (.int (i:Int))]:Env)=[some (.ai k),some (.ai m),some (.bl b),some (.ai t1.length),some (.int (2+T)),W]/\bP Z k/\Z[t1.length]?=some (.lst (Y.map D.int))/\Lf md b (i+1) Y/\Z[m]?=some (.lst (md.map D.int))/\Ex k s Z:=λc Z B A S V U R=>by
    cases c with
    |true =>
     obtain⟨y,w⟩:=Kq (x:=(i:Int)) V (by have:=gl.len;omega);rw[ß rfl];exact⟨y,aco w λ_=>⟨_,_,_,rfl,S.set Q _,ç (Å.mp V).1,gl.put (B rfl),(Ý (œ K)).trans U,R.sE X _⟩⟩
    |false =>
     rw[æ Í];exact λ_=>⟨_,_,_,rfl,S,V,gl.pass (A rfl),U,R⟩
   cases b with
   |true =>
    simp only[ô];refine aco (IF (x:=(i:Int)) g3) ?_;simp only[jw];exact fin _ s' (by simp) (by simp) g1 g2 g3 N
   |false =>
    simp only[Ä,ê];refine(gM g1 (by omega) (by omega)).mono λd Z hd2=>?_;obtain⟨v,rfl,_,_,S,J⟩:=hd2;have V:=(J.val _ (Å.mp g2).1 Q).trans g2;have U:=(J.val _ (Å.mp g3).1 NM).trans g3;have R:=N.trans J;simp only[qF,gK]
    cases (v==0) with
    |true =>
     simp only[ô];refine aco (IF (x:=(i:Int)) U) ?_;simp only[jw];exact fin _ Z (by simp) (λ_ z=>by cases z) S V U R
    |false =>
     simp only[Ä,ê,jw];exact fin false Z (λz=>by cases z) (λ_ z=>by cases z) S V U R
  ·cases P
 ·rw[bX] at O
  obtain⟨b,W,Y,rfl,g1,u,gl,g3,N⟩:=O (acr _);simp only[VC];refine aco (show dw (.ai t1.length) s'=ok (lI Y) (s'.set t1.length .dead) from by simp only[dw,u]) ?_;exact⟨Y,b,rfl,gl,g1.set Q _,N.sE X _⟩
def jn.more (h:jn s j n) (hm:n<=m):jn s j m:=by
 obtain⟨Z,e,l⟩:=h;exact⟨Z,e,by omega⟩
def pW (s:ag) (j n:Nat):Prop:=∃ls:List (List Int),s[j]?=some (.lst (ls.map lI))/\ls.length=n
def pW.lt (h:pW s j n):j<s.length:=by
 obtain⟨Z,e,_⟩:=h;exact(Å.mp e).1
def pW.ex (h:pW s j n) (x:Ex k s s') (hj:j≠k):pW s' j n:=by
 have Z:=h.lt;obtain⟨Y,e,r⟩:=h;exact⟨Y,(x.val j Z hj).trans e,r⟩
theorem pW.set (h:pW s j n) (hi:i≠j) (c:Cell):pW (s.set i c) j n:=by
 obtain⟨Z,e,r⟩:=h;exact⟨Z,by rw[Ý hi];exact e,r⟩
structure BI (W:Ć) (k j b n q:Nat) (s0 s:ag):Prop where
 st:bP s k
 dict:gn W PGB s j n
 aU:∀i,i<8->jn s (b+i) q
 ext:Ex k s0 s
section
variable {W:Ć} {k j b n q:Nat} {s0 s:ag}
def BI.draw (h:BI W k j b n q s0 s) (hj:j≠k) (hb:∀i,i<8->b+i≠k) (x:Ex k s s') (hs:bP s' k):BI W k j b n q s0 s' :=
 ⟨hs,h.dict.ex x hj,λi hi=>(h.aU i hi).ex x (hb i hi),h.ext.trans x⟩
def BI.put (h:BI W k j b n q s0 s) (hj:j≠k) (mC:∀i,i<8->b+i≠j) (hl:s0.length<=j) (hf:gv p=true) (hn:n<1000):∃s',jT W (.ai j) p.d (.bl true) s=some s'/\BI W k j b (n+1) q s0 s'/\Ex j s s':=by
 obtain⟨c,e,d⟩:=WT h.dict hf hn;exact⟨_,e,⟨h.st.set hj c,d,λi hi=>(h.aU i hi).set (œ (mC i hi)) c,h.ext.sE hl c⟩,Ex.set j s c⟩
end
noncomputable def memD (b:Nat):D:=.lst ((Ø 8).map λi:Nat=>D.ai (b+i))
def Lz (h0:0<=i) (h1:i<8):aj (memD b) (.int i) s=ok (.ai (b+i.toNat)) s:=by
 obtain⟨x,e1,e2⟩:=tO (xs:=(Ø 8).map λi:Nat=>D.ai (b+i)) h0 (by simpa using h1);have:x=.ai (b+i.toNat):=by
  rw[á,č (by omega)] at e2;exact(acs e2).symm
 subst this;simp only[aj,iy,res,memD,e1,bE]
def Ve (q:Q (memD s.length) (s++Ñ 8 (.lst []))):Wp (aM 1 [] (bL (ae (eC (.int 8)) ah)) (gN 0) ba (eNew ah) env s) Q:=by
 rw[eG];refine aco (dJ (n:=8) rfl (by decide)) ⟨by rw[bX];exact le_size (by decide),?_⟩;refine qk (λi Z W=>Z=(Ø i).map (λx:Nat=>D.ai (s.length+x))/\W=s++Ñ i (.lst [])) (bS 0 8) ⟨rfl,by simp⟩ (λi d Z W Y X=>?_) λZ W X=>?_
 ·obtain⟨rfl,rfl⟩:=X
  rw[fZ] at Y;split at Y
  ·cases Y
   refine⟨[some (.int (0+i))],rfl,?_⟩;refine aco (show ba _ _=ok true _ from rfl) ?_;rw[ß rfl];simp only[tL,dI];refine⟨by decide,?_,?_⟩
   ·rw[ζ,õ]
    simp
   ·rw[List.replicate_succ',ę]
  ·cases Y
 ·rw[bX] at X
  obtain⟨rfl,rfl⟩:=X;exact q
def fv (W:Ć) (R T:Pg->Prop) (s:ag) (j n:Nat):Prop:=∃Z:List Pg,s[j]?=some (.dT (Z.map λp=>(p.d,hs W p.d)))/\(Z.Nodup/\(∀p∈Z,R p)/\∀p,T p->p∈Z)/\Z.length<=n
section
variable {W:Ć} {R T:Pg->Prop} {s s':ag} {j n k:Nat}
def fv.lt (h:fv W R T s j n):j<s.length:=by
 obtain⟨Z,e,_⟩:=h;exact(Å.mp e).1
def fv.ex (h:fv W R T s j n) (x:Ex k s s') (hj:j≠k):fv W R T s' j n:=by
 have Z:=h.lt;obtain⟨Y,e,r⟩:=h;exact⟨Y,(x.val j Z hj).trans e,r⟩
def fv.more (h:fv W R T s j n) (hm:n<=m):fv W R T s j m:=by
 obtain⟨Z,e,r,l⟩:=h;exact⟨Z,e,r,by omega⟩
theorem fv.set (h:fv W R T s j n) (hi:i≠j) (c:Cell):fv W R T (s.set i c) j n:=by
 obtain⟨Z,e,r⟩:=h;exact⟨Z,by rw[Ý hi];exact e,r⟩
def fv.mono (h:fv W R T s j n) (hR:∀p,R p->R' p) (hT:∀p,T' p->T p):fv W R' T' s j n:=by
 obtain⟨Y,e,r,l⟩:=h;exact⟨Y,e,⟨r.1,λp Z=>hR p (r.2.1 p Z),λp Z=>r.2.2 p (hT p Z)⟩,l⟩
def C2 (h:fv W R T s j n) (hf:R p) (hn:n<1000):∃c,jT W (.ai j) p.d (.bl true) s=some (s.set j c)/\fv W R (λq=>T q\/q=p) (s.set j c) j (n+1):=by
 have Q:=h.lt;obtain⟨Y,e,Z,len⟩:=h;obtain⟨N,V,M,L⟩:=ke p;have P:=Ly W Y;generalize X:(Y.map λp=>(p.d,hs W p.d))=U at e P;have E:U.length=Y.length:=by rw[<- X,Ã]
 refine⟨.dT (TK.fR W U (.tup N)),?_,?_⟩
 ·rw[V]
  unfold jT;simp only[e];rw[ß];rw[M,à L,P,à (É (show U.length<1000 by omega) (le_size (by decide)))];rfl
 ·unfold TK.fR
  split
  ·rename_i K
   obtain⟨D,O,J⟩:=ŏ.mp K;rw[<- X] at O;obtain⟨q,hq,rfl⟩:=ó.mp O;have eq:q=p:=Pg.Mh ((tH _ _ (lu q) (lu p)).mp (by rw[V];exact J));subst eq;exact⟨Y,by rw[X];exact ç Q,⟨Z.1,Z.2.1,λI S=>by
    rcases S with S|rfl
    ·exact Z.2.2 I S
    ·exact hq⟩,by omega⟩
  ·rename_i H
   refine⟨Y++[p],?_,⟨aax.mpr ⟨Z.1,by simp,λa G b F=>?_⟩,λq hq=>?_,λq hq=>?_⟩,by simp;omega⟩
   ·rw[ç Q,õ,X]
    simp only[Ö,Ħ,V]
   ·rw[å.mp F]
    rintro rfl;refine H (ŏ.mpr ⟨(a.d,hs W a.d),?_,?_⟩)
    ·rw[<- X];exact ó.mpr ⟨a,G,rfl⟩
    ·rw[<- V];exact(tH _ _ (lu a) (lu a)).mpr rfl
   ·rcases ä.mp hq with hq|hq
    ·exact Z.2.1 q hq
    ·rw[å.mp hq];exact hf
   ·rcases hq with hq|rfl
    ·exact ä.mpr (.inl (Z.2.2 q hq))
    ·exact ä.mpr (.inr (å.mpr rfl))
def fv.plain (h:fv W R T s j n):gn W R s j n:=by
 obtain⟨Z,e,r,l⟩:=h;exact⟨Z,e,⟨r.1,r.2.1⟩,l⟩
end
structure BJ (W:Ć) (k j b n:Nat) (s0 s:ag) (M:Nat->List Int) (R T:Pg->Prop):Prop where
 st:bP s k
 dict:fv W R T s j n
 aU:∀i,i<8->s[b+i]?=some (.lst ((M i).map D.int))
 ext:Ex k s0 s
section
variable {W:Ć} {k j b n:Nat} {s0 s:ag} {M:Nat->List Int} {R T:Pg->Prop}
def BJ.draw (h:BJ W k j b n s0 s M R T) (hj:j≠k) (hb:∀i,i<8->b+i≠k) (x:Ex k s s') (hs:bP s' k):BJ W k j b n s0 s' M R T :=
 ⟨hs,h.dict.ex x hj,λi hi=>(x.val _ (Å.mp (h.aU i hi)).1 (hb i hi)).trans (h.aU i hi),h.ext.trans x⟩
def BJ.put (h:BJ W k j b n s0 s M R T) (hj:j≠k) (mC:∀i,i<8->b+i≠j) (hl:s0.length<=j) (hf:R p) (hn:n<1000):∃s',jT W (.ai j) p.d (.bl true) s=some s'/\BJ W k j b (n+1) s0 s' M R (λq=>T q\/q=p)/\Ex j s s':=by
 obtain⟨c,e,d⟩:=C2 h.dict hf hn;exact⟨_,e,⟨h.st.set hj c,d,λi hi=>(Ý (œ (mC i hi))).trans (h.aU i hi),h.ext.sE hl c⟩,Ex.set j s c⟩
def Qg (h:BJ W k j b n s0 s M R T) (hj:j≠k) (hb:∀i,i<8->b+i≠k) (mC:∀i,i<8->b+i≠j) (hl:s0.length<=j) (hlb:s0.length<=b) (hn:n<1000) (hq:∀i,i<8->(M i).length<1000)
 (g:∀(x:Nat) (d:Int) (b8 b9:Option D) (s':ag),x<8->0<=d/\d<31->(∀{R':Pg->Prop},(∀p,R p->R' p)->R' (.aU mu d x)->BJ W k j b (n+1) s0 s' (λi=>if i=x then M i++[d] else M i) R' (λq=>T q\/q=.aU mu d x))->(∀t,t<s.length->t≠k->t≠j->(∀i,i<8->b+i≠t)->s'[t]?=s[t]?)->Q (.nx [some (.ai k),some (.ai j),some (.int mo),some (.int of),some (.int mu),some (memD b),a6,a7,b8,b9,uZ,u4]) s') :
  Wp ((aw (aK (bO (ae (ax cf (ae (aa 0) (ae (eC (.int 8)) ah))) (ae (ax cf (ae (aa 0) (ae (eC (.int 31)) ah))) ah))) (gT [(gN 8),(gN 9)])) (aw (fF (gP (e2 aj (aa 5) (aa 8)) (aa 9))) (TK.mT W (eC (.bl true)) (aa 1) (bO (ae (eC (.str "mended")) (ae (aa 4) (ae (aa 9) (ae (aa 8) ah)))))))) [some (.ai k),some (.ai j),some (.int mo),some (.int of),some (.int mu),some (memD b),a6,a7,a8,a9,uZ,u4] s) Q:=by
 simp only[VC];refine(gM h.st (by decide) (by decide)).mono λd t1 G=>?_;obtain⟨L,rfl,F,E,C,e1⟩:=G;refine(gM C (by decide) (by decide)).mono λd K hd2=>?_;obtain⟨Z,rfl,B,A,z,e2⟩:=hd2;refine⟨by decide,?_⟩
 try simp only[VC]
 refine aco (Lz F E) ?_;obtain⟨y,rfl⟩:∃y:Nat,L=y:=⟨L.toNat,by omega⟩;rw[ò];have Y:y<8:=by omega
 have X:=h.draw hj hb (e1.trans e2) z;obtain⟨w,v⟩:=Kq (x:=Z) (X.aU y Y) (hq y Y);refine⟨w,aco v ?_⟩;have u:=hb y Y;have U:=mC y Y
 have V:BJ W k j b n s0 (K.set (b+y) (.lst ((M y++[Z]).map D.int))) (λi=>if i=y then M i++[Z] else M i) R T:=⟨X.st.set u _,X.dict.set U _,λi hi=>by
  by_cases J:i=y
  ·subst J
   rw[ß rfl];exact ç (Å.mp (X.aU i hi)).1
  ·rw[æ J,Ý (by omega)]
   exact X.aU i hi,X.ext.sE (by omega) _⟩
 rw[C1];simp only[VC];refine⟨by decide,?_⟩;obtain⟨c,I,f⟩:=C2 (p:=.aU mu Z y) (R:=λ_=>True) (T:=T) (V.dict.mono (λ_ _=>trivial) λ_ h=>h) trivial hn;refine⟨_,I,g y Z _ _ _ Y ⟨B,A⟩ (λ{R'} r o=>?_) λt m l S P=>?_⟩
 ·obtain⟨H,O,N⟩:=C2 (p:=.aU mu Z y) (R:=R') (T:=T) (V.dict.mono r λ_ h=>h) o hn
  have eq:=acs (I.symm.trans O);rw[eq];exact⟨V.st.set hj H,N,λi hi=>(Ý (œ (mC i hi))).trans (V.aU i hi),V.ext.sE hl H⟩
 ·have e:s.length<=K.length:=(e1.trans e2).len
  rw[Ý (œ S),Ý (P _ Y),(e1.trans e2).val t m l]
end
section
variable (s l m:Nat->Bool)
noncomputable def pr:Nat->Bool
 |0=>s 0
 |d+1=>s (d+1)||(pr d&&!m (d+1))
noncomputable def iB:Nat->Bool
 |0=>false
 |n+1=>(iB n||l (30-n))&&!m (30-n)
def br (d:Nat):Bool:=iB l m (31-d)
def ab (d:Nat):Bool:=br l m (d+1)||(l d||m d)
def Mr (h:d<=30):br l m d=((br l m (d+1)||l d)&&!m d):=by
 unfold br;have e1:31-d=(30-d)+1:=by omega
 have e2:31-(d+1)=30-d:=by omega
 rw[e1,e2];simp only[iB];rw[show 30-(30-d)=d by omega]
def Ms:br l m 31=false:=rfl
noncomputable def f0 (d:Nat):Bool:=!s d
noncomputable def t0 (d:Nat):Bool:=!m d&&!l d
def fw:Nat->Bool×Bool
 |0=>(f0 s 0,t0 l m 0)
 |d+1=>(f0 s (d+1)&&((fw d).1||(m (d+1)&&((fw d).1||(fw d).2))),t0 l m (d+1)&&((fw d).1||(fw d).2))
def u5:Nat->Bool×Bool
 |0=>fw s l m 30
 |n+1=>let q:=u5 n;let a:=fw s l m (29-n);(a.1&&(q.2||q.1),a.2&&(q.2||(q.1&&m (30-n))))
def bw (d:Nat):Bool×Bool:=u5 s l m (30-d)
def vG:Prop:=∀d e,s d=true->d<=e->e<=30->(l e=true\/(e=d/\m d=true))->∃x,d<x/\x<=e/\m x=true
variable {s l m}
theorem DK:∀{d:Nat},pr s m d=true↔∃e,e<=d/\s e=true/\∀x,e<x->x<=d->m x=false
 |0=>by
  simp only[pr];constructor
  ·intro h;exact⟨0,acr _,h,λx Y Z=>by omega⟩
  ·rintro ⟨e,Y,Z,_⟩
   have:e=0:=by omega
   rw[<- this];exact Z
 |d+1=>by
  simp only[pr,aao,Ê,Ġ];rw[DK (d:=d)];constructor
  ·rintro (h | ⟨⟨e,Y,Z,X⟩,V⟩)
   ·exact⟨d+1,acr _,h,λx Y Z=>by omega⟩
   ·refine⟨e,by omega,Z,λx W U=>?_⟩
    by_cases T:x=d+1
    ·rw[T];exact V
    ·exact X x W (by omega)
  ·rintro ⟨e,Y,Z,X⟩
   by_cases S:e=d+1
   ·left;rw[<- S];exact Z
   ·right
    exact⟨⟨e,by omega,Z,λx W U=>X x W (by omega)⟩,X (d+1) (by omega) (acr _)⟩
def X9:∀{n:Nat},n<=31->br l m (31-n)=true->∃e,31-n<=e/\e<=30/\l e=true/\∀x,31-n<=x->x<=e->m x=false:=by
 intro n
 induction n with
 |zero=>intro _ h;rw[show 31-0=31 from rfl,Ms] at h;cases h
 |succ n ih =>
  intro T h;have e1:31-(n+1)+1=31-n:=by omega
  rw[Mr l m (by omega),e1,Ê,aao,Ġ] at h
  rcases h.1 with h1|h1
  ·obtain⟨e,S,Y,X,W⟩:=ih (by omega) h1
   refine⟨e,by omega,Y,X,λx V Z=>?_⟩;by_cases U:x=31-(n+1)
   ·rw[U];exact h.2
   ·exact W x (by omega) Z
  ·refine⟨31-(n+1),acr _,by omega,h1,λx V Z=>?_⟩
   rw[show x=31-(n+1) by omega];exact h.2
section
variable (N:vG s l m)
include N
def Em (hd:d<=30) (h:pr s m d=true):t0 l m d=true:=by
 obtain⟨e,T,Y,X⟩:=DK.mp h;unfold t0;rw[Ê,Ġ,Ġ];constructor
 ·cases Z:m d with
  |false=>rfl
  |true =>
   by_cases S:e=d
   ·subst S
    obtain⟨x,W,V,_⟩:=N e e Y (acr _) hd (.inr ⟨rfl,Z⟩);omega
   ·have:=X d (by omega) (acr _)
    rw[this] at Z;cases Z
 ·cases R:l d with
  |false=>rfl
  |true =>
   obtain⟨x,W,V,U⟩:=N e d Y T hd (.inl R);rw[X x W V] at U;cases U
theorem En:∀{d:Nat},d<=30->fw s l m d=(!pr s m d,t0 l m d)
 |0,_=>rfl
 |d+1,h=>by
  have ih:=En (d:=d) (by omega);have ne:(!pr s m d||t0 l m d)=true:=by
   cases Z:pr s m d with
   |false=>rfl
   |true=>rw[Em N (by omega) Z];rfl
  simp only[fw,ih,ne,ο,f0,pr]
  cases s (d+1)<;>cases pr s m d<;>cases m (d+1)<;>simp
def Mt (hd:d<=30) (h:pr s m d=true):ab l m d=false:=by
 have Z:=Em N hd h;unfold t0 at Z;rw[Ê,Ġ,Ġ] at Z;unfold ab;rw[Z.1,Z.2]
 cases X:br l m (d+1) with
 |false=>rfl
 |true =>
  exfalso;have W:br l m (31-(30-d))=true:=by rw[show 31-(30-d)=d+1 by omega];exact X
  obtain⟨e,M,V,U,T⟩:=X9 (by omega) W;obtain⟨c,L,S,R⟩:=DK.mp h;obtain⟨x,Q,P,Y⟩:=N c e S (by omega) V (.inl U);by_cases O:x<=d
  ·rw[R x Q O] at Y;cases Y
  ·rw[T x (by omega) P] at Y;cases Y
theorem LA:∀{n:Nat},n<=30->u5 s l m n=(!pr s m (30-n),!ab l m (30-n))
 |0,_=>by
  simp only[u5,En N (acr 30),Nat.sub_zero];congr 1;unfold ab t0;rw[Ms]
  cases m 30<;>cases l 30<;>rfl
 |n+1,h=>by
  have ih:=LA (n:=n) (by omega);have Y:29-n=30-(n+1):=by omega
  have X:30-n=(30-(n+1))+1:=by omega
  generalize R:30-(n+1)=d at *;have W:d+1<=30:=by omega
  simp only[u5,ih,Y,X,En N (show d<=30 by omega)];have V:=λz=>Mt N W z;have U:=λz=>Em N W z;have T:=Mr l m W;congr 1
  ·cases Z:pr s m (d+1) with
   |false=>simp
   |true=>rw[V Z];simp
  ·show (t0 l m d&&(!ab l m (d+1)||(!pr s m (d+1)&&m (d+1))))=!(br l m (d+1)||(l d||m d))
   rw[T];unfold ab
   cases S:m (d+1) with
   |false=>unfold t0;cases m d<;>cases l d<;>cases br l m (d+1+1)<;>cases l (d+1)<;>simp
   |true =>
    have Z:pr s m (d+1)=false:=by
     cases Z:pr s m (d+1) with
     |false=>rfl
     |true=>have:=U Z;unfold t0 at this;rw[S] at this;cases this
    rw[Z];unfold t0
    cases m d<;>cases l d<;>simp
def Mu (h:d<=30):bw s l m d=(!pr s m d,!ab l m d):=by
 unfold bw;rw[LA N (by omega),show 30-(30-d)=d by omega]
end
end
section
variable (ps:List Pg) (m k:Int)
def sN (d:Nat):Bool:=decide ((d:Int)∈shown ps m k)
def lN (d:Nat):Bool:=decide ((d:Int)∈eJ ps m k)
def mN (d:Nat):Bool:=decide ((d:Int)∈cg ps m k)
def i5:List Int:=((Ø 31).filter λd=>pr (sN ps m k) (mN ps m k) d).map λd:Nat=>(d:Int)
def iC:List Int:=((Ø 31).filter λn=>ab (lN ps m k) (mN ps m k) (30-n)).map λn:Nat=>((30-n:Nat):Int)
end
def Kr (h:gw ps=true) (hm:0<=m/\m<4) (hk:0<=k/\k<8):vG (sN ps m k) (lN ps m k) (mN ps m k):=by
 intro d e hs Y T Z;simp only[sN,lN,mN,È] at hs Z;have c:=Ta h hm hk hs (l:=(e:Int)) (by omega) (by omega);unfold pV at c;have X:(decide ((e:Int)∈eJ ps m k)||(decide ((e:Int)=(d:Int))&&decide ((d:Int)∈cg ps m k)))=true:=by
  rcases Z with Z | ⟨S,W⟩
  ·rw[à Z];rfl
  ·rw[à (show (e:Int)=d by omega),à W];simp
 rw[X,û,Bool.not_eq_false'] at c;unfold lQ at c;obtain⟨x,V,U⟩:=ŏ.mp c;simp only[Ê,È] at U;refine⟨x.toNat,by omega,by omega,?_⟩;simp only[mN,È];rw[show ((x.toNat:Nat):Int)=x by omega];exact V
def Vf {m k:Int} {d:Nat} (h:d<=30):decide ((d:Int)∈i5 ps m k)=pr (sN ps m k) (mN ps m k) d:=by
 have:(d:Int)∈i5 ps m k↔pr (sN ps m k) (mN ps m k) d=true:=by
  unfold i5;rw[ó];constructor
  ·rintro ⟨e,Y,X⟩
   have:e=d:=by omega
   rw[<- this];exact(ü.mp Y).2
  ·intro Z
   exact⟨d,ü.mpr ⟨ñ.mpr (by omega),Z⟩,rfl⟩
 cases Z:pr (sN ps m k) (mN ps m k) d with
 |true=>exact à (this.mpr Z)
 |false=>exact è λz=>by rw[this.mp z] at Z;cases Z
def Vg {m k:Int} {d:Nat} (h:d<=30):decide ((d:Int)∈iC ps m k)=ab (lN ps m k) (mN ps m k) d:=by
 have:(d:Int)∈iC ps m k↔ab (lN ps m k) (mN ps m k) d=true:=by
  unfold iC;rw[ó];constructor
  ·rintro ⟨e,Y,V⟩
   obtain⟨X,W⟩:=ü.mp Y;have:=ñ.mp X;have:30-e=d:=by omega
   rw[<- this];exact W
  ·intro Z
   exact⟨30-d,ü.mpr ⟨ñ.mpr (by omega),by rw[show 30-(30-d)=d by omega];exact Z⟩,by omega⟩
 cases Z:ab (lN ps m k) (mN ps m k) d with
 |true=>exact à (this.mpr Z)
 |false=>exact è λz=>by rw[this.mp z] at Z;cases Z
def Ks {s:ag} {ns:List Int} {x:Int} (hn:ns.length<1000):iU (.ai s.length) (s++[.lst (ns.map D.int)])=true/\iT (.ai s.length) (.int x) (s++[.lst (ns.map D.int)])=ok .au (s++[.lst ((ns++[x]).map D.int)]):=by
 have e:(s++[Cell.lst (ns.map D.int)])[s.length]?=some (.lst (ns.map D.int)):=by simp
 refine⟨by simp only[iU,e],?_⟩;unfold iT;simp only[e];rw[ß (by rw[È,Ã];exact É hn (le_size (by decide)))];simp[Ĳ]
def Kt {s:ag} {ns:List Int}:dw (.ai s.length) (s++[.lst (ns.map D.int)])=ok (lI ns) (s++[.dead]):=by
 have e:(s++[Cell.lst (ns.map D.int)])[s.length]?=some (.lst (ns.map D.int)):=by simp
 simp only[dw,e];simp[Ĳ]
def HW {p:Nat->Bool} {f:Nat->Int} {i:Nat}:((Ø (i+1)).filter p).map f=((Ø i).filter p).map f++(if p i=true then [f i] else []):=by
 rw[ζ,List.filter_append,õ];congr 1
 cases h:p i<;>simp[h]
def IG {p:Nat->Bool} {f:Nat->Int} {i:Nat}:(((Ø i).filter p).map f).length<=i:=by
 rw[Ã];exact Û (Ċ _ _) (by rw[İ];exact acr _)
def pv (s m:Nat->Bool):Nat->Bool
 |0=>false
 |i+1=>pr s m i
def Qh (hl:ps.length<=1000):yh [bD ps,.int m,.int k] s=ok (lI (i5 ps m k)) (s++[.dead]):=by
 refine acp ?_;unfold yh;simp only[VC];refine aco (zm hl).1 ?_;refine aco (zo hl) ?_
 try simp only[VC]
 refine⟨by decide,?_⟩;refine aco (dJ (n:=31) rfl (by decide)) ?_;refine Wp.gE (λi env Y=>i<=31->∃Z,env=[some (bD ps),some (.int m),some (.int k),some (lI (shown ps m k)),some (lI (cg ps m k)),some (.ai s.length),some (.bl (pv (sN ps m k) (mN ps m k) i)),Z]/\Y=s++[.lst ((((Ø i).filter λd=>pr (sN ps m k) (mN ps m k) d).map λd:Nat=>(d:Int)).map D.int)]) _ (λ_=>⟨_,rfl,rfl⟩) (λi d env Y W V=>?_) (λenv Y V=>?_)
 ·rw[fZ] at W
  split at W
  ·rename_i hi
   cases W;obtain⟨Z,rfl,rfl⟩:=V (by omega);refine⟨_,rfl,?_⟩;have U:(0:Int)+(i:Int)=i:=by omega
   have key:(decide ((i:Int)∈shown ps m k)||(pv (sN ps m k) (mN ps m k) i&&!decide ((i:Int)∈cg ps m k)))=pr (sN ps m k) (mN ps m k) i:=by
    cases i with
    |zero=>simp[pv,pr,sN]
    |succ i=>rfl
   have fin:∀c:Bool,c=pr (sN ps m k) (mN ps m k) i->if c=true then iU (.ai s.length) (s++[.lst ((((Ø i).filter λd=>pr (sN ps m k) (mN ps m k) d).map λd:Nat=>(d:Int)).map D.int)])=true/\Wp (iT (.ai s.length) (.int (0+(i:Int))) (s++[.lst ((((Ø i).filter λd=>pr (sN ps m k) (mN ps m k) d).map λd:Nat=>(d:Int)).map D.int)])) λx Y=>i+1<=31->∃Z,([some (bD ps),some (.int m),some (.int k),some (lI (shown ps m k)),some (lI (cg ps m k)),some (.ai s.length),some (.bl c),some (.int (0+(i:Int)))]:Env)=[some (bD ps),some (.int m),some (.int k),some (lI (shown ps m k)),some (lI (cg ps m k)),some (.ai s.length),some (.bl (pv (sN ps m k) (mN ps m k) (i+1))),Z]/\Y=s++[.lst ((((Ø (i+1)).filter λd=>pr (sN ps m k) (mN ps m k) d).map λd:Nat=>(d:Int)).map D.int)]
     else i+1<=31->∃Z,([some (bD ps),some (.int m),some (.int k),some (lI (shown ps m k)),some (lI (cg ps m k)),some (.ai s.length),some (.bl c),some (.int (0+(i:Int)))]:Env)=[some (bD ps),some (.int m),some (.int k),some (lI (shown ps m k)),some (lI (cg ps m k)),some (.ai s.length),some (.bl (pv (sN ps m k) (mN ps m k) (i+1))),Z]/\s++[.lst ((((Ø i).filter λd=>pr (sN ps m k) (mN ps m k) d).map λd:Nat=>(d:Int)).map D.int)]=s++[.lst ((((Ø (i+1)).filter λd=>pr (sN ps m k) (mN ps m k) d).map λd:Nat=>(d:Int)).map D.int)]:=λc T=>by
    rw[HW];have R:pv (sN ps m k) (mN ps m k) (i+1)=c:=T.symm;rw[R,<- T]
    cases c with
    |true =>
     rw[ß rfl];obtain⟨Q,P⟩:=Ks (s:=s) (ns:=((Ø i).filter λd=>pr (sN ps m k) (mN ps m k) d).map λd:Nat=>(d:Int)) (x:=0+(i:Int)) (aa3 IG (by omega));exact⟨Q,aco P λ_=>⟨_,rfl,by rw[U];rfl⟩⟩
    |false =>
     rw[æ Í];exact λ_=>⟨_,rfl,by simp⟩
   simp only[VC,t6,U];rw[U] at fin;by_cases X:(i:Int)∈shown ps m k
   ·simp only[X,ĥ,ô]
    exact fin true (by rw[<- key,à X];rfl)
   ·simp only[X,aby,Ä,ê]
    cases S:pv (sN ps m k) (mN ps m k) i with
    |false =>
     simp only[VC,Ä,ê];exact fin false (by rw[<- key,è X,S];rfl)
    |true =>
     simp only[VC,ô,qf];exact fin _ (by rw[<- key,è X,S];rfl)
  ·cases W
 ·rw[bX] at V
  obtain⟨Z,rfl,rfl⟩:=V (acr _);simp only[VC];exact aco Kt ⟨rfl,rfl⟩
noncomputable def downs:List D:=(Ø 31).map λn:Nat=>D.int ((30-n:Nat):Int)
def WU:Gf (ae (eC (.int 31)) ah) env s=ok downs s:=by
 have:(bS 0 31).reverse=downs:=by rfl
 rw[<- this];rfl
def Ru:downs[i]?=if i<31 then some (.int ((30-i:Nat):Int)) else none:=by
 unfold downs;rw[á];by_cases h:i<31
 ·rw[ß h,č h];rfl
 ·rw[æ h,ú (by simpa using h)];rfl
abbrev jF (ps:List Pg) (m k:Int) (i:Nat):List Int:=((Ø i).filter λn=>ab (lN ps m k) (mN ps m k) (30-n)).map λn:Nat=>((30-n:Nat):Int)
def Rv (hl:ps.length<=1000):yl [bD ps,.int m,.int k] s=ok (lI (iC ps m k)) (s++[.dead]):=by
 refine acp ?_;unfold yl;simp only[VC];refine aco (zm hl).2 ?_;refine aco (zo hl) ?_
 try simp only[VC]
 refine⟨by decide,?_⟩;refine aco WU ?_;refine Wp.gE (λi env Z=>i<=31->∃W,env=[some (bD ps),some (.int m),some (.int k),some (lI (eJ ps m k)),some (lI (cg ps m k)),some (.ai s.length),some (.bl (iB (lN ps m k) (mN ps m k) i)),W]/\Z=s++[.lst ((jF ps m k i).map D.int)]) _ (λ_=>⟨_,rfl,rfl⟩) (λi d env Z X U=>?_) (λenv Z U=>?_)
 ·rw[Ru] at X
  split at X
  ·rename_i hi
   cases X;obtain⟨W,rfl,rfl⟩:=U (by omega);refine⟨_,rfl,?_⟩;generalize X:((30-i:Nat):Int)=d;have L:ab (lN ps m k) (mN ps m k) (30-i)=(iB (lN ps m k) (mN ps m k) i||(decide (d∈eJ ps m k)||decide (d∈cg ps m k))):=by
    unfold ab br lN mN;rw[show 31-(30-i+1)=i by omega,X]
   have K:iB (lN ps m k) (mN ps m k) (i+1)=((iB (lN ps m k) (mN ps m k) i||decide (d∈eJ ps m k))&&!decide (d∈cg ps m k)):=by
    show ((iB _ _ i||lN ps m k (30-i))&&!mN ps m k (30-i))=_;unfold lN mN;rw[X]
   have sec:∀Y,Y=s++[.lst ((jF ps m k (i+1)).map D.int)]->Wp (aK (dj (ma (aa 6) (e2 cD (aa 7) (aa 3))) (e2 dU (aa 7) (aa 4))) (gN 6) [some (bD ps),some (.int m),some (.int k),some (lI (eJ ps m k)),some (lI (cg ps m k)),some (.ai s.length),some (.bl (iB (lN ps m k) (mN ps m k) i)),some (.int d)] Y) λT Z=>match T with
     | .nx env=>i+1<=31->∃W,env=[some (bD ps),some (.int m),some (.int k),some (lI (eJ ps m k)),some (lI (cg ps m k)),some (.ai s.length),some (.bl (iB (lN ps m k) (mN ps m k) (i+1))),W]/\Z=s++[.lst ((jF ps m k (i+1)).map D.int)]
     | .ct env=>i+1<=31->∃W,env=[some (bD ps),some (.int m),some (.int k),some (lI (eJ ps m k)),some (lI (cg ps m k)),some (.ai s.length),some (.bl (iB (lN ps m k) (mN ps m k) (i+1))),W]/\Z=s++[.lst ((jF ps m k (i+1)).map D.int)]
     | .bk env=>sA (aQ (kG (aa 5))) (wQ λa Z=>a=lI (iC ps m k)/\Z=s++[.dead]) (.nx env) Z
     | .rt d=>sA (aQ (kG (aa 5))) (wQ λa Z=>a=lI (iC ps m k)/\Z=s++[.dead]) (.rt d) Z:=λY S=>by
    simp only[VC,t6,qf];rw[K]
    cases iB (lN ps m k) (mN ps m k) i with
    |true =>
     simp only[VC,ô,qf];exact λ_=>⟨some (.int d),by simp,S⟩
    |false =>
     simp only[Ä,ê,ς];by_cases c:d∈eJ ps m k
     ·simp only[VC,c,ĥ,ô,qf]
      exact λ_=>⟨some (.int d),by simp,S⟩
     ·simp only[c,aby,Ä,ê]
      exact λ_=>⟨some (.int d),by simp,S⟩
   have P:=Ks (s:=s) (ns:=jF ps m k i) (x:=d) (aa3 IG (by omega))
   have O:jF ps m k (i+1)=jF ps m k i++(if ab (lN ps m k) (mN ps m k) (30-i)=true then [d] else []):=by
    rw[<- X];exact HW
   have yes:ab (lN ps m k) (mN ps m k) (30-i)=true->Wp (fF (gP (aa 5) (aa 7)) [some (bD ps),some (.int m),some (.int k),some (lI (eJ ps m k)),some (lI (cg ps m k)),some (.ai s.length),some (.bl (iB (lN ps m k) (mN ps m k) i)),some (.int d)] (s++[.lst ((jF ps m k i).map D.int)])) λT Z=>T=.nx [some (bD ps),some (.int m),some (.int k),some (lI (eJ ps m k)),some (lI (cg ps m k)),some (.ai s.length),some (.bl (iB (lN ps m k) (mN ps m k) i)),some (.int d)]/\Z=s++[.lst ((jF ps m k (i+1)).map D.int)]:=λR=>by
    simp only[VC];refine⟨P.1,aco P.2 ?_⟩;rw[O,R];simp
   have no:ab (lN ps m k) (mN ps m k) (30-i)=false->s++[Cell.lst ((jF ps m k i).map D.int)]=s++[Cell.lst ((jF ps m k (i+1)).map D.int)]:=λR=>by
    rw[O,R];simp
   have go:∀{c:Bool},c=ab (lN ps m k) (mN ps m k) (30-i)->∀{Q:Fl->ag->Prop},(∀Y,Y=s++[.lst ((jF ps m k (i+1)).map D.int)]->Q (.nx [some (bD ps),some (.int m),some (.int k),some (lI (eJ ps m k)),some (lI (cg ps m k)),some (.ai s.length),some (.bl (iB (lN ps m k) (mN ps m k) i)),some (.int d)]) Y)->if c=true then Wp (fF (gP (aa 5) (aa 7)) [some (bD ps),some (.int m),some (.int k),some (lI (eJ ps m k)),some (lI (cg ps m k)),some (.ai s.length),some (.bl (iB (lN ps m k) (mN ps m k) i)),some (.int d)] (s++[.lst ((jF ps m k i).map D.int)])) Q else Wp (cK [some (bD ps),some (.int m),some (.int k),some (lI (eJ ps m k)),some (lI (cg ps m k)),some (.ai s.length),some (.bl (iB (lN ps m k) (mN ps m k) i)),some (.int d)] (s++[.lst ((jF ps m k i).map D.int)])) Q:=λ{c} N {Q} q=>by
    cases c with
    |true =>
     rw[ß rfl];exact(yes N.symm).mono λT Y ⟨e1,e2⟩=>by subst e1;exact q Y e2
    |false =>
     rw[æ Í,i9];exact q _ (no N.symm)
   rw[eU,jb];simp only[qC,nP,bG,bH,jw,jy,dO,t6,aP,gK,Ù,Ú];rw[L] at go
   cases M:iB (lN ps m k) (mN ps m k) i with
   |true =>
    simp only[ô];rw[M] at go sec;exact go (c:=true) rfl λY V=>sec Y V
   |false =>
    simp only[Ä,ê];rw[M] at go sec;by_cases c:d∈eJ ps m k
    ·simp only[c,ĥ,ô]
     exact go (c:=true) (by simp[c]) λY V=>sec Y V
    ·simp only[c,aby,Ä,ê]
     exact go (by simp[c]) λY V=>sec Y V
  ·cases X
 ·rw[show downs.length=31 from rfl] at U
  obtain⟨W,rfl,rfl⟩:=U (acr _);simp only[VC];exact aco Kt ⟨rfl,rfl⟩
def sH (F:Int->List Int):D:=.lst (k8.map λk=>lI (F k))
def WV (h:0<=k/\k<8):aj (sH F) (.int k) s=ok (lI (F k)) s:=by
 obtain⟨x,e1,e2⟩:=tO (xs:=k8.map λk=>lI (F k)) h.1 (by show k<8;exact h.2);have:x=lI (F k):=by
  rw[á] at e2;have Z:k8[k.toNat]?=some k:=by
   unfold k8;rw[á,č (by omega)];simp;omega
  rw[Z] at e2;exact(acs e2).symm
 subst this;simp only[aj,iy,res,sH,e1,bE]
def Zi:bS 0 8=k8.map D.int:=rfl
def Mv:vm [sH F,.int d] s=ok (mD (k8.filter λk=>decide (d∈F k))) s:=by
 refine acp ?_;unfold vm;simp only[VC];refine aco (dJ (n:=8) rfl (by decide)) ⟨by rw[bX];exact le_size (by decide),?_⟩;rw[Zi];refine aco (fX (λk=>decide (d∈F k)) (λk=>.int k) k8 λk Z=>⟨[some (.int k),some (.int d),some (sH F)],rfl,?_,λ_=>rfl⟩) ?_
 ·refine acp ?_
  simp only[VC];refine aco (WV (zN.mp Z)) ?_;simp only[VC,t6,Ě]
 ·exact aco (show eI [.lst ((k8.filter λk=>decide (d∈F k)).map λk=>.int k)] s=ok (mD (k8.filter λk=>decide (d∈F k))) s from rfl) ⟨rfl,rfl⟩
noncomputable def bW:List Int:=(Ø 31).map λi:Nat=>(i:Int)
def wy:bS 0 31=bW.map D.int:=by unfold bW;rw[tj,ĉ];congr 1;funext i;simp
def lB (P A:Int->List Int) (d:Int):D:=.tup [mD (k8.filter λk=>decide (d∈P k)),mD (k8.filter λk=>decide (d∈A k))]
def Ku (hf:∀k s,fn [b,.int mu,.int k] s=ok (lI (F k)) (s++[.dead])) (e0:env[0]?=some (some b)) (e1:env[1]?=some (some (.int mu))) (q:∀c,Q (sH F) (s++c)) :
  Wp (aM 1 [0,1] (bL (ae (eC (.int (8))) ah)) (gN 0) ba (ax fn (ae (aa 1) (ae (aa 2) (ae (aa 0) ah)))) env s) Q:=by
 rw[eG];refine aco (dJ (n:=8) rfl (by decide)) ⟨by rw[bX];exact le_size (by decide),?_⟩;have V:cX [0,1] env=[some b,some (.int mu)]:=by simp[cX,e0,e1]
 rw[V];refine qk (λi Z W=>i<=8->Z=((Ø i).map λi:Nat=>(i:Int)).map (λk=>lI (F k))/\∃c,W=s++c) (bS 0 8) (λ_=>⟨rfl,[],by simp⟩) (λi d Z W Y X=>?_) λZ W X=>?_
 ·rw[fZ] at Y
  split at Y
  ·rename_i hi
   cases Y;obtain⟨rfl,c,rfl⟩:=X (by omega);refine⟨[some (.int (0+i)),some b,some (.int mu)],rfl,?_⟩;refine aco (show ba _ _=ok true _ from rfl) ?_;rw[ß rfl];simp only[VC];refine aco (hf (0+(i:Int)) _) λ_=>⟨?_,c++[.dead],by simp⟩;rw[ζ,õ,õ];simp
  ·cases Y
 ·rw[bX] at X
  obtain⟨rfl,c,rfl⟩:=X (acr _);exact q c
def Vh (hl:ps.length<=1000):Wp (ym [bD ps,.int m] s) λd s'=>d=.lst (bW.map (lB (i5 ps m) (iC ps m)))/\∃c,s'=s++c:=by
 unfold ym;rw[iQ];refine⟨rfl,?_⟩;rw[eU,cy];refine Ku (b:=bD ps) (mu:=m) (λk s=>Qh hl) rfl rfl λc=>?_;simp only[cZ,Ö,Ħ,ĕ,ķ,Ñ,Nat.reduceSub,Ù,Ú,bM];rw[eU,cy];refine Ku (b:=bD ps) (mu:=m) (λk s=>Rv hl) rfl rfl λZ=>?_;simp only[cZ,Ù,Ú,bM,gL,eG,ia];refine aco (dJ (n:=31) rfl (by decide)) ⟨by rw[bX];exact le_size (by decide),?_⟩;rw[wy];refine aco (fX (λ_=>true) (lB (i5 ps m) (iC ps m)) bW λd Y=>⟨[some (.int d),some (sH (i5 ps m)),some (sH (iC ps m))],rfl,rfl,λ_=>?_⟩) ?_
 ·refine acp ?_
  simp only[VC];refine aco Mv ?_;refine aco Mv ?_;exact⟨by decide,rfl,rfl⟩
 ·rw[filter_tt]
  exact⟨rfl,c++Z,by simp⟩
noncomputable def jV (x:Bool×Bool):List Bool:=(if x.1=true then [false] else [])++(if x.2=true then [true] else [])
abbrev gQ (x:Bool×Bool):D:=.lst ((jV x).map D.bl)
def Ph (x:Bool×Bool) (p:Bool->Bool):(jV x).filter p=jV (x.1&&p false,x.2&&p true):=by
 obtain⟨f,t⟩:=x
 cases f<;>cases t<;>cases Z:p false<;>cases Y:p true<;>simp[jV,Z,Y]
noncomputable abbrev Rw:=Nat->Bool×Bool
abbrev wz (R:Rw):Cell:=.lst ((Ø 31).map λd=>gQ (R d))
noncomputable abbrev fN (F:Nat->Bool):Cell:=.lst ((Ø 32).map λd=>D.bl (F d))
abbrev ck (s:ag) (R:Rw) (F:Nat->Bool):ag:=s++[wz R,fN F]
noncomputable def fc {α:Type} (R:Nat->α) (d:Nat) (x:α):Nat->α:=λe=>if e=d then x else R e
def Fg (s:ag) (R:Rw) (F:Nat->Bool):(ck s R F)[s.length]?=some (wz R):=by simp[ck]
def M6 (s:ag) (R:Rw) (F:Nat->Bool):(ck s R F)[s.length+1]?=some (fN F):=by simp[ck]
def zp {α:Type} {n:Nat} {f:Nat->α} {d:Int} (h0:0<=d) (h1:d<n):cN ((Ø n).map f) d=some (f d.toNat):=by
 obtain⟨x,e1,e2⟩:=tO (xs:=(Ø n).map f) h0 (by simpa using h1);rw[á,č (by omega)] at e2;rw[e1];exact e2.symm
def vU {F:Nat->Bool} {d:Int} (h0:0<=d) (h1:d<31):aj (.ai s.length) (.int d) (ck s R F)=ok (gQ (R d.toNat)) (ck s R F):=by
 simp only[aj,iy,res,Fg,zp h0 h1,bE]
def Kv {F:Nat->Bool} {d:Int} (h0:0<=d) (h1:d<32):aj (.ai (s.length+1)) (.int d) (ck s R F)=ok (.bl (F d.toNat)) (ck s R F):=by
 simp only[aj,iy,res,M6,zp h0 h1,bE]
def Kw {α:Type} {n d:Nat} {f:Nat->α} {x:α}:((Ø n).map f).set d x=(Ø n).map (fc f d x):=by
 apply Ŗ;intro i;by_cases hi:i<n
 ·by_cases e:d=i
  ·subst e
   rw[ç (by simpa using hi),á,č hi];simp[fc]
  ·rw[Ý e,á,á,č hi]
   simp[fc,œ e]
 ·rw[ú (by simpa using hi),ú (by simpa using hi)]
def qI {n:Nat} {d:Int} (h0:0<=d) (h1:d<n):iq n d=some d.toNat:=by
 unfold iq;rw[ß h0,ß h1]
def Jz {α β:Type} {f:Nat->α} {g:α->β} {d:Nat} {x:α}:(λe=>g (fc f d x e))=fc (λe=>g (f e)) d (g x):=by
 funext e;unfold fc
 split<;>rfl
def zq {s:ag} {R:Rw} {F:Nat->Bool} {d:Int} {x:Bool×Bool} (h0:0<=d) (h1:d<31):je (.ai s.length) (.int d) (gQ x) (ck s R F)=some (ck s (fc R d.toNat x) F):=by
 have e:wz (fc R d.toNat x)=.lst (((Ø 31).map λd=>gQ (R d)).set d.toNat (gQ x)):=by
  rw[Kw];show Cell.lst ((Ø 31).map λe=>gQ (fc R d.toNat x e))=_;rw[Jz (g:=gQ)]
 rw[show ck s (fc R d.toNat x) F=s++[wz (fc R d.toNat x),fN F] from rfl,e];simp only[je,Fg,Ã,İ,qI h0 h1];simp[ck,Ĳ]
def Td {s:ag} {R:Rw} {F:Nat->Bool} {d:Int} {x:Bool} (h0:0<=d) (h1:d<32):je (.ai (s.length+1)) (.int d) (.bl x) (ck s R F)=some (ck s R (fc F d.toNat x)):=by
 have e:fN (fc F d.toNat x)=.lst (((Ø 32).map λd=>D.bl (F d)).set d.toNat (.bl x)):=by
  rw[Kw];show Cell.lst ((Ø 32).map λe=>D.bl (fc F d.toNat x e))=_;rw[Jz (g:=D.bl)]
 rw[show ck s R (fc F d.toNat x)=s++[wz R,fN (fc F d.toNat x)] from rfl,e];simp only[je,M6,Ã,İ,qI h0 h1];simp[ck,Ĳ]
def zr (p:Bool->Bool) (h:∀b,t (some (.bl b)::caps) s=ok (p b) s):bY 1 caps (gN 0) t (aa 0) ((jV x).map D.bl) s=ok ((jV (x.1&&p false,x.2&&p true)).map D.bl) s:=by
 rw[comp_map D.bl p D.bl (jV x) λb _=>⟨some (.bl b)::caps,rfl,h b,λ_=>rfl⟩,Ph]
def yW (x:Bool×Bool):((jV x).map D.bl).length<=Õ:=by
 refine fM ?_;obtain⟨f,t⟩:=x
 cases f<;>cases t<;>simp[jV]
def iH (m k:Int) (x:Rw×(Nat->Bool)) (p:Pg):Rw×(Nat->Bool):=match p with
 | .aU Z d Y=>if (decide (Z=m)&&decide (Y=k))=true then (fc x.1 d.toNat ((x.1 d.toNat).1,false),fc x.2 d.toNat true) else x
 | .made Z d h l=>if (decide (Z=m)&&decide (k∈h++l))=true then (fc x.1 d.toNat ((x.1 d.toNat).1&&!decide (k∈h),(x.1 d.toNat).2&&decide (k∈h)),x.2) else x
def Te (hd:0<=p.day/\p.day<31) (hf:lP p)
 (q:Q (.nx [some (bD ps),some (.int m),some (.int k),some (.ai s.length),some (.ai (s.length+1)),some p.d,a6,a7,a8]) (ck s (iH m k (R,F) p).1 (iH m k (R,F) p).2)) :
  Wp ((aw (cG (dh (aC (e2 aS (e2 aj (aa 5) (eC (.int 0))) (eC (.str "mended")))) (dh (aC (e2 aS (e2 aj (aa 5) (eC (.int 1))) (aa 1))) (aC (e2 aS (e2 aj (aa 5) (eC (.int 3))) (aa 2))))) (aw (iV (aM 1 [] (aR (e2 aj (aa 3) (e2 aj (aa 5) (eC (.int 2))))) (gN 0) (ig (dZ (aa 0))) (aa 0)) (aa 3) (e2 aj (aa 5) (eC (.int 2)))) (iV (eC (.bl true)) (aa 4) (e2 aj (aa 5) (eC (.int 2))))) cK) (cG (dh (aC (e2 aS (e2 aj (aa 5) (eC (.int 0))) (eC (.str "made")))) (dh (aC (e2 aS (e2 aj (aa 5) (eC (.int 1))) (aa 1))) (aC (e2 cD (aa 2) (e2 cY (e2 aj (e2 aj (aa 5) (eC (.int 3))) (eC (.int 0))) (e2 aj (e2 aj (aa 5) (eC (.int 3))) (eC (.int 1)))))))) (iV (aM 1 [2,5] (aR (e2 aj (aa 3) (e2 aj (aa 5) (eC (.int 2))))) (gN 0) (aC (e2 aS (aa 0) (e2 cD (aa 1) (e2 aj (e2 aj (aa 2) (eC (.int 3))) (eC (.int 0)))))) (aa 0)) (aa 3) (e2 aj (aa 5) (eC (.int 2)))) cK)) [some (bD ps),some (.int m),some (.int k),some (.ai s.length),some (.ai (s.length+1)),some p.d,a6,a7,a8] (ck s R F)) Q:=by
 have row:∀{R:Rw} {F:Nat->Bool},aR (e2 aj (aa 3) (e2 aj (aa 5) (eC (.int 2)))) [some (bD ps),some (.int m),some (.int k),some (.ai s.length),some (.ai (s.length+1)),some p.d,a6,a7,a8] (ck s R F)=ok ((jV (R p.day.toNat)).map D.bl) (ck s R F):=λ{R F}=>by
  refine fy (acp ?_);simp only[VC,(sD p _).2];exact aco (vU hd.1 hd.2) ⟨rfl,rfl⟩
 cases p with
 |aU Z d X =>
  have t1:dh (aC (e2 aS (e2 aj (aa 5) (eC (.int 0))) (eC (.str "mended")))) (dh (aC (e2 aS (e2 aj (aa 5) (eC (.int 1))) (aa 1))) (aC (e2 aS (e2 aj (aa 5) (eC (.int 3))) (aa 2)))) [some (bD ps),some (.int m),some (.int k),some (.ai s.length),some (.ai (s.length+1)),some (Pg.aU Z d X).d,a6,a7,a8] (ck s R F)=ok (decide (Z=m)&&decide (X=k)) (ck s R F):=by
   refine acp ?_;simp only[VC,Pg.d,(gm _ _ _ _ _).1,(gm _ _ _ _ _).2.1,(gm _ _ _ _ _).2.2.2,j7,ĥ,ô];by_cases e:Z=m
   ·by_cases e2:X=k<;>simp[e,e2]
   ·simp[e]
  have V:∀Y,dh (aC (e2 aS (e2 aj (aa 5) (eC (.int 0))) (eC (.str "made")))) (dh (aC (e2 aS (e2 aj (aa 5) (eC (.int 1))) (aa 1))) (aC (e2 cD (aa 2) (e2 cY (e2 aj (e2 aj (aa 5) (eC (.int 3))) (eC (.int 0))) (e2 aj (e2 aj (aa 5) (eC (.int 3))) (eC (.int 1))))))) [some (bD ps),some (.int m),some (.int k),some (.ai s.length),some (.ai (s.length+1)),some (Pg.aU Z d X).d,a6,a7,a8] Y=ok false Y:=λY=>by
   refine acp ?_;simp only[VC,Pg.d,(gm _ _ _ _ _).1,j7,è vF,Ä,ê,Ě]
  have fin:∀Y,Q (.nx [some (bD ps),some (.int m),some (.int k),some (.ai s.length),some (.ai (s.length+1)),some (Pg.aU Z d X).d,a6,a7,a8]) Y->Wp (cG (dh (aC (e2 aS (e2 aj (aa 5) (eC (.int 0))) (eC (.str "made")))) (dh (aC (e2 aS (e2 aj (aa 5) (eC (.int 1))) (aa 1))) (aC (e2 cD (aa 2) (e2 cY (e2 aj (e2 aj (aa 5) (eC (.int 3))) (eC (.int 0))) (e2 aj (e2 aj (aa 5) (eC (.int 3))) (eC (.int 1)))))))) (iV (aM 1 [2,5] (aR (e2 aj (aa 3) (e2 aj (aa 5) (eC (.int 2))))) (gN 0) (aC (e2 aS (aa 0) (e2 cD (aa 1) (e2 aj (e2 aj (aa 2) (eC (.int 3))) (eC (.int 0)))))) (aa 0)) (aa 3) (e2 aj (aa 5) (eC (.int 2)))) cK [some (bD ps),some (.int m),some (.int k),some (.ai s.length),some (.ai (s.length+1)),some (Pg.aU Z d X).d,a6,a7,a8] Y) Q:=λY q=>by
   rw[jb];refine aco (V Y) ?_;rw[æ Í,i9];exact q
  rw[eU,jb];refine aco t1 ?_;unfold iH at q
  cases W:(decide (Z=m)&&decide (X=k)) with
  |false =>
   simp only[W,Ä,ê] at q;rw[æ Í,i9,bM];exact fin _ q
  |true =>
   simp only[W,ô] at q;rw[ß rfl,eU,nK,eG];refine aco row ⟨yW _,?_⟩;refine aco (zr (λb=>!b) λb=>rfl) ?_;simp only[bG,bH,dO,fT,(sD (Pg.aU Z d X) _).2,aP];refine⟨_,zq hd.1 hd.2,?_⟩;rw[bM,nK];simp only[bG,bH,dO,fT,(sD (Pg.aU Z d X) _).2,aP];refine⟨_,Td hd.1 (by have:=hd.2;omega),?_⟩;rw[bM];refine fin _ ?_;simpa [TK.Pg.day] using q
 |made Z d h l =>
  have t1:∀Y,dh (aC (e2 aS (e2 aj (aa 5) (eC (.int 0))) (eC (.str "mended")))) (dh (aC (e2 aS (e2 aj (aa 5) (eC (.int 1))) (aa 1))) (aC (e2 aS (e2 aj (aa 5) (eC (.int 3))) (aa 2)))) [some (bD ps),some (.int m),some (.int k),some (.ai s.length),some (.ai (s.length+1)),some (Pg.made Z d h l).d,a6,a7,a8] Y=ok false Y:=λY=>by
   refine acp ?_;simp only[VC,Pg.d,(gm _ _ _ _ _).1,j7,è Km,Ä,ê,Ě]
  have V:dh (aC (e2 aS (e2 aj (aa 5) (eC (.int 0))) (eC (.str "made")))) (dh (aC (e2 aS (e2 aj (aa 5) (eC (.int 1))) (aa 1))) (aC (e2 cD (aa 2) (e2 cY (e2 aj (e2 aj (aa 5) (eC (.int 3))) (eC (.int 0))) (e2 aj (e2 aj (aa 5) (eC (.int 3))) (eC (.int 1))))))) [some (bD ps),some (.int m),some (.int k),some (.ai s.length),some (.ai (s.length+1)),some (Pg.made Z d h l).d,a6,a7,a8] (ck s R F)=ok (decide (Z=m)&&decide (k∈h++l)) (ck s R F):=by
   refine acp ?_;simp only[VC,Pg.d,(gm _ _ _ _ _).1,(gm _ _ _ _ _).2.1,(gm _ _ _ _ _).2.2.2,j7,ĥ,ô];by_cases e:Z=m
   ·simp only[VC,e,ě,ô,(sC _ _ _).1,(sC _ _ _).2,ĥ,û]
    refine aco (fR (a:=h) (b:=l) (by have:=hf.1;have:=hf.2;omega)) ?_;refine aco (oF (ns:=h++l)) ?_;simp only[VC,Ě]
   ·simp[e]
  rw[eU,jb];refine aco (t1 _) ?_;rw[æ Í,i9,bM,jb];refine aco V ?_;unfold iH at q
  cases W:(decide (Z=m)&&decide (k∈h++l)) with
  |false =>
   simp only[W,Ä,ê] at q;rw[æ Í,i9];exact q
  |true =>
   simp only[W,ô] at q;rw[ß rfl,nK,eG];refine aco row ⟨yW _,?_⟩;refine aco (zr (caps:=[some (.int k),some (Pg.made Z d h l).d]) (λb=>b==decide (k∈h)) λb=>?_) ?_
   ·refine acp ?_
    simp only[VC,Pg.d,(gm _ _ _ _ _).2.2.2,(sC _ _ _).1];refine aco (oF (ns:=h)) ?_;refine aco (show aS (.bl b) (.bl (decide (k∈h))) (ck s R F)=ok (.bl (b==decide (k∈h))) (ck s R F) from rfl) ?_;simp only[VC,Ě]
   ·simp only[bG,bH,dO,fT,(sD (Pg.made Z d h l) _).2,aP]
    refine⟨_,zq hd.1 hd.2,?_⟩
    have e1:(false==decide (k∈h))=!decide (k∈h):=by cases decide (k∈h)<;>rfl
    have e2:(true==decide (k∈h))=decide (k∈h):=by cases decide (k∈h)<;>rfl
    rw[e1,e2];exact q
abbrev jo (L:Nat->List Int) (n:Nat):List D:=(Ø n).map λx=>lI (L x)
section
variable {W:Ć} {k j b n:Nat} {s0 s:ag} {M L:Nat->List Int} {R T:Pg->Prop}
def Qi (h:BJ W k j b n s0 s M R T) (hL:s[b+8]?=some (.lst (jo L i))) (hi:i<8) (hj:j≠k) (hb:∀i,i<8->b+i≠k) (mE:b+8≠k) (sI:b+8≠j) (hlb:s0.length<=b)
 (g:∀(ds:List Int) (c:Bool) s',Lf (M i) c 31 ds->BJ W k j b n s0 s' M R T->s'[b+8]?=some (.lst (jo (λx=>if x=i then ds else L x) (i+1)))->Q (.nx [some (.ai k),some (.ai j),some (.int mo),some (.int of),some (.int mu),some (memD b),some (.ai (b+8)),a7,some (.int i),a9,uZ,u4]) s') :
  Wp ((fF (gP (aa 6) (ax sT (ae (aa 0) (ae (e2 aj (aa 5) (aa 8)) ah))))) [some (.ai k),some (.ai j),some (.int mo),some (.int of),some (.int mu),some (memD b),some (.ai (b+8)),a7,some (.int i),a9,uZ,u4] s) Q:=by
 simp only[VC];refine⟨by simp only[iU,hL],?_⟩;refine aco (Lz (i:=(i:Int)) (by omega) (by omega)) ?_;rw[ò];refine(Rt h.st (h.aU i hi) (hb i hi)).mono λd t1 X=>?_;obtain⟨ds,c,rfl,lf,V,e1⟩:=X;have Z:=h.draw hj hb e1 V;have Y:t1[b+8]?=some (.lst (jo L i)):=(e1.val _ (Å.mp hL).1 mE).trans hL
 have ap:iT (.ai (b+8)) (lI ds) t1=ok .au (t1.set (b+8) (.lst (jo (λx=>if x=i then ds else L x) (i+1)))):=by
  unfold iT;simp only[Y];rw[ß (by rw[È,Ã,İ];exact É (show i<1000 by omega) (le_size (by decide)))];congr 4;unfold jo;rw[ζ,õ];congr 1
  ·refine aaP λx U=>?_
   rw[ñ] at U
   show lI (L x)=lI (if x=i then ds else L x)
   rw[æ (by omega)]
  ·simp
 refine aco ap (g ds c _ lf ⟨Z.st.set mE _,Z.dict.set sI _,λi hi=>(Ý (by omega)).trans (Z.aU i hi),Z.ext.sE (by omega) _⟩ (ç (Å.mp Y).1))
def Qj (h:BJ W k j b n s0 s M R T) (hL:s[b+8]?=some (.lst (jo L 8))) (hj:j≠k) (hb:∀i,i<8->b+i≠k) (mE:b+8≠k) (mC:∀i,i<8->b+i≠j) (sI:b+8≠j) (hl:s0.length<=j) (hn:n<1000) (o1:0<of) (o2:of<=3) (Bl:0<=mu/\mu<4)
 (hR:∀(d:Int) (u v:List Int),gv (.made mu d u v)=true->(∀x∈u,d∈L x.toNat)->(∀x∈v,d∉L x.toNat)->R (.made mu d u v))
 (g:∀(b9 gZ hV:Option D) (s':ag),BJ W k j b (n+1) s0 s' M R T->s'[b+8]?=some (.lst (jo L 8))->Q (.nx [some (.ai k),some (.ai j),some (.int mo),some (.int of),some (.int mu),a5,some (.ai (b+8)),a7,a8,b9,gZ,hV]) s') :
  Wp ((aw (aK (ax cf (ae (aa 0) (ae (eC (.int 31)) ah))) (gN 9)) (aw (aK (aM 1 [0,3] (bL (ae (eC (.int 8)) ah)) (gN 0) (aC (e2 aS (ax cf (ae (aa 1) (ae (aa 2) ah))) (eC (.int 0)))) (aa 0)) (gN 10)) (aw (aK (eB eI (ae (aM 1 [9,6] (aR (aa 10)) (gN 0) (aC (e2 cD (aa 1) (e2 aj (aa 2) (aa 0)))) (aa 0)) ah)) (gN 11)) (TK.mT W (eC (.bl true)) (aa 1) (bO (ae (eC (.str "made")) (ae (aa 4) (ae (aa 9) (ae (bO (ae (aa 11) (ae (eB eI (ae (aM 1 [9,6] (aR (aa 10)) (gN 0) (aC (e2 dU (aa 1) (e2 aj (aa 2) (aa 0)))) (aa 0)) ah)) ah))) ah))))))))) [some (.ai k),some (.ai j),some (.int mo),some (.int of),some (.int mu),a5,some (.ai (b+8)),a7,a8,a9,uZ,u4] s) Q:=by
 rw[eU];simp only[VC];refine(gM h.st (by decide) (by decide)).mono λd t1 G=>?_;obtain⟨Y,rfl,F,E,C,e1⟩:=G;have A:=h.draw hj hb e1 C;have z:t1[b+8]?=some (.lst (jo L 8)):=(e1.val _ (Å.mp hL).1 mE).trans hL
 try simp only[VC]
 refine aco (dJ (n:=8) rfl (by decide)) ⟨by rw[bX];exact le_size (by decide),?_⟩;have seen:Wp (bY 1 (cX [0,3] [some (.ai k),some (.ai j),some (.int mo),some (.int of),some (.int mu),a5,some (.ai (b+8)),a7,a8,some (.int Y),uZ,u4]) (gN 0) (aC (e2 aS (ax cf (ae (aa 1) (ae (aa 2) ah))) (eC (.int 0)))) (aa 0) (bS 0 8) t1)
   λK s'=>∃Z:List Int,K=Z.map D.int/\(∀x∈Z,0<=x/\x<8)/\(Z.Pairwise (· < ·)/\Z.length<=8)/\BJ W k j b n s0 s' M R T/\s'[b+8]?=some (.lst (jo L 8)):=by
  refine qk (λi U s'=>i<=8->∃Z:List Int,U=Z.map D.int/\(∀x∈Z,0<=x/\x<8/\x<i)/\(Z.Pairwise (· < ·)/\Z.length<=i)/\BJ W k j b n s0 s' M R T/\s'[b+8]?=some (.lst (jo L 8))) (bS 0 8) (λ_=>⟨[],rfl,by simp,⟨.nil,acr _⟩,A,z⟩) (λi d U s' S P=>?_) λU s' P=>?_
  ·rw[fZ] at S
   split at S
   ·rename_i hi
    cases S;obtain⟨Z,rfl,X,⟨O,y⟩,B,J⟩:=P (by omega);refine⟨[some (.int (0+i)),some (.ai k),some (.int of)],rfl,?_⟩;simp only[VC];refine(gM B.st o1 (by omega)).mono λd V hd2=>?_;obtain⟨m,rfl,_,_,w,e2⟩:=hd2
    try simp only[VC]
    have I:=B.draw hj hb e2 w;have L2:V[b+8]?=some (.lst (jo L 8)):=(e2.val _ (Å.mp J).1 mE).trans J;split
    ·exact λ_=>⟨Z++[0+(i:Int)],by simp,λx hx=>by
      rcases ä.mp hx with hx|hx
      ·have:=X x hx;omega
      ·rw[å.mp hx];omega,⟨aaA.mpr ⟨O,aa2 _ _,λa t b hb=>by rw[å.mp hb];have:=X a t;omega⟩,by simp;omega⟩,I,L2⟩
    ·exact λ_=>⟨Z,rfl,λx hx=>by have:=X x hx;omega,⟨O,by omega⟩,I,L2⟩
   ·cases S
  ·rw[bX] at P
   obtain⟨Z,e,X,r⟩:=P (acr _);exact⟨Z,e,λx hx=>⟨(X x hx).1,(X x hx).2.1⟩,r⟩
 refine seen.mono λK V hx=>?_;obtain⟨Z,rfl,X,⟨O,y⟩,q,le⟩:=hx;have mk:dR 8 Z:=⟨X,O⟩
 try simp only[VC]
 have H:∀x∈Z,aj (.ai (b+8)) (.int x) V=ok (lI (L x.toNat)) V:=λx hx=>by
  have:=X x hx;simp only[aj,iy,res,le,jo,zp (n:=8) this.1 (by omega),bE]
 refine aco (fy (ds:=Z.map D.int) rfl) ⟨fM (by rw[Ã];omega),?_⟩;refine aco (fX (λx=>decide (Y∈L x.toNat)) (λx=>.int x) Z λx hx=>⟨[some (.int x),some (.int Y),some (.ai (b+8))],rfl,?_,λ_=>rfl⟩) ?_
 ·refine acp ?_
  simp only[VC];refine aco (H x hx) ?_;simp only[VC,t6,Ě]
 refine aco (show eI [.lst ((Z.filter λx=>decide (Y∈L x.toNat)).map λx=>.int x)] V=ok (mD (Z.filter λx=>decide (Y∈L x.toNat))) V from rfl) ?_;rw[C1];simp only[VC];refine aco (fy (ds:=Z.map D.int) rfl) ⟨fM (by rw[Ã];omega),?_⟩;refine aco (fX (λx=>!decide (Y∈L x.toNat)) (λx=>.int x) Z λx hx=>⟨[some (.int x),some (.int Y),some (.ai (b+8))],rfl,?_,λ_=>rfl⟩) ?_
 ·refine acp ?_
  simp only[VC];refine aco (H x hx) ?_;simp only[VC,qf,Ě]
 refine aco (show eI [.lst ((Z.filter λx=>!decide (Y∈L x.toNat)).map λx=>.int x)] V=ok (mD (Z.filter λx=>!decide (Y∈L x.toNat))) V from rfl) ?_;refine⟨by decide,by decide,?_⟩;obtain⟨s',e,N,o⟩:=q.put hj mC hl (p:=.made mu Y (Z.filter λx=>decide (Y∈L x.toNat)) (Z.filter λx=>!decide (Y∈L x.toNat))) (hR Y _ _ (Rr Bl ⟨F,E⟩ (mk.filter _) (mk.filter _) (acr _) λx hx hl=>by simpa [(ü.mp hx).2] using (ü.mp hl).2) (λx hx=>by simpa using (ü.mp hx).2) (λx hx=>by simpa using (ü.mp hx).2)) hn;exact⟨s',e,g _ _ _ _ ⟨N.st,N.dict.mono (λ_ h=>h) (λ_ h=>.inl h),N.aU,N.ext⟩ ((o.val _ (Å.mp le).1 sI).trans le)⟩
end
def Bn (mu:Int) (M:Nat->List Int) (p:Pg):Prop:=gv p=true/\∃(d:Int) (x:Nat),x<8/\p=.aU mu d x/\d∈M x
def AgB (mu:Int) (M L:Nat->List Int):Pg->Prop
 | .aU m d k=>m=mu/\d∈M k.toNat
 | .made m d u v=>m=mu/\(∀x∈u,d∈L x.toNat)/\∀x∈v,d∉L x.toNat
def Ag (mu:Int) (M L:Nat->List Int) (p:Pg):Prop:=gv p=true/\AgB mu M L p
def Pj (h:bP s k) (hd:fv W R0 T0 s j n) (x0:Ex k s0 s) (hj:j≠k) (hl:s0.length<=j) (hn:n<900) (o1:0<of) (o2:of<=3) (Bl:0<=mu/\mu<4)
 (g:∀(b5 b6 b7 b8 b9 gZ hV:Option D) (s':ag) (M L:Nat->List Int),(∀x,x<8->∃c,Lf (M x) c 31 (L x))->bP s' k->fv W (λp=>R0 p\/Ag mu M L p) (λq=>T0 q\/∃(x:Nat) (d:Int),x<8/\d∈M x/\q=.aU mu d x) s' j (n+7)->Ex k s0 s'->Q (.nx [some (.ai k),some (.ai j),some (.int mo),some (.int of),some (.int mu),b5,b6,b7,b8,b9,gZ,hV]) s') :
  Wp ((aw (aK (bO (ae (aM 1 [] (bL (ae (eC (.int 8)) ah)) (gN 0) ba (eNew ah)) (ae (eNew ah) ah))) (gT [(gN 5),(gN 6)])) (aw (ef (bL (ae (ax cf (ae (aa 0) (ae (eC (.int 4)) ah))) ah)) (gN 7) (aw (aK (bO (ae (ax cf (ae (aa 0) (ae (eC (.int 8)) ah))) (ae (ax cf (ae (aa 0) (ae (eC (.int 31)) ah))) ah))) (gT [(gN 8),(gN 9)])) (aw (fF (gP (e2 aj (aa 5) (aa 8)) (aa 9))) (TK.mT W (eC (.bl true)) (aa 1) (bO (ae (eC (.str "mended")) (ae (aa 4) (ae (aa 9) (ae (aa 8) ah))))))))) (aw (ef (bL (ae (eC (.int 8)) ah)) (gN 8) (fF (gP (aa 6) (ax sT (ae (aa 0) (ae (e2 aj (aa 5) (aa 8)) ah)))))) (ef (bL (ae (ax cf (ae (aa 0) (ae (eC (.int 5)) ah))) ah)) (gN 7) (aw (aK (ax cf (ae (aa 0) (ae (eC (.int 31)) ah))) (gN 9)) (aw (aK (aM 1 [0,3] (bL (ae (eC (.int 8)) ah)) (gN 0) (aC (e2 aS (ax cf (ae (aa 1) (ae (aa 2) ah))) (eC (.int 0)))) (aa 0)) (gN 10)) (aw (aK (eB eI (ae (aM 1 [9,6] (aR (aa 10)) (gN 0) (aC (e2 cD (aa 1) (e2 aj (aa 2) (aa 0)))) (aa 0)) ah)) (gN 11)) (TK.mT W (eC (.bl true)) (aa 1) (bO (ae (eC (.str "made")) (ae (aa 4) (ae (aa 9) (ae (bO (ae (aa 11) (ae (eB eI (ae (aM 1 [9,6] (aR (aa 10)) (gN 0) (aC (e2 dU (aa 1) (e2 aj (aa 2) (aa 0)))) (aa 0)) ah)) ah))) ah))))))))))))) [some (.ai k),some (.ai j),some (.int mo),some (.int of),some (.int mu),a5,a6,a7,a8,a9,uZ,u4] s) Q:=by
 have hk:=h.lt;have uU:=hd.lt;have a:s0.length<=s.length:=x0.len;rw[eU];simp only[cy,iP,fm,dI];refine Ve ?_;simp only[tL,dI];refine⟨by decide,le_size (by simp only[ù,Ę];decide),?_⟩;simp only[qU,qe,qm,Ù,Ú,bM];generalize J:s++Ñ 8 (Cell.lst [])++[Cell.lst []]=s1;have x9:(s++Ñ 8 (Cell.lst [])).length=s.length+8:=by simp
 rw[x9];have e1:Ex k s s1:=by rw[<- J,ę];exact Ex.app k s _
 have B1:BJ W k j s.length n s0 s1 (λ_=>[]) R0 T0:=by
  refine⟨by rw[<- J,ę];exact h.app _,hd.ex e1 hj,λi hi=>?_,x0.trans e1⟩;rw[<- J,ę,þ (by omega),ã (by simp;omega),show s.length+i-s.length=i by omega,Ĵ,ß hi];rfl
 have L1:s1[s.length+8]?=some (.lst []):=by rw[<- J,þ (by simp)];simp
 have O:∀i,i<8->s.length+i≠k:=λi _=>by omega
 have mC:∀i,i<8->s.length+i≠j:=λi _=>by omega
 have N:s.length+8≠k:=by omega
 have F:s.length+8≠j:=by omega
 rw[eU,gr];obtain⟨_,t1,et,U,rfl,uX,uY,Y,NQ⟩:=gM (m:=4) B1.st (by decide) (by decide);refine aco (zk (s1:=t1) (n:=U.toNat) (i:=U) (acp (by simp only[VC];exact aco et ⟨rfl,rfl⟩)) (by omega) (by omega)) ?_;have I:=B1.draw hj O NQ Y;have L2:t1[s.length+8]?=some (.lst []):=(NQ.val _ (Å.mp L1).1 N).trans L1;have E:BJ W k j s.length n s0 t1 (λ_=>[]) (λp=>R0 p\/Bn mu (λ_=>[]) p) (λq=>T0 q\/∃(x:Nat) (d:Int),x<8/\d∈(λ_=>([]:List Int)) x/\q=.aU mu d x) :=
  ⟨I.st,I.dict.mono (λ_ h=>.inl h) (λq V=>by rcases V with V | ⟨x,d,_,hd,_⟩;exact V;exact(Ĝ hd).elim),I.aU,I.ext⟩
 refine Wp.gE (λi env s'=>i<=U.toNat->∃b7 b8 b9 gZ hV M,env=[some (.ai k),some (.ai j),some (.int mo),some (.int of),some (.int mu),some (memD s.length),some (.ai (s.length+8)),b7,b8,b9,gZ,hV]/\(∀x,x<8->(M x).length<=i)/\BJ W k j s.length (n+i) s0 s' M (λp=>R0 p\/Bn mu M p) (λq=>T0 q\/∃(x:Nat) (d:Int),x<8/\d∈M x/\q=.aU mu d x)/\s'[s.length+8]?=some (.lst [])) _ (λ_=>⟨_,_,_,_,_,_,rfl,λ_ _=>acr _,E,L2⟩) (λi d env s' hd Z=>?_) (λenv s' Z=>?_)
 ·rw[fZ] at hd
  split at hd
  ·cases hd
   obtain⟨b7,b8,b9,gZ,hV,M,rfl,C,B,L⟩:=Z (by omega);refine⟨_,rfl,?_⟩
   refine Qg B hj O mC hl a (by omega) (λx T=>by have:=C x T;omega) λx d c8 c9 s2 T hd K keep=>(λ_=>⟨_,_,_,_,_,λi=>if i=x then M i++[d] else M i,rfl,λy hy=>?_,?_,(keep _ (Å.mp L).1 N F λi hi=>by omega).trans L⟩)
   ·have:=C y hy
    show (if y=x then M y++[d] else M y).length<=i+1
    split
    ·rw[é,abt];omega
    ·omega
   ·have sub:∀y e,e∈M y->e∈(if y=x then M y++[d] else M y):=λy e he=>by
     split
     ·exact ä.mpr (.inl he)
     ·exact he
    have H:=K (R':=λp=>R0 p\/Bn mu (λi=>if i=x then M i++[d] else M i) p) (λp X=>by
     rcases X with X | ⟨Y,e,y,S,R,A⟩
     ·exact .inl X
     ·exact .inr ⟨Y,e,y,S,R,sub y e A⟩) (.inr ⟨Rq Bl hd (by omega),d,x,T,rfl,by show d∈(if x=x then M x++[d] else M x);rw[ß rfl];simp⟩)
    exact⟨H.st,H.dict.mono (λ_ h=>h) (λq V=>by
     rcases V with V | ⟨y,e,Y,S,R⟩
     ·exact .inl (.inl V)
     ·have P:e∈(if y=x then M y++[d] else M y):=S
      by_cases z:y=x
      ·rw[ß z] at P
       rcases ä.mp P with h6|h6
       ·exact .inl (.inr ⟨y,e,Y,h6,R⟩)
       ·rw[å.mp h6,z] at R
        exact .inr R
      ·rw[æ z] at P
       exact .inl (.inr ⟨y,e,Y,P,R⟩)),H.aU,H.ext⟩
  ·cases hd
 rw[bX] at Z;obtain⟨b7,b8,b9,gZ,hV,M,rfl,C,B3,L3⟩:=Z (acr _);rw[bM,eU,gr];refine aco (dJ (n:=8) rfl (by decide)) ?_;refine Wp.gE (λi env s'=>i<=8->∃b7 b8 b9 gZ hV L,env=[some (.ai k),some (.ai j),some (.int mo),some (.int of),some (.int mu),some (memD s.length),some (.ai (s.length+8)),b7,b8,b9,gZ,hV]/\(∀x,x<i->∃c,Lf (M x) c 31 (L x))/\BJ W k j s.length (n+U.toNat) s0 s' M (λp=>R0 p\/Bn mu M p) (λq=>T0 q\/∃(x:Nat) (d:Int),x<8/\d∈M x/\q=.aU mu d x)/\s'[s.length+8]?=some (.lst (jo L i))) _ (λ_=>⟨_,_,_,_,_,λ_=>[],rfl,λx T=>(Nat.not_lt_zero x T).elim,B3,L3⟩) (λi d env s' hd Z=>?_) (λenv s' Z=>?_)
 ·rw[fZ] at hd
  split at hd
  ·rename_i hi
   cases hd;obtain⟨b7,b8,b9,gZ,hV,L,rfl,lf,B,w⟩:=Z (by omega);refine⟨_,rfl,?_⟩;simp only[Ū,Ù,Ú]
   refine Qi B w hi hj O N F a λt c s2 l2 K r=>(λ_=>⟨_,_,_,_,_,λx=>if x=i then t else L x,rfl,λx T=>?_,K,r⟩)
   by_cases NR:x=i
   ·subst NR
    exact⟨c,by show Lf (M x) c 31 (if x=x then t else L x);rw[ß rfl];exact l2⟩
   ·obtain⟨c,l⟩:=lf x (by omega)
    exact⟨c,by show Lf (M x) c 31 (if x=i then t else L x);rw[æ NR];exact l⟩
  ·cases hd
 rw[bX] at Z;obtain⟨b7,b8,b9,gZ,hV,L,rfl,lf,G,L4⟩:=Z (acr _);have B4:BJ W k j s.length (n+U.toNat) s0 s' M (λp=>R0 p\/Ag mu M L p) (λq=>T0 q\/∃(x:Nat) (d:Int),x<8/\d∈M x/\q=.aU mu d x):=⟨G.st,G.dict.mono (λp X=>by
  rcases X with X | ⟨Y,e,y,S,rfl,A⟩
  ·exact .inl X
  ·exact .inr ⟨Y,rfl,by rw[ò];exact A⟩) (λ_ h=>h),G.aU,G.ext⟩
 rw[bM,gr];obtain⟨_,t5,o,f,rfl,x50,x51,P,NS⟩:=gM (m:=5) B4.st (by decide) (by decide);refine aco (zk (s1:=t5) (n:=f.toNat) (i:=f) (acp (by simp only[VC];exact aco o ⟨rfl,rfl⟩)) (by omega) (by omega)) ?_;have B5:=B4.draw hj O NS P;have L5:t5[s.length+8]?=some (.lst (jo L 8)):=(NS.val _ (Å.mp L4).1 N).trans L4;refine Wp.gE (λi env s'=>i<=f.toNat->∃b7 b8 b9 gZ hV,env=[some (.ai k),some (.ai j),some (.int mo),some (.int of),some (.int mu),some (memD s.length),some (.ai (s.length+8)),b7,b8,b9,gZ,hV]/\BJ W k j s.length (n+U.toNat+i) s0 s' M (λp=>R0 p\/Ag mu M L p) (λq=>T0 q\/∃(x:Nat) (d:Int),x<8/\d∈M x/\q=.aU mu d x)/\s'[s.length+8]?=some (.lst (jo L 8))) _ (λ_=>⟨_,_,_,_,_,rfl,B5,L5⟩) (λi d env s' hd Z=>?_) (λenv s' Z=>?_)
 ·rw[fZ] at hd
  split at hd
  ·rename_i hi
   cases hd;obtain⟨b7,b8,b9,gZ,hV,rfl,B,w⟩:=Z (by omega);refine⟨_,rfl,?_⟩;exact Qj B w hj O N mC F hl (by omega) o1 o2 Bl (λd u v X Y S=>.inr ⟨X,rfl,Y,S⟩) λc9 NT c11 s2 K r=>(λ_=>⟨_,_,_,_,_,rfl,K,r⟩)
  ·cases hd
 rw[bX] at Z;obtain⟨b7,b8,b9,gZ,hV,rfl,b,L6⟩:=Z (acr _);exact g _ _ _ _ _ _ _ _ M L lf b.st (b.dict.more (by omega)) b.ext
def pk (ps:List Pg) (m k:Int):Rw×(Nat->Bool):=ps.foldl (iH m k) (λ_=>(true,true),λ_=>false)
def zO:Pg->Prop
 | .made _ _ h l=>∀x∈h,x∉l
 | .aU _ _ _=>True
def Cq {x a:Int} {l:List Int}:decide (x∈a::l)=(decide (x=a)||decide (x∈l)):=by
 by_cases h:x=a<;>simp[h]
theorem JA {m k:Int} {d:Nat}:∀(ps:List Pg) (x:Rw×(Nat->Bool)),(∀p∈ps,0<=p.day/\zO p) ->
  ((ps.foldl (iH m k) x).1 d).1=((x.1 d).1&&!sN ps m k d)/\((ps.foldl (iH m k) x).1 d).2=((x.1 d).2&&(!mN ps m k d&&!lN ps m k d))/\(ps.foldl (iH m k) x).2 d=(x.2 d||mN ps m k d)
 | [],x,_=>by simp[sN,mN,lN,shown,cg,eJ]
 |p::ps,x,h=>by
  obtain⟨T,S,R⟩:=JA (d:=d) ps (iH m k x p) λq Q=>h q (Ï _ Q);obtain⟨I,P⟩:=h p Î;rw[List.foldl_cons,T,S,R];have key:((iH m k x p).1 d).1=((x.1 d).1&&!(mz m k p&&decide ((d:Int)=p.day)))/\((iH m k x p).1 d).2=((x.1 d).2&&(!(jE m k p&&decide ((d:Int)=p.day))&&!(mB m k p&&decide ((d:Int)=p.day))))/\(iH m k x p).2 d=(x.2 d||(jE m k p&&decide ((d:Int)=p.day))):=by
   have O:decide ((d:Int)=p.day)=decide (d=p.day.toNat):=by
    by_cases e:d=p.day.toNat
    ·rw[à e,à (by omega)]
    ·rw[è e,è (by omega)]
   rw[O]
   cases p with
   |aU Z Y N =>
    simp only[iH,mz,mB,jE,TK.Pg.day,aaC,aaK,ο]
    cases (decide (Z=m)&&decide (N=k)) with
    |false=>simp
    |true =>
     simp only[ô,û,fc]
     by_cases e:d=Y.toNat<;>simp[e]
   |made Z Y U X =>
    simp only[iH,mz,mB,jE,TK.Pg.day,aaC,aaK,û,Bool.or_false];by_cases em:Z=m
    ·simp only[em,ĥ,û]
     by_cases e:d=Y.toNat
     ·subst e
      simp only[ĥ,ο];by_cases W:k∈U
      ·have V:k∉X:=P k W
       simp[W,V,fc]
      ·by_cases V:k∈X<;>simp[W,V,fc]
     ·simp only[e,aby,Bool.and_false,aaK,ο]
      by_cases c:k∈U++X<;>simp[c,fc,e]
    ·simp[em]
  obtain⟨M,L,K⟩:=key;rw[M,L,K];have e1:sN (p::ps) m k d=((mz m k p&&decide ((d:Int)=p.day))||sN ps m k d):=by
   unfold sN shown;rw[Ĺ]
   cases mz m k p with
   |false=>rw[æ Í];rfl
   |true=>rw[ß rfl,Ö,Cq];rfl
  have e2:lN (p::ps) m k d=((mB m k p&&decide ((d:Int)=p.day))||lN ps m k d):=by
   unfold lN eJ;rw[Ĺ]
   cases mB m k p with
   |false=>rw[æ Í];rfl
   |true=>rw[ß rfl,Ö,Cq];rfl
  have J:mN (p::ps) m k d=((jE m k p&&decide ((d:Int)=p.day))||mN ps m k d):=by
   unfold mN cg;rw[Ĺ]
   cases jE m k p with
   |false=>rw[æ Í];rfl
   |true=>rw[ß rfl,Ö,Cq];rfl
  rw[e1,e2,J];generalize (mz m k p&&decide ((d:Int)=p.day))=a;generalize (mB m k p&&decide ((d:Int)=p.day))=b;generalize (jE m k p&&decide ((d:Int)=p.day))=c;refine⟨?_,?_,?_⟩
  ·cases a<;>cases sN ps m k d<;>cases (x.1 d).1<;>rfl
  ·cases b<;>cases c<;>cases lN ps m k d<;>cases mN ps m k d<;>cases (x.1 d).2<;>rfl
  ·cases c<;>cases mN ps m k d<;>cases x.2 d<;>rfl
def Vi (h:∀p∈ps,0<=p.day/\zO p) (d:Nat):(pk ps m k).1 d=(f0 (sN ps m k) d,t0 (lN ps m k) (mN ps m k) d)/\(pk ps m k).2 d=mN ps m k d:=by
 obtain⟨Z,Y,X⟩:=JA (m:=m) (k:=k) (d:=d) ps (λ_=>(true,true),λ_=>false) h;refine⟨Prod.ext ?_ ?_,?_⟩
 ·show ((pk ps m k).1 d).1=_;unfold pk f0;rw[Z];simp
 ·show ((pk ps m k).1 d).2=_;unfold pk t0;rw[Y];simp
 ·unfold pk;rw[X];simp
noncomputable abbrev ne2 (x:Bool×Bool):Bool:=x.1||x.2
def WW:gO (gQ x) (.lst []) s=ok (.bl (ne2 x)) s:=by
 obtain⟨f,t⟩:=x
 cases f<;>cases t<;>rfl
def Vj:CS [gQ x,.bl b,.bl f] s=ok (.bl (!b&&(x.1||(f&&ne2 x)))) s:=by
 obtain⟨u,v⟩:=x
 cases u<;>cases v<;>cases b<;>cases f<;>rfl
def Tf:Cj [gQ x,.bl b,.bl f] s=ok (.bl (x.2||(x.1&&(!b||f)))) s:=by
 obtain⟨u,v⟩:=x
 cases u<;>cases v<;>cases b<;>cases f<;>rfl
def WX:Gg (ae (eC (.int 29)) (ae (e1 oT (eC (.int 1))) (ae (e1 oT (eC (.int 1))) ah))) env s=ok ((Ø 30).map λn:Nat=>D.int ((29-n:Nat):Int)) s:=by rfl
def rG (x:Bool×Bool):D:=.tup ((jV x).map D.bl)
def uz (ps:List Pg) (m k:Int):D:=.lst ((Ø 31).map λd=>rG (bw (sN ps m k) (lN ps m k) (mN ps m k) d))
def Ya (s l m:Nat->Bool):bw s l m 30=fw s l m 30:=rfl
def Vk (s l m:Nat->Bool) (h:d<=29):bw s l m d=((fw s l m d).1&&((bw s l m (d+1)).2||(bw s l m (d+1)).1),(fw s l m d).2&&((bw s l m (d+1)).2||((bw s l m (d+1)).1&&m (d+1)))):=by
 unfold bw;rw[show 30-d=(29-d)+1 by omega,show 30-(d+1)=29-d by omega];simp only[u5];rw[show 29-(29-d)=d by omega,show 30-(29-d)=d+1 by omega]
def LB (hl:ps.length<=1000) (hp:∀p∈ps,(0<=p.day/\p.day<31)/\lP p/\zO p):Wp (tK [bD ps,.int m,.int k] s) λd s'=>d=uz ps m k/\∃c,s'=s++c:=by
 unfold tK;rw[iQ];refine⟨rfl,?_⟩;rw[eU,cy];unfold oK;simp only[bb];refine aco (dJ (n:=31) rfl (by decide)) ?_;rw[nF];refine⟨by rw[bX];exact le_size (by decide),?_⟩;rw[bb,wy];refine aco (fX (λ_=>true) (λ_=>gQ (true,true)) bW λd Z=>⟨[some (.int d)],rfl,rfl,λ_=>rfl⟩) ?_;simp only[aP,cZ,filter_tt,Ö,Ħ,ĕ,ķ,Ñ,Nat.reduceSub,Ù,Ú,bM];rw[eU,cy];simp only[bb];refine aco (dJ (n:=32) rfl (by decide)) ?_;rw[nF];refine⟨by rw[bX];exact le_size (by decide),?_⟩;rw[bb];have N:bS 0 32=((Ø 32).map λi:Nat=>(i:Int)).map D.int:=by rw[tj,ĉ];congr 1;funext i;simp
 rw[N];refine aco (fX (λ_=>true) (λ_=>.bl false) _ λd Z=>⟨[some (.int d)],rfl,rfl,λ_=>rfl⟩) ?_;simp only[aP,cZ,filter_tt,Ù,Ú,bM];have J:s++[Cell.lst (bW.map λ_=>gQ (true,true))]++[Cell.lst (((Ø 32).map λi:Nat=>(i:Int)).map λ_=>D.bl false)]=ck s (λ_=>(true,true)) (λ_=>false):=by
  unfold bW;simp only[ĉ,ŗ,ę,ĕ,ķ]
 have I:(s++[Cell.lst (bW.map λ_=>gQ (true,true))]).length=s.length+1:=by simp
 rw[J,I];rw[eU,gr];refine aco (iE (ds:=ps.map Pg.d) rfl) ?_;refine Wp.gE (λi env s'=>∃Y T W V,env=[some (bD ps),some (.int m),some (.int k),some (.ai s.length),some (.ai (s.length+1)),Y,T,W,V]/\s'=ck s ((ps.take i).foldl (iH m k) (λ_=>(true,true),λ_=>false)).1 ((ps.take i).foldl (iH m k) (λ_=>(true,true),λ_=>false)).2) _ ⟨_,_,_,_,rfl,rfl⟩ (λi d env s' Z U=>?_) (λenv s' U=>?_)
 ·obtain⟨Y,T,W,V,rfl,rfl⟩:=U
  rw[á] at Z
  cases O:ps[i]? with
  |none=>rw[O] at Z;cases Z
  |some p =>
   rw[O] at Z;cases Z;obtain⟨S,Q,C⟩:=hp p (š O);refine⟨_,rfl,?_⟩;refine Te S Q ⟨_,_,_,_,rfl,?_⟩;rw[abm,O];simp only[Option.toList_some,List.foldl_append,List.foldl_cons,List.foldl_nil]
 obtain⟨Y,T,W,V,rfl,rfl⟩:=U;rw[Ã,abC];have P:=Vi (ps:=ps) (m:=m) (k:=k) λp q=>⟨(hp p q).1.1,(hp p q).2.2⟩;unfold pk at P;generalize (ps.foldl (iH m k) (λ_=>(true,true),λ_=>false))=x0 at P;obtain⟨R,F⟩:=x0;have X:∀d,R d=(f0 (sN ps m k) d,t0 (lN ps m k) (mN ps m k) d):=λd=>(P d).1;have L:∀d,F d=mN ps m k d:=λd=>(P d).2;clear P;rw[bM,eU,gr];refine aco (DJ (i:=1) (j:=31) rfl (by decide) (by decide) (by decide) (by decide)) ?_;rw[show ((31:Int)-1).toNat=30 from rfl]
 refine Wp.gE (λi env s'=>i<=30->∃Y T W V R,env=[some (bD ps),some (.int m),some (.int k),some (.ai s.length),some (.ai (s.length+1)),Y,T,W,V]/\s'=ck s R F/\∀d,R d=if d<=i then fw (sN ps m k) (lN ps m k) (mN ps m k) d else (f0 (sN ps m k) d,t0 (lN ps m k) (mN ps m k) d)) _ (λ_=>⟨_,_,_,_,R,rfl,rfl,λd=>?_⟩) (λi d env s' Z U=>?_) (λenv s' U=>?_)
 ·split
  ·rw[show d=0 by omega,X];rfl
  ·exact X d
 ·rw[fZ] at Z
  split at Z
  ·rename_i hi
   cases Z;obtain⟨Y,T,W,V,R,rfl,rfl,X⟩:=U (by omega);refine⟨_,rfl,?_⟩;have H:(1:Int)+(i:Int)=((i+1:Nat):Int):=by omega
   rw[H];simp only[Ù,Ú];rw[eU,cy];simp only[iP,fm,dI,dO,bG,bH,fT,sZ];rw[show (((i+1:Nat):Int)-1)=(i:Int) by omega];refine aco (vU (by omega) (by omega)) (aco (Kv (by omega) (by omega)) ?_);refine⟨le_size (by simp only[ù,Ę];decide),?_⟩;simp only[qU,qe,qm,Ù,Ú,bM,ò];rw[nK,eG];have row:aR (e2 aj (aa 3) (aa 6)) [some (bD ps),some (.int m),some (.int k),some (.ai s.length),some (.ai (s.length+1)),Y,some (.int ((i+1:Nat):Int)),some (gQ (R i)),some (.bl (F (i+1)))] (ck s R F)=ok ((jV (R (i+1))).map D.bl) (ck s R F):=by
    refine fy (acp ?_);simp only[dO,bG,bH];exact aco (vU (by omega) (by omega)) ⟨by rw[ò],rfl⟩
   refine aco row ⟨yW _,?_⟩;refine aco (zr (caps:=[some (gQ (R i)),some (.bl (F (i+1)))]) (λb=>(b&&ne2 (R i))||(!b&&((R i).1||(F (i+1)&&ne2 (R i))))) λb=>?_) ?_
   ·refine acp ?_
    simp only[VC,WW,Vj]
    cases b with
    |true=>cases ne2 (R i)<;>simp[aP]
    |false=>simp[aP]
   ·simp only[bG,bH]
    refine⟨_,zq (by omega) (by omega),λ_=>⟨_,_,_,_,_,rfl,rfl,λd=>?_⟩⟩;rw[ò];unfold fc;by_cases e:d=i+1
    ·rw[ß e,ß (by omega),e]
     have S:=X (i+1);rw[æ (by omega)] at S;have Q:=X i;rw[ß (acr _)] at Q;simp only[fw,S,Q,L,aaC,û,aaK,Ā,ς,Bool.or_false,ne2]
    ·rw[æ e,X d]
     by_cases e2:d<=i
     ·rw[ß e2,ß (by omega)]
     ·rw[æ e2,æ (by omega)]
  ·cases Z
 rw[bX] at U;obtain⟨Y,T,W,V,R,rfl,rfl,X⟩:=U (acr _);rw[bM,eU,gr];refine aco WX ?_
 refine Wp.gE (λn env s'=>n<=30->∃Y T W V R,env=[some (bD ps),some (.int m),some (.int k),some (.ai s.length),some (.ai (s.length+1)),Y,T,W,V]/\s'=ck s R F/\∀d,d<=30->R d=if 30-n<=d then bw (sN ps m k) (lN ps m k) (mN ps m k) d else fw (sN ps m k) (lN ps m k) (mN ps m k) d) _ (λ_=>⟨_,_,_,_,R,rfl,rfl,λd Z=>?_⟩) (λn d env s' Z U=>?_) (λenv s' U=>?_)
 ·rw[X d,ß Z]
  split
  ·rw[show d=30 by omega,Ya]
  ·rfl
 ·rw[á] at Z
  by_cases K:n<30
  ·rw[č K] at Z
   cases Z;obtain⟨Y,T,W,V,R,rfl,rfl,X⟩:=U (by omega);refine⟨_,rfl,?_⟩;simp only[Ù,Ú];generalize Z:29-n=d;rw[nK,eG];have row:aR (e2 aj (aa 3) (aa 6)) [some (bD ps),some (.int m),some (.int k),some (.ai s.length),some (.ai (s.length+1)),Y,some (.int (d:Int)),W,V] (ck s R F)=ok ((jV (R d)).map D.bl) (ck s R F):=by
    refine fy (acp ?_);simp only[dO,bG,bH];exact aco (vU (by omega) (by omega)) ⟨by rw[ò],rfl⟩
   refine aco row ⟨yW _,?_⟩;refine aco (zr (caps:=[some (.ai s.length),some (.ai (s.length+1)),some (.int (d:Int))]) (λb=>(R (d+1)).2||((R (d+1)).1&&(!b||F (d+1)))) λb=>?_) ?_
   ·refine acp ?_
    simp only[VC];refine aco (vU (by omega) (by omega)) (aco (Kv (by omega) (by omega)) ?_);rw[show ((d:Int)+1).toNat=d+1 by omega];refine aco Tf ?_;simp only[VC,Ě]
   ·simp only[bG,bH]
    refine⟨_,zq (by omega) (by omega),λ_=>⟨_,_,_,_,_,rfl,rfl,λe G=>?_⟩⟩;rw[ò];unfold fc;by_cases M:e=d
    ·rw[ß M,ß (by omega),M,Vk _ _ _ (by omega)]
     have S:=X d (by omega);rw[æ (by omega)] at S;have Q:=X (d+1) (by omega);rw[ß (by omega)] at Q;simp only[S,Q,L,aaK,Ā,Bool.true_or,ς,ο]
    ·rw[æ M,X e G]
     by_cases e2:30-n<=e
     ·rw[ß e2,ß (by omega)]
     ·rw[æ e2,æ (by omega)]
  ·rw[ú (by simpa using K)] at Z
   cases Z
 rw[Ã,İ] at U;obtain⟨Y,T,W,V,R,rfl,rfl,X⟩:=U (acr _);rw[bM,gL,eG];have E:aR (kG (aa 3)) [some (bD ps),some (.int m),some (.int k),some (.ai s.length),some (.ai (s.length+1)),Y,T,W,V] (ck s R F)=ok ((Ø 31).map λd=>gQ (R d)) (s++[.dead,fN F]):=by
  refine fy (acp ?_);simp only[qB,bG,bH];refine aco (show dw (.ai s.length) (ck s R F)=ok (.lst ((Ø 31).map λd=>gQ (R d))) (s++[.dead,fN F]) from ?_) ⟨rfl,rfl⟩;simp only[dw,Fg];simp[ck,Ĳ]
 refine aco E ⟨by rw[Ã,İ];exact le_size (by decide),?_⟩;refine aco (comp_map (λd=>gQ (R d)) (λ_=>true) (λd=>rG (R d)) (Ø 31) λd Z=>⟨[some (gQ (R d))],rfl,rfl,λ_=>rfl⟩) ?_;rw[filter_tt,ia];refine⟨?_,[.dead,fN F],rfl⟩;unfold uz;congr 1;apply aaP;intro d Z;have:=ñ.mp Z;rw[X d (by omega),ß (by omega)]
def Vl (N:vG s l m) (hd:d<=30):bw s l m d≠(false,false):=by
 rw[Mu N hd]
 cases Z:pr s m d with
 |false=>simp
 |true=>simp[Mt N hd Z]
def Pk (hd:rF ps) (h:∀m∈m4,∀k∈k8,vG (sN ps m k) (lN ps m k) (mN ps m k)):nR ps=[]:=by
 unfold nR;rw[aa6];intro m W;rw[aa6];intro k V;rw[ab4];unfold mO;rw[aa6];intro d U;rw[ab4,aag];intro e T Z;have hs:d∈shown ps m k:=nA.mp U;obtain⟨i,hi,rfl⟩:=ó.mp T;rw[ñ] at hi;have R:=hd.of hs;unfold pV at Z;simp only[Ê,aao,È,Ġ] at Z;have e1:((d.toNat:Nat):Int)=d:=by omega
 have e2:(((d+(i:Int)).toNat:Nat):Int)=d+(i:Int):=by omega
 obtain⟨x,Q,P,X⟩:=h m W k V d.toNat (d+(i:Int)).toNat (by simp only[sN,e1,È];exact hs) (by omega) (by omega) (by
  rcases Z.1 with z | ⟨O,S⟩
  ·exact .inl (by simp only[lN,e2,È];exact z)
  ·exact .inr ⟨by omega,by simp only[mN,e1,È];exact S⟩)
 have Y:=Z.2;unfold lQ at Y;rw[abl] at Y;simp only[mN,È] at X;refine Y _ X ?_;simp only[Ê,È];omega
abbrev RB (n:Nat) (MM LL:Nat->Nat->List Int) (p:Pg):Prop:=∃m:Nat,m<n/\Ag m (MM m) (LL m) p
abbrev TB (n:Nat) (MM:Nat->Nat->List Int) (q:Pg):Prop:=∃m:Nat,m<n/\∃(x:Nat) (d:Int),x<8/\d∈MM m x/\q=.aU m d x
def Th (h:fv W R T s j n) (hn:n<64) (hj:env[1]?=some (some (.ai j)))
 (q:∀ps:List Pg,(∀p∈ps,R p)->(∀p,T p->p∈ps)->ps.length<=n->(ps.Pairwise λa b=>fW.lt a b=true)->Q (bD ps) s):Wp (eB eI (ae (eB tJ (ae (eB tI (ae (aa 1) ah)) ah)) ah) env s) Q:=by
 obtain⟨ps,e,Z,len⟩:=h;have e1:aa 1 env s=ok (.ai j) s:=by unfold aa;rw[hj]
 have e2:tI [.ai j] s=ok (.lst (ps.map Pg.d)) s:=by
  unfold tI;simp only[e];rw[ß (by rw[Ã];exact fM (by omega)),ĉ];rfl
 have X:tJ [.lst (ps.map Pg.d)] s=ok (.lst ((ST.kC fW ps).map Pg.d)) s:=by
  unfold tJ;simp only[res];rw[ß (by rw[Ã];omega),Jo];rfl
 simp only[kD,fm,dI];refine aco e1 (aco e2 (aco X ?_));refine aco (show eI [.lst ((ST.kC fW ps).map Pg.d)] s=ok (bD (ST.kC fW ps)) s from rfl) (q _ (λp Y=>Z.2.1 p ((ST.vi ps).mem_iff.mp Y)) (λp Y=>(ST.vi ps).mem_iff.mpr (Z.2.2 p Y)) (by rw[(ST.vi ps).length_eq];exact len) (Tc Z.1))
def Ox (lf:∀m x,m<n->x<8->∃c,Lf (MM m x) c 31 (LL m x)) (hp:∀p∈ps,RB n MM LL p) (ht:∀p,TB n MM p->p∈ps) (hk:0<=k/\k<8):vG (sN ps m k) (lN ps m k) (mN ps m k):=by
 have O:∀{d:Int},d∈shown ps m k->∃m0:Nat,m0<n/\m=m0/\d∈LL m0 k.toNat:=λ{d} h=>by
  obtain⟨p,Z,rfl⟩:=ó.mp h;rw[ü] at Z;obtain⟨m0,X,V⟩:=hp p Z.1
  cases p with
  |made U T u v =>
   have Y:=Z.2;simp only[mz,Ê,È] at Y;obtain⟨_,S,N,_⟩:=V;exact⟨m0,X,by rw[<- Y.1];exact S,N k Y.2⟩
  |aU U T P=>cases Z.2
 have M:∀{d:Int} {m0:Nat},m=m0->d∈eJ ps m k->d∉LL m0 k.toNat:=λ{d m0} e h=>by
  obtain⟨p,Z,rfl⟩:=ó.mp h;rw[ü] at Z;obtain⟨Q,X,V⟩:=hp p Z.1
  cases p with
  |made U T u v =>
   have Y:=Z.2;simp only[mB,Ê,È] at Y;obtain⟨_,S,_,L⟩:=V;have:Q=m0:=by have:=Y.1;omega
   rw[<- this];exact L k Y.2
  |aU U T P=>cases Z.2
 have K:∀{d:Int} {m0:Nat},m=m0->d∈cg ps m k->d∈MM m0 k.toNat:=λ{d m0} e h=>by
  obtain⟨p,Z,rfl⟩:=ó.mp h;rw[ü] at Z;obtain⟨Q,X,V⟩:=hp p Z.1
  cases p with
  |made U T u v=>cases Z.2
  |aU U T P =>
   have Y:=Z.2;simp only[jE,Ê,È] at Y;obtain⟨_,S,R⟩:=V;have:Q=m0:=by have:=Y.1;omega
   rw[<- this,<- Y.2];exact R
 intro d e hs J D W;simp only[sN,lN,mN,È] at hs W;obtain⟨m0,X,em,R⟩:=O hs;obtain⟨c,F⟩:=lf m0 k.toNat X (by omega)
 rcases W with W | ⟨rfl,W⟩
 ·apply Classical.byContradiction
  intro I;have S:∀x:Nat,d<x->x<=e->(x:Int)∉MM m0 k.toNat:=λx H Y G=>by
   refine I ⟨x,H,Y,?_⟩;simp only[mN,È];have E:=ht (.aU m0 x (k.toNat:Int)) ⟨m0,X,k.toNat,x,by omega,G,rfl⟩;refine ó.mpr ⟨_,ü.mpr ⟨E,?_⟩,rfl⟩;simp only[jE,Ê,È];exact⟨em.symm,by omega⟩
  have all:∀i:Nat,d+i<=e->((d+i:Nat):Int)∈LL m0 k.toNat:=by
   intro i
   induction i with
   |zero=>intro _;exact R
   |succ i ih =>
    intro hi;have:=F.on _ (ih (by omega)) (by omega) (by
     have:=S (d+i+1) (by omega) (by omega);rwa [show ((d+i+1:Nat):Int)=((d+i:Nat):Int)+1 by omega] at this)
    rwa [show ((d+(i+1):Nat):Int)=((d+i:Nat):Int)+1 by omega]
  have:=all (e-d) (by omega);rw[show d+(e-d)=e by omega] at this;exact M em W this
 ·exact((F.lo _ R).2.2 (K em W)).elim
def Ti (h:bP s k):Wp (zd W [.ai k] s) λd s'=>∃ps,d=bD ps/\ps.length<=21/\bP s' k/\Ex k s s'/\gw ps=true:=by
 have a:=h.lt;have C:s.length≠k:=by omega
 unfold zd;rw[iQ];refine⟨rfl,?_⟩;rw[eU];simp only[cy,iP,fm,dI,Vd];have z:fv W (RB 0 (λ_ _=>[]) (λ_ _=>[])) (TB 0 (λ_ _=>[])) (s++[.dT []]) s.length 0:=⟨[],by simp,⟨.nil,λ_ h=>(Ĝ h).elim,λp ⟨m,Z,_⟩=>(Nat.not_lt_zero m Z).elim⟩,acr _⟩;have y:bP (s++[.dT []]) k:=h.app _
 try simp only[VC]
 refine(gM y (by decide) (by decide)).mono λd t1 w=>?_;obtain⟨T,rfl,uX,uY,S,e1⟩:=w
 try simp only[VC]
 refine(gM S (by decide) (by decide)).mono λd B hd2=>?_;obtain⟨v,rfl,Gp,Gq,Y,e2⟩:=hd2
 try simp only[VC]
 refine⟨by decide,?_⟩;have u:=z.ex (e1.trans e2) C;have ext:Ex k s B:=(Ex.app k s _).trans (e1.trans e2)
 try simp only[VC]
 refine aco (zk (s1:=B) (n:=(1+T).toNat) (i:=1+T) rfl (by omega) (by omega)) ?_;refine Wp.gE (λi env s'=>i<=(1+T).toNat->∃N K J I H G F E X V,env=[some (.ai k),some (.ai s.length),some (.int (1+T)),some (.int (1+v)),N,K,J,I,H,G,F,E]/\(∀m x,m<i->x<8->∃c,Lf (X m x) c 31 (V m x))/\bP s' k/\fv W (RB i X V) (TB i X) s' s.length (7*i)/\Ex k s s') _ (λ_=>⟨_,_,_,_,_,_,_,_,_,_,rfl,λm x Z=>(Nat.not_lt_zero m Z).elim,Y,u,ext⟩) (λi d env s' R Q=>?_) (λenv s' Q=>?_)
 ·rw[fZ] at R
  split at R
  ·rename_i hi
   cases R;obtain⟨N,K,J,I,H,G,F,E,X,V,rfl,lf,g1,g2,g3⟩:=Q (by omega);refine⟨_,rfl,?_⟩
   refine Pj g1 g2 g3 C (acr _) (by omega) (by omega) (by omega) (by omega) λc5 c6 c7 c8 c9 NT t s2 M L D r o j=>(λ_=>⟨_,_,_,_,_,_,_,_,λm=>if m=i then M else X m,λm=>if m=i then L else V m,rfl,λm x Z P=>?_,r,(o.more (by omega)).mono (λp O=>?_) (λq g=>?_),j⟩)
   ·by_cases U:m=i
    ·obtain⟨c,l⟩:=D x P
     exact⟨c,by simp only[U,ô];exact l⟩
    ·obtain⟨c,l⟩:=lf m x (by omega) P
     exact⟨c,by simp only[U,ê];exact l⟩
   ·rcases O with ⟨m,Z,ha⟩|ha
    ·exact⟨m,by omega,by simp only[show m≠i by omega,ê];exact ha⟩
    ·exact⟨i,by omega,by simp only[ô];rw[Ū] at ha;exact ha⟩
   ·obtain⟨m,Z,x,d,S,Y,rfl⟩:=g
    by_cases U:m=i
    ·subst U
     simp only[ô] at Y;exact .inr ⟨x,d,S,Y,by rw[Ū]⟩
    ·simp only[U,ê] at Y
     exact .inl ⟨m,by omega,x,d,S,Y,rfl⟩
  ·cases R
 ·rw[bX] at Q
  obtain⟨N,K,J,I,H,G,F,E,X,V,rfl,lf,g1,g2,g3⟩:=Q (acr _);simp only[gL,bM,ia];refine Th (g2.more (m:=21) (by omega)) (by decide) rfl λps O f e b=>⟨ps,rfl,e,g1,g3,?_⟩;have laid:Laid ps:=⟨λp h=>by obtain⟨m,_,ha⟩:=O p h;exact ha.1,b⟩;have A:=laid.lA (by omega);unfold gw;rw[A,û,abA];exact Pk (IE A) λm _ x P=>Ox lf O f (zN.mp P)
noncomputable def brk (l:List Int):List Int:=((Ø (l.length-1)).filter λi=>l.getD (i+1) 0==l.getD i 0).map λi:Nat=>1+(i:Int)
noncomputable def AN:List Int->List Int->Bool
 | [],[]=>false
 | [],_::_=>true
 |_::_,[]=>false
 |x::Z,y::Y=>if (x==y)=true then AN Z Y else decide (x<y)
def zP (h:beq x y=true):gB (x::xs) (y::ys)=gB xs ys:=by
 rw[gB,ß h]
def zQ (h:beq x y=false):gB (x::xs) (y::ys)=i4 x y:=by
 rw[gB,æ (by rw[h];exact Í)]
theorem LC:∀(xs ys:List Int),gB (xs.map D.int) (ys.map D.int)=some (AN xs ys)
 | [],[]=>rfl
 | [],_::_=>rfl
 |_::_,[]=>rfl
 |x::xs,y::ys=>by
  rw[Ö,Ö,AN]
  cases h:(x==y) with
  |true=>rw[zP (show beq (.int x) (.int y)=true from h),ß rfl];exact LC xs ys
  |false=>rw[zQ (show beq (.int x) (.int y)=false from h),æ Í];rfl
def Kx {c:ag} {ds:List D}:dw (.ai c.length) (c++[.lst ds])=ok (.lst ds) (c++[.dead]):=by
 unfold dw;have e:(c++[Cell.lst ds])[c.length]?=some (.lst ds):=by simp
 simp only[e];rw[Ĳ _ _ (acr _)];simp
def Ex.get (h:Ex k s s') (e:s[j]?=some c) (hj:j≠k):s'[j]?=some c:=by
 rw[h.val j (Å.mp e).1 hj];exact e
theorem Ex.hi (h:Ex k s s') (hj:s.length<=j) (c:Cell):Ex k s (s'.set j c):=⟨by rw[Ģ];exact h.len,λi hi Z=>by rw[Ý (by omega)];exact h.val i hi Z⟩
structure RI (s0:ag) (k rh mh:Nat) (rs:List (List Int)) (s:ag):Prop where
 st:bP s k
 ex:Ex k s0 s
 run:s[rh]?=some (.lst (rs.map mD))
 mo:∃a b,s[mh]?=some (.lst [mD a,mD b])/\dR 8 a/\dR 8 b
 Bk:∀r∈rs,dR 8 r
 k1:k<s0.length
 r1:s0.length<=rh
 m1:s0.length<=mh
 ne:rh≠mh
def RI.draw (h:RI s0 k rh mh rs s) (g:bP s' k) (x:Ex k s s'):RI s0 k rh mh rs s':=by
 have:=h.k1;have:=h.r1;have:=h.m1;obtain⟨a,b,e,Z,Y⟩:=h.mo;exact⟨g,h.ex.trans x,x.get h.run (by omega),⟨a,b,x.get e (by omega),Z,Y⟩,h.Bk,h.k1,h.r1,h.m1,h.ne⟩
def RI.push (h:RI s0 k rh mh rs s) (hr:dR 8 r):RI s0 k rh mh (rs++[r]) (s.set rh (.lst (rs.map mD++[mD r]))):=by
 have:=h.k1;have:=h.r1;have:=h.m1;have:=h.ne;obtain⟨a,b,e,Z,Y⟩:=h.mo;refine⟨h.st.set (by omega) _,h.ex.hi (by omega) _,?_,⟨a,b,by rw[Ý (by omega)];exact e,Z,Y⟩,λx hx=>?_,h.k1,h.r1,h.m1,h.ne⟩
 ·rw[ç (Å.mp h.run).1,õ]
  rfl
 ·rcases ä.mp hx with hx|hx
  ·exact h.Bk x hx
  ·rw[å.mp hx];exact hr
def RI.put (h:RI s0 k rh mh rs s) (h0:at_=0\/at_=1):(∃a,aj (.ai mh) (.int at_) s=ok (mD a) s/\dR 8 a)/\∀c,dR 8 c->∃s',je (.ai mh) (.int at_) (mD c) s=some s'/\RI s0 k rh mh rs s':=by
 have:=h.k1;have:=h.r1;have:=h.m1;have:=h.ne;obtain⟨a,b,e,Z,Y⟩:=h.mo;have key:∀a b,dR 8 a->dR 8 b->RI s0 k rh mh rs (s.set mh (.lst [mD a,mD b])):=λa b Z Y=>⟨h.st.set (by omega) _,h.ex.hi (by omega) _,by rw[Ý (by omega)];exact h.run,⟨a,b,ç (Å.mp e).1,Z,Y⟩,h.Bk,h.k1,h.r1,h.m1,h.ne⟩
 rcases h0 with rfl|rfl
 ·exact⟨⟨a,Gm _ _ _ _ e,Z⟩,λc X=>⟨_,M0 _ _ _ _ _ e,key _ _ X Y⟩⟩
 ·exact⟨⟨b,Gn _ _ _ _ e,Y⟩,λc X=>⟨_,M3 _ _ _ _ _ e,key _ _ Z X⟩⟩
structure Ft (n W:Nat) (d:D):Prop where
 pl:plain d=true
 sh:(py d).showable=true
 nd:(py d).hasDict=false
 dp:(py d).depth<=n
 wt:(py d).weight<=W
 lv:(py d).leavesShort 40=true
def Fh (d:D):Bool:=plain d&&(py d).showable&&!(py d).hasDict&&decide ((py d).depth<=0)&&decide ((py d).weight<=110)&&(py d).leavesShort 40
def Eo (h:Fh d=true):Ft 0 110 d:=by
 unfold Fh at h;simp only[Ê,È,Ġ] at h;obtain⟨⟨⟨⟨⟨Z,Y⟩,X⟩,W⟩,V⟩,U⟩:=h;exact⟨Z,Y,X,W,V,U⟩
def WY:∀n:Fin 62,Fh (.int ((n.val:Int)-1))=true:=by decide +kernel
def tR (h1:-1<=n) (h2:n<=60):Ft 0 110 (.int n):=by
 refine Eo ?_;have:=WY ⟨(n+1).toNat,by omega⟩;have e2:(((n+1).toNat:Nat):Int)-1=n:=by omega
 rw[e2] at this;exact this
theorem LD:∀{ds:List D},(∀x∈ds,Ft n W x)->nN ds=true/\PyData.showableAll (cO ds)=true/\PyData.hasDictAll (cO ds)=false/\aar (cO ds)<=n/\aaN (cO ds)<=ds.length*(W+1)/\PyData.leavesShortAll 40 (cO ds)=true
 | [],_=>⟨rfl,rfl,rfl,ē _,by simp[cO,aaN],rfl⟩
 |x::Z,h=>by
  obtain⟨z,a,b,c,d,e⟩:=LD (ds:=Z) λy Y=>h y (Ï _ Y);have k:=h x Î;refine⟨?_,?_,?_,?_,?_,?_⟩
  ·simp only[nN,k.pl,z,ĵ]
  ·simp only[cO,PyData.showableAll,k.sh,a,ĵ]
  ·simp only[cO,PyData.hasDictAll,k.nd,b,Bool.or_self]
  ·simp only[cO,aar];have:=k.dp;omega
  ·simp only[cO,aaN,ù]
   have:=k.wt;rw[Nat.add_mul];omega
  ·simp only[cO,PyData.leavesShortAll,k.lv,e,ĵ]
def oQ (hl:ds.length<=c) (h:∀x∈ds,Ft n W x):Ft (n+1) (c*(W+1)) (.tup ds):=by
 obtain⟨z,a,b,X,Z,Y⟩:=LD h;have hw:aaN (cO ds)<=c*(W+1):=Û Z (abD _ hl);exact⟨by simp only[plain];exact z,by simp only[py,PyData.showable];exact a,by simp only[py,PyData.hasDict];exact b,by simp only[py,PyData.depth];omega,by simp only[py,PyData.weight];exact hw,by simp only[py,PyData.leavesShort];exact Y⟩
def WZ (h:Ft n W d) (hn:n<=100) (hw:W<=300000):v9 d=true:=by
 have l:=PyData.shown_le 40 (by decide) _ h.lv;have w:=h.wt;have p:=h.dp;have z:Õ=16777216:=aal;have Z:(py d).shown.length<=Õ:=by rw[z];omega
 unfold v9;rw[h.pl,h.sh,h.nd,à (show (py d).depth<=100 by omega),à Z];rfl
def ne_str:gO (.str x) (.str x) s=ok (.bl false) s:=by
 show (match iF (.str x) (.str x) with|some b=>ok (D.bl (!b)) s|none=>none)=_
 have e:iF (.str x) (.str x)=some true:=by
  unfold iF;rw[ß (show (mj (.str x)&&mj (.str x))=true from rfl)];simp[beq]
 rw[e];rfl
structure NU (p:Pg):Prop where
 day:0<=p.day/\p.day<31
 lP:lP p
 apart:zO p
 ft:Ft 3 7116 p.d
def Ft.mono (h:Ft n W d) (h1:n<=n') (h2:W<=W'):Ft n' W' d:=⟨h.pl,h.sh,h.nd,Û h.dp h1,Û h.wt h2,h.lv⟩
def LF:Ft 0 110 (.str "made")/\Ft 0 110 (.str "mended"):=⟨Eo (by decide +kernel),Eo (by decide +kernel)⟩
def zR (h:dR 8 ns):Ft 1 888 (mD ns):=by
 refine oQ (c:=8) (W:=110) (by rw[Ã];exact h.len) λx Z=>?_;obtain⟨y,Y,rfl⟩:=ó.mp Z;have:=h.lo y Y;exact tR (by omega) (by omega)
def Vm (h:gv p=true):NU p:=by
 cases p with
 |made m d P l =>
  simp only[gv,km,lO,Ê,È] at h;obtain⟨⟨T,Y⟩,S,R,X⟩:=h;have V:=HV S;have U:=HV R;refine⟨Y,⟨by have:=V.len;omega,by have:=U.len;omega⟩,λx Z Q=>?_,?_⟩
  ·unfold kq at X
   rw[Ġ,abl] at X;exact X x Z (à Q)
  ·refine oQ (c:=4) (n:=2) (W:=1778) (by simp) λx Z=>?_
   simp only[Ó,Ĝ,or_false] at Z
   rcases Z with rfl|rfl|rfl|rfl
   ·exact LF.1.mono (by omega) (by omega)
   ·exact(tR (by omega) (by omega)).mono (by omega) (by omega)
   ·exact(tR (by omega) (by omega)).mono (by omega) (by omega)
   ·refine oQ (c:=2) (n:=1) (W:=888) (by simp) λx Z=>?_
    simp only[Ó,Ĝ,or_false] at Z
    rcases Z with rfl|rfl
    ·exact zR V
    ·exact zR U
 |aU m d k =>
  simp only[gv,km,lO,markB,Ê,È] at h;obtain⟨⟨T,Y⟩,O⟩:=h;refine⟨Y,trivial,trivial,(oQ (c:=4) (n:=0) (W:=110) (by simp) λx Z=>?_).mono (by omega) (by omega)⟩;simp only[Ó,Ĝ,or_false] at Z
  rcases Z with rfl|rfl|rfl|rfl
  ·exact LF.2
  ·exact tR (by omega) (by omega)
  ·exact tR (by omega) (by omega)
  ·exact tR (by omega) (by omega)
def nC (h:gw ps=true):ps.length<=24/\∀p∈ps,NU p:=by
 unfold gw lA at h;simp only[Ê,È,Ĕ] at h;exact⟨h.1.1,λp Z=>Vm (h.1.2.1 p Z)⟩
def Tj {fn:List D->ag->Res D} {G:Int->D} {b:D} {mu:Int} (hf:∀k s,Wp (fn [b,.int mu,.int k] s) λd s'=>d=G k/\∃c,s'=s++c) {caps:Env} {s:ag} (ec:caps=[some b,some (.int mu)]) {Q:List D->ag->Prop} (q:∀c,Q (k8.map G) (s++c)) :
  Wp (bY 1 caps (gN 0) ba (ax fn (ae (aa 1) (ae (aa 2) (ae (aa 0) ah)))) (bS 0 8) s) Q:=by
 rw[ec];refine qk (λi Z s'=>i<=8->Z=((Ø i).map λi:Nat=>(i:Int)).map G/\∃c,s'=s++c) (bS 0 8) (λ_=>⟨rfl,[],by simp⟩) (λi d Z s' Y X=>?_) λZ s' X=>?_
 ·rw[fZ] at Y
  split at Y
  ·rename_i hi
   cases Y;obtain⟨rfl,c,rfl⟩:=X (by omega);refine⟨[some (.int (0+i)),some b,some (.int mu)],rfl,?_⟩;refine aco (show ba _ _=ok true _ from rfl) ?_;rw[ß rfl];simp only[VC];refine(hf (0+(i:Int)) _).mono λx U W=>?_;obtain⟨rfl,V,rfl⟩:=W;refine λ_=>⟨?_,c++V,by simp⟩;rw[ζ,õ,õ];simp
  ·cases Y
 ·rw[bX] at X
  obtain⟨rfl,c,rfl⟩:=X (acr _);exact q c
def t9 (ps:List Pg) (m:Int):D:=.lst (k8.map (uz ps m))
def Ep (h:0<=k/\k<8):aj (.lst (k8.map G)) (.int k) s=ok (G k) s:=by
 obtain⟨x,e1,e2⟩:=tO (xs:=k8.map G) h.1 (by show k<8;exact h.2);have:x=G k:=by
  rw[á] at e2;have Z:k8[k.toNat]?=some k:=by
   unfold k8;rw[á,č (by omega)];simp;omega
  rw[Z] at e2;exact(acs e2).symm
 subst this;simp only[aj,iy,res,e1,bE]
def DL (h:0<=d/\d<31):aj (uz ps m k) (.int d) s=ok (rG (bw (sN ps m k) (lN ps m k) (mN ps m k) d.toNat)) s:=by
 simp only[aj,iy,res,uz,zp h.1 h.2,bE]
def W0 {n:Nat}:kh (bD ps) none (some (n:Int)) s=ok (bD (ps.take n)) s:=by
 show ok (D.tup (cutD (ps.map Pg.d) none (some (n:Int)))) s=_;unfold cutD;rw[HT.JR];show ok (D.tup (((ps.map Pg.d).drop 0).take (min n (ps.map Pg.d).length-0))) s=_;rw[ab9,Nat.sub_zero,<- List.map_take,Ã];congr 3;rw[List.take_eq_take_min (i:=n)]
def Tn (hl:ps.length<=1000) (hf:∀p∈ps,lP p) (hb:gw ps=true):yz [bD ps] s=ok .au s:=by
 refine acp ?_;unfold yz;simp only[VC];refine aco (Vc hl hf) ?_;rw[hb];simp only[VC,Ā,Ä,ê,Ě]
def Rx (hm:0<=m/\m<4):yq [.int m] s=ok .au s:=by
 refine acp ?_;unfold yq;simp only[VC];refine aco Cp ?_;rw[show km m=true by unfold km;simp[hm]];simp only[VC,Ā,Ä,ê,Ě]
theorem vC {α:Type} (f:α->D) (h:∀x,lay (f x)=true):∀l:List α,dq (l.map f)=true
 | []=>rfl
 |x::l=>by rw[Ö,dq,h x,vC f h l];rfl
def IH (h:dq ds=true):iF (.lst ds) (.lst [])=some ds.isEmpty:=by
 unfold iF;rw[æ (by simp[mj]),ß (by simp only[lay,h,dq,dep,cv,ĵ,û,È];exact à (Û (Nat.min_le_right _ 1) (show 1<=100 by decide)))]
 cases ds<;>rfl
def eq_nil (h:dq ds=true):aS (.lst ds) (.lst []) s=ok (.bl ds.isEmpty) s:=by
 show (match iF (.lst ds) (.lst []) with|some b=>ok (D.bl b) s|none=>none)=_
 rw[IH h]
def ne_nil (h:dq ds=true):gO (.lst ds) (.lst []) s=ok (.bl (!ds.isEmpty)) s:=by
 show (match iF (.lst ds) (.lst []) with|some b=>ok (D.bl !b) s|none=>none)=_
 rw[IH h]
open DI.cV
noncomputable abbrev fg:=List Int×List Int
def aT (p:fg):D:=.tup [mD p.1,mD p.2]
structure de (p:fg):Prop where
 h:dR 8 p.1
 l:dR 8 p.2
 ap:∀x∈p.1,x∉p.2
abbrev aX (ss:List fg):D:=.tup (ss.map aT)
def JB:dU (.int x) (mD ns) s=ok (.bl (!decide (x∈ns))) s:=qf (s:=s)
def Ry (h:bP s k):Wp (yS [.ai k] s) λd s'=>∃p,d=aT p/\de p/\bP s' k/\Ex k s s':=by
 unfold yS;simp only[VC];refine(Js h (n:=8) (by decide)).mono λd R Z=>?_;obtain⟨a,rfl,W,V,e1⟩:=Z;refine(Js V (n:=8) (by decide)).mono λd Y Z=>?_;obtain⟨b,rfl,X,U,e2⟩:=Z;refine⟨by decide,?_⟩;have Q:=X.len;refine aco (iE (ds:=b.map D.int) rfl) ⟨fM (by rw[Ã];omega),?_⟩;refine aco (fX (λx=>!decide (x∈a)) (λx=>.int x) b λx _=>⟨[some (.int x),some (mD a)],rfl,acp (by simp only[VC,JB,Ě]),λ_=>rfl⟩) ?_;refine aco (show eI [.lst ((b.filter λx=>!decide (x∈a)).map λx=>.int x)] Y=ok (mD (b.filter λx=>!decide (x∈a))) Y from rfl) ?_;exact⟨by decide,(a,_),rfl,⟨W,X.filter _,λx T S=>by simpa [T] using (ü.mp S).2⟩,U,e1.trans e2⟩
def NV:abx (ð "made")=true:=by decide +kernel
def NW:abx (ð "mended")=true:=by decide +kernel
def Rz (h:bP s k) (o0:0<of) (o1:of<100):Wp (bY 1 [some (.ai k),some (.int of)] (gN 0) (aC (e2 aS (ax cf (ae (aa 1) (ae (aa 2) ah))) (eC (.int 0)))) (aa 0) (bS 0 8) s) λxs s'=>∃ns,xs=ns.map D.int/\dR 8 ns/\bP s' k/\Ex k s s':=by
 refine qk (λi Z s'=>∃ns:List Int,Z=ns.map D.int/\dR i ns/\bP s' k/\Ex k s s') (bS 0 8) ⟨[],rfl,⟨by simp,.nil⟩,h,Ex.refl _ _⟩ (λi d Z s' Y W=>?_) λZ s' W=>?_
 ·obtain⟨ns,rfl,X,S,V⟩:=W
  rw[fZ] at Y;split at Y
  ·have Y:D.int (0+(i:Int))=d:=acs Y
   subst Y;refine⟨[some (.int (0+i)),some (.ai k),some (.int of)],rfl,?_⟩;simp only[VC];refine(gM S o0 (by omega)).mono λd Q hx=>?_;obtain⟨r,rfl,P,O,U,T⟩:=hx;simp only[VC];split
   ·refine⟨ns++[0+(i:Int)],by simp,⟨λx hx=>?_,?_⟩,U,V.trans T⟩
    ·rcases ä.mp hx with hx|hx
     ·have:=X.lo x hx;omega
     ·rw[å.mp hx];omega
    ·refine aaA.mpr ⟨X.up,by simp,λx hx y R=>?_⟩
     rw[å.mp R];have:=X.lo x hx;omega
   ·exact⟨ns,rfl,⟨λx hx=>by have:=X.lo x hx;omega,X.up⟩,U,V.trans T⟩
  ·cases Y
 ·rw[bX] at W
  exact W
def wV (ps:List Pg) (m d k:Int):D:=rG (bw (sN ps m k) (lN ps m k) (mN ps m k) d.toNat)
def RA (hb:gw ps=true) (hd:0<=d/\d<31):Wp (bY 1 [some (.int d),some (bD ps),some (.int m)] (gN 0) ba (e2 aj (ax tK (ae (aa 2) (ae (aa 3) (ae (aa 0) ah)))) (aa 1)) (bS 0 8) s) λxs s'=>xs=k8.map (wV ps m d)/\∃c,s'=s++c:=by
 obtain⟨S,W⟩:=nC hb;refine qk (λi Z s'=>i<=8->Z=((Ø i).map λi:Nat=>(i:Int)).map (wV ps m d)/\∃c,s'=s++c) (bS 0 8) (λ_=>⟨rfl,[],by simp⟩) (λi e Z s' Y X=>?_) λZ s' X=>?_
 ·rw[fZ] at Y
  split at Y
  ·rename_i hi
   have Y:D.int (0+(i:Int))=e:=acs Y;subst Y;obtain⟨rfl,c,rfl⟩:=X (by omega);refine⟨[some (.int (0+i)),some (.int d),some (bD ps),some (.int m)],rfl,?_⟩;refine aco (show ba _ _=ok true _ from rfl) ?_;rw[ß rfl];simp only[VC];refine(LB (by omega) λp V=>⟨(W p V).day,(W p V).lP,(W p V).apart⟩).mono λx R U=>?_;obtain⟨rfl,T,rfl⟩:=U;refine aco (DL hd) λ_=>⟨?_,c++T,by simp⟩;rw[ζ,õ,õ];simp[wV]
  ·cases Y
 ·rw[bX] at X
  exact X (acr _)
def To (h:x≠(false,false)):∃b,aj (rG x) (.int (-1)) s=ok (.bl b) s:=by
 obtain⟨f,t⟩:=x
 cases f<;>cases t<;>first|exact absurd rfl h|exact⟨_,rfl⟩
def yY {α:Type} {f:α->D} {xs:List α} {r:Int} {s:ag} (h0:0<=r) (h1:r<xs.length):∃x∈xs,aj (.lst (xs.map f)) (.int r) s=ok (f x) s:=by
 obtain⟨x,e,e2⟩:=tO h0 h1;exact⟨x,š e2,by simp only[aj,iy,res,vE,e,Ŭ,bE]⟩
structure Ss (s0:ag) (k j:Nat) (ss:List fg) (s:ag):Prop where
 st:bP s k
 ex:Ex k s0 s
 at_:s[j]?=some (.lst (ss.map aT))
 sh:∀p∈ss,de p
 jk:j≠k
 hj:s0.length<=j
def Ss.draw (h:Ss s0 k j ss s) (st:bP s' k) (ex:Ex k s s'):Ss s0 k j ss s' :=
 ⟨st,h.ex.trans ex,by rw[ex.val j (Å.mp h.at_).1 h.jk];exact h.at_,h.sh,h.jk,h.hj⟩
def pq (e:s[j]?=some (.lst L)) (hL:L.length<=1000):iU (.ai j) s=true/\iT (.ai j) x s=ok .au (s.set j (.lst (L++[x]))):=by
 refine⟨by simp only[iU,e],?_⟩;unfold iT;simp only[e];rw[ß (by rw[È];exact É (show L.length<1001 by omega) (le_size (by decide)))]
def Ex.cell (h:Ex k s0 s) (hj:s0.length<=j):Ex k s0 (s.set j c):=⟨by rw[Ģ];exact h.len,λi hi Z=>by rw[Ý (by omega)];exact h.val i hi Z⟩
def Qk (hb:gw ps=true) (hm:0<=m/\m<4) (h:Ss s0 k j ss s) (hs:ss.length<=100)
 (q:∀p s' e5 e6 e7 e8 e9 dS,Ss s0 k j (ss++[p]) s'->Q (.nx [some (.ai k),some (bD ps),some (.int m),some (.ai j),e4,e5,e6,e7,e8,e9,dS]) s') :
  Wp (BG [some (.ai k),some (bD ps),some (.int m),some (.ai j),e4,e5,e6,e7,e8,e9,dS] s) Q:=by
 obtain⟨S,hg⟩:=nC hb;unfold BG;refine acq λR W=>?_;simp only[VC];refine(gM h.st (by decide) (by decide)).mono λx s1 Z=>?_;obtain⟨d,rfl,i,g,F,E⟩:=Z;refine(gM F (by decide) (by decide)).mono λx C Z=>?_;obtain⟨o,rfl,o0,o1,B,A⟩:=Z;simp only[VC];refine⟨by decide,?_⟩;subst W;have g2:=h.draw B (E.trans A);clear E A F h;refine acq λR W=>?_;simp only[cy,cZ,eG,Ù,Ú];refine aco (dJ (n:=8) rfl (by decide)) ⟨by rw[bX];exact le_size (by decide),(RA hb ⟨i,g⟩).mono λxs a Z=>?_⟩;obtain⟨rfl,c,rfl⟩:=Z;rw[bM];subst W;have P:=g2.st.app c;have g3:=g2.draw P (Ex.app k C c);generalize C++c=a at P g3;clear g2 B;refine acq λR W=>?_;simp only[cy,cZ,eG,Ù,Ú];refine aco (dJ (n:=8) rfl (by decide)) ⟨by rw[bX];exact le_size (by decide),(Rz P (by omega) (by omega)).mono λxs Y Z=>?_⟩;obtain⟨sn,rfl,O,N,w⟩:=Z;rw[bM];subst W;have M:=g3.draw N w;clear g3 P w;have L:∀x:Int,∃b:Bool,x∈sn->Wp (e2 aj (e2 aj (aa 1) (aa 0)) (e1 oT (eC (.int 1))) [some (.int x),some (.lst (k8.map (wV ps m d)))] Y) λy s'=>y=.bl b/\s'=Y:=λx=>by
  by_cases Z:x∈sn
  ·have hk:=O.lo x Z
   obtain⟨b,e⟩:=To (s:=Y) (Vl (Kr hb hm (k:=x) (by omega)) (d:=d.toNat) (by omega));refine⟨b,λ_=>?_⟩;simp only[VC];refine aco (Ep (by omega)) ?_;exact aco (show oT (.int 1) Y=ok (.int (-1)) Y from rfl) (aco e ⟨rfl,rfl⟩)
  ·exact⟨false,λz=>absurd z Z⟩
 obtain⟨T,K⟩:=Classical.axiomOfChoice L;refine acq λR W=>?_;simp only[cy,cZ,kD,fm,dI,eG,Ù,Ú];have ls:=O.len;refine aco (fy (ds:=sn.map D.int) rfl) ⟨fM (by rw[Ã];omega),?_⟩;refine aco (fX T (λx=>.int x) sn λx Z=>⟨[some (.int x),some (.lst (k8.map (wV ps m d)))],rfl,acp ?_,λ_=>rfl⟩) ?_
 ·rw[nP]
  refine(K x Z).mono λy s' z=>?_;obtain⟨rfl,rfl⟩:=z;rw[jw];exact⟨rfl,rfl⟩
 refine aco (show eI [.lst ((sn.filter T).map λx=>.int x)] Y=ok (mD (sn.filter T)) Y from rfl) ?_;rw[bM];subst W;have v:=O.filter T;generalize sn.filter T=X at v;refine acq λR W=>?_;simp only[cy,cZ,iP,kD,fm,dI,eG,bG,bH,Ù,Ú];refine aco (fy (ds:=sn.map D.int) rfl) ⟨fM (by rw[Ã];omega),?_⟩;refine aco (fX (λx=>!decide (x∈X)) (λx=>.int x) sn λx _=>⟨[some (.int x),some (mD X)],rfl,acp (by simp only[VC,JB,Ě]),λ_=>rfl⟩) ?_;refine aco (show eI [.lst ((sn.filter λx=>!decide (x∈X)).map λx=>.int x)] Y=ok (mD (sn.filter λx=>!decide (x∈X))) Y from rfl) ⟨by show 2<=Õ;decide,?_⟩;rw[bM];subst W;have own:de (X,sn.filter λx=>!decide (x∈X)):=⟨v,O.filter _,λx Z S=>by simpa [Z] using (ü.mp S).2⟩;generalize u:(X,sn.filter λx=>!decide (x∈X))=U at own;rw[show D.tup [mD X,mD (sn.filter λx=>!decide (x∈X))]=aT U by rw[<- u];rfl];clear u;simp only[nG,nQ,dO,oW,qA,wp_call,fm,dI,bG,bH,fT];refine⟨(pq (x:=.au) M.at_ (by rw[Ã];omega)).1,?_⟩;refine aco (show AF (aT U) Y=ok (aT (U.2,U.1)) Y from rfl) ?_;refine(Ry M.st).mono λx s6 Z=>?_;obtain⟨p6,rfl,J,I,x6⟩:=Z;refine⟨by show 4<=Õ;decide,(gM I (by decide) (by decide)).mono λx s7 Z=>?_⟩;obtain⟨r,rfl,r0,r1,H,x7⟩:=Z;have V:=M.draw H (x6.trans x7);obtain⟨p,t,e⟩:=yY (f:=aT) (xs:=[U,U,(U.2,U.1),p6]) (s:=s7) r0 r1;have G:de p:=by
  simp only[Ó,Ĝ,or_false] at t
  rcases t with rfl|rfl|rfl|rfl
  ·exact own
  ·exact own
  ·exact⟨own.l,own.h,λx Z S=>own.ap x S Z⟩
  ·exact J
 refine aco e (aco (pq V.at_ (by rw[Ã];omega)).2 (q p _ _ _ _ _ _ _ ⟨V.st.set V.jk _,V.ex.cell V.hj,by rw[ç (Å.mp V.at_).1,õ];rfl,λy hy=>?_,V.jk,V.hj⟩))
 rcases ä.mp hy with hy|hy
 ·exact V.sh y hy
 ·rw[å.mp hy];exact G
def RC (hb:gw ps=true) (hm:0<=m/\m<4) (h:bP s k):Wp (yH [.ai k,bD ps,.int m] s) λx s'=>∃ss,x=aX ss/\1<=ss.length/\ss.length<=3/\(∀p∈ss,de p)/\bP s' k/\Ex k s s':=by
 obtain⟨Z,C⟩:=nC hb;unfold yH;refine iQ.symm ▸ ⟨rfl,?_⟩;refine jd (env':=[some (.ai k),some (bD ps),some (.int m),some (.ai s.length),none,none,none,none,none,none,none]) (s':=s++[.lst []]) rfl ?_;have Y:Ss s k s.length [] (s++[.lst []]):=⟨h.app _,Ex.app k s _,by simp,λp J=>(by cases J),Ŝ h.lt,acr _⟩;generalize s++[Cell.lst []]=I at Y;generalize s.length=j at Y;refine acq λR H=>?_;rw[gr];refine Wp.mono (Q:=λK X=>∃n:Nat,n<3/\K=bS 0 (n+1)/\bP X k/\Ex k I X) ?_ λK X G=>?_
 ·have F:=gM Y.st (m:=3) (by decide) (by decide)
  obtain⟨x,X,e,r,rfl,B,A,O,N⟩:=F;refine aco (zk (i:=1+r) (n:=r.toNat+1) (acp ?_) (by omega) (by omega)) ⟨r.toNat,by omega,rfl,O,N⟩;simp only[VC];refine aco e ?_;simp only[VC,Ě]
 obtain⟨n,z,rfl,O,N⟩:=G;have g2:=Y.draw O N;refine Wp.gE (λi env t=>∃ss M W V U T S P,Ss s k j ss t/\ss.length=i/\env=[some (.ai k),some (bD ps),some (.int m),some (.ai j),M,W,V,U,T,S,P]) _ ⟨[],_,_,_,_,_,_,_,g2,rfl,rfl⟩ (λi d env t E L=>?_) λenv t L=>?_
 ·obtain⟨ss,M,W,V,U,T,S,P,g,Z,rfl⟩:=L
  have hi:=(Å.mp E).1;rw[bX] at hi;refine⟨_,rfl,Qk hb hm g (by omega) λp s' W V U T S P D=>⟨_,_,_,_,_,_,_,_,D,by rw[é,Z];rfl,rfl⟩⟩
 ·obtain⟨ss,M,W,V,U,T,S,P,g,Z,rfl⟩:=L
  rw[bX] at Z;rw[bM];subst H;simp only[gL,kD,fm,dI,bG,bH];refine aco (show eI [.ai j] t=ok (aX ss) t by unfold eI;simp only[res,g.at_]) ?_;exact⟨ss,rfl,by omega,by omega,g.sh,g.st,g.ex⟩
def vH:d∈bW↔0<=d/\d<31:=by
 unfold bW;rw[ó];constructor
 ·rintro ⟨i,hi,rfl⟩
  rw[ñ] at hi;omega
 ·intro h
  exact⟨d.toNat,by rw[ñ];omega,by omega⟩
def DM (h:0<=d/\d<31):aj (.lst (bW.map G)) (.int d) s=ok (G d) s:=by
 have e:cN (bW.map G) d=some (G d):=by
  rw[vE];unfold cN;rw[qI h.1 (show d<(bW.length:Nat) by simp[bW];omega)];show Option.map G (bW[d.toNat]?)=_;unfold bW;rw[á,č (by omega)];show some (G ((d.toNat:Nat):Int))=_;rw[show ((d.toNat:Nat):Int)=d by omega]
 simp only[aj,iy,res,e,bE]
def n5 (p:fg) (s:ag):aj (aT p) (.int 0) s=ok (mD p.1) s/\aj (aT p) (.int 1) s=ok (mD p.2) s:=⟨rfl,rfl⟩
def u6 (p:fg) (a b:List Int):Bool:=kq p.1 b&&kq p.2 a
def Tp (h:de p):ze [aT p,lB P A d] s=ok (.bl (u6 p (k8.filter λk=>decide (d∈P k)) (k8.filter λk=>decide (d∈A k)))) s:=by
 have Z:=h.h.len;have Y:=h.l.len;refine acp ?_;unfold ze u6 lB;simp only[VC,(n5 p s).1];refine aco (sC _ _ _).2 (aco (Co (by omega)) ?_);simp only[VC,(n5 p s).2];generalize (k8.filter λk=>decide (d∈P k))=u;generalize (k8.filter λk=>decide (d∈A k))=v
 cases kq p.1 v with
 |false=>simp
 |true =>
  simp only[ô,û];exact aco (sC _ _ _).1 (aco (Co (by omega)) ⟨rfl,rfl⟩)
def bV (ps:List Pg) (m:Int) (p q:fg):List (List Int):=(p.1.filter λk=>decide (k∈q.2)).map λk=>cg ps m k
def HX (hl:ps.length<=1000) (h:de p):u9 [bD ps,.int m,aT p,aT q] s=ok (.lst ((bV ps m p q).map lI)) s:=by
 have Z:=h.h.len;refine acp ?_;unfold u9;simp only[VC];refine aco (iE (s1:=s) (ds:=p.1.map D.int) (acp (by simp only[VC,(n5 p s).1,Ě]))) ⟨fM (by rw[Ã];omega),?_⟩;refine aco (fX (λk=>decide (k∈q.2)) (λk=>lI (cg ps m k)) p.1 λk _=>⟨[some (.int k),some (bD ps),some (.int m),some (aT q)],rfl,acp (by simp only[VC,(n5 q s).2,oF,Ě]),λ_=>acp ?_⟩) ?_
 ·simp only[VC]
  exact aco (zo hl) ⟨rfl,rfl⟩
 ·unfold bV
  rw[ĉ];exact⟨rfl,rfl⟩
def zS (h:de p) (hl:ps.length<=1000):(bV ps m p q).length<=8/\∀ds∈bV ps m p q,ds.length<=1000:=by
 unfold bV;refine⟨by rw[Ã];exact Û (Ċ _ _) h.h.len,λds Z=>?_⟩;obtain⟨k,_,rfl⟩:=ó.mp Z;exact Û vB hl
def uA (L:List (List Int)) (d l:Int):Bool:=decide (l<d)||L.all λZ=>lQ Z d l
def JC (h1:L.length<=8) (h2:∀ds∈L,ds.length<=1000):vn [.lst (L.map lI),.int d,.int l] s=ok (.bl (uA L d l)) s:=by
 refine acp ?_;unfold vn uA;simp only[VC]
 cases decide (l<d) with
 |true=>simp
 |false =>
  simp only[Ä,ê,ς];refine aco (fy (ds:=L.map lI) rfl) ⟨fM (by rw[Ã];omega),?_⟩;refine aco (comp_map lI (λ_=>true) (λds=>.bl (lQ ds d l)) L λds Z=>⟨[some (lI ds),some (.int d),some (.int l)],rfl,rfl,λ_=>acp ?_⟩) ?_
  ·simp only[VC]
   exact aco (ID (h2 ds Z)) ⟨rfl,rfl⟩
  rw[filter_tt];exact aco (oG _ _ _) ⟨rfl,rfl⟩
noncomputable abbrev Tb:=Int->Int->Bool
def jW (t:Tb):D:=.lst (bW.map λd=>.lst (bW.map λl=>.bl (t d l)))
def gG (ps:List Pg) (m:Int) (p q:fg):Tb:=λd l=>uA (bV ps m p q) d l&&uA (bV ps m q p) l d
def Pl (hl:ps.length<=1000) (hp:de p) (hq:de q):yg [bD ps,.int m,aT p,aT q] s=ok (jW (gG ps m p q)) s:=by
 obtain⟨a1,a2⟩:=zS (m:=m) (q:=q) hp hl;obtain⟨Z,Y⟩:=zS (m:=m) (q:=p) hq hl;refine acp ?_;unfold yg;simp only[VC];refine aco (HX hl hp) ?_;refine aco (HX hl hq) ?_;refine aco (dJ (n:=31) rfl (by decide)) ⟨by rw[bX];exact le_size (by decide),?_⟩;rw[wy];refine aco (fX (λ_=>true) (λd=>.lst (bW.map λl=>.bl (gG ps m p q d l))) bW λd _=>⟨[some (.int d),some (.lst ((bV ps m p q).map lI)),some (.lst ((bV ps m q p).map lI))],rfl,rfl,λ_=>acp ?_⟩) ?_
 ·simp only[VC]
  refine aco (dJ (n:=31) rfl (by decide)) ⟨by rw[bX];exact le_size (by decide),?_⟩;rw[wy];refine aco (fX (λ_=>true) (λl=>.bl (gG ps m p q d l)) bW λl _=>⟨[some (.int l),some (.lst ((bV ps m p q).map lI)),some (.int d),some (.lst ((bV ps m q p).map lI))],rfl,rfl,λ_=>acp ?_⟩) ?_
  ·simp only[VC]
   refine aco (JC a1 a2) ?_;simp only[VC,gG]
   cases uA (bV ps m p q) d l with
   |false=>simp
   |true =>
    simp only[ô,û];exact aco (JC Z Y) ⟨rfl,rfl⟩
  ·rw[filter_tt];exact⟨rfl,rfl⟩
 ·rw[filter_tt];exact⟨rfl,rfl⟩
def Tq (ts:List Tb) (ds:List Int):cT (ts.map jW) (ds.map D.int)=(ts.zip ds).map λp=>D.tup [jW p.1,.int p.2]:=by
 unfold cT;rw[List.zip_map,ĉ];rfl
def free_eq {ts:List Tb} {ds:List Int} {d:Int} {s:ag} (ht:ts.length<=10) (hd:0<=d/\d<31) (lW:∀x∈ds,0<=x/\x<31):yI [.lst (ts.map jW),mD ds,.int d] s=ok (.bl ((ts.zip ds).all λp=>p.1 p.2 d)) s:=by
 refine acp ?_;unfold yI;simp only[VC];refine aco (show tZ (ae (aa 0) (ae (aa 1) ah)) [some (.lst (ts.map jW)),some (mD ds),some (.int d)] s=ok (cT (ts.map jW) (ds.map D.int)) s from rfl) ⟨?_,?_⟩
 ·rw[qb,Ã]
  exact fM (by omega)
 rw[Tq];refine aco (comp_map (λp:Tb×Int=>D.tup [jW p.1,.int p.2]) (λ_=>true) (λp=>.bl (p.1 p.2 d)) (ts.zip ds) λp Z=>⟨[some (jW p.1),some (.int p.2),some (.int d)],rfl,rfl,λ_=>acp ?_⟩) ?_
 ·simp only[VC]
  have Y:=lW p.2 (abN Z).2;refine aco (show aj (jW p.1) (.int p.2) s=ok (.lst (bW.map λl=>.bl (p.1 p.2 l))) s from DM Y) ?_;exact aco (DM hd) ⟨rfl,rfl⟩
 rw[filter_tt];exact aco (oG _ _ _) ⟨rfl,rfl⟩
def cJ:fg:=([],[])
def dQ (ps:List Pg) (m:Int) (p:fg):List Int:=bW.filter λd=>u6 p (k8.filter λk=>decide (d∈i5 ps m k)) (k8.filter λk=>decide (d∈iC ps m k))
def kE (ps:List Pg) (m:Int) (ss:List fg) (i:Nat):List Tb:=(Ø i).map λa=>gG ps m (ss.getD a cJ) (ss.getD i cJ)
def mF (ps:List Pg) (m:Int) (ss:List fg) (i:Nat) (dt:List Int):List (List Int):=((dQ ps m (ss.getD i cJ)).filter λd=>((kE ps m ss i).zip dt).all λp=>p.1 p.2 d).map λd=>dt++[d]
def bz (ps:List Pg) (m:Int) (ss:List fg):Nat->List (List Int)
 |0=>[[]]
 |i+1=>(bz ps m ss i).flatMap (mF ps m ss i)
def Dt (n:Nat) (dt:List Int):Prop:=dt.length=n/\∀d∈dt,0<=d/\d<31
def nT:∀dt∈bz ps m ss i,Dt i dt:=by
 induction i with
 |zero=>intro dt h;rw[bz,å] at h;subst h;exact⟨rfl,λd Z=>(by cases Z)⟩
 |succ i ih =>
  intro dt h;rw[bz] at h;obtain⟨b,Y,h⟩:=abB.mp h;obtain⟨d,Z,rfl⟩:=ó.mp h;obtain⟨l,r⟩:=ih b Y;refine⟨by rw[é,l];rfl,λx hx=>?_⟩
  rcases ä.mp hx with hx|hx
  ·exact r x hx
  ·rw[å.mp hx]
   exact vH.mp (ü.mp (ü.mp Z).1).1
def C3:(bz ps m ss i).length<=31 ^ i:=by
 induction i with
 |zero=>simp[bz]
 |succ i ih =>
  rw[bz,Nat.pow_succ];refine Û (qg (b:=31) λx _=>?_) (abD 31 ih);unfold mF dQ;rw[Ã];exact Û (Ċ _ _) (Û (Ċ _ _) (by simp[bW]))
def zT {i:Nat} (h:i<ss.length):aj (aX ss) (.int i) s=ok (aT (ss.getD i cJ)) s:=by
 have e:cN (ss.map aT) (i:Int)=some (aT (ss.getD i cJ)):=by
  rw[vE];unfold cN;rw[qI (by omega) (by omega)];show Option.map aT (ss[(i:Int).toNat]?)=_;rw[ò,Ë h,ĳ,Ë h];rfl
 simp only[aj,iy,res,e,bE]
def C4 {ss:List fg} (h:∀p∈ss,de p) {i:Nat} (hi:i<ss.length):de (ss.getD i cJ):=by
 rw[ĳ,Ë hi];exact h _ (ŵ hi)
def Pn {ps:List Pg} {m:Int} {ss:List fg} {i:Nat} {s:ag} {e6 e7:Option D} {Q:Fl->ag->Prop} (hl:ps.length<=1000) (h3:ss.length<=3) (hs:∀p∈ss,de p) (hi:i<ss.length)
  (q:∀e6 e7,Q (.nx [some (bD ps),some (.int m),some (aX ss),some (.lst (bW.map (lB (i5 ps m) (iC ps m)))),some (.lst ((bz ps m ss (i+1)).map mD)),some (.int i),e6,e7]) s) :
  Wp (BH [some (bD ps),some (.int m),some (aX ss),some (.lst (bW.map (lB (i5 ps m) (iC ps m)))),some (.lst ((bz ps m ss i).map mD)),some (.int i),e6,e7] s) Q:=by
 have X:=C4 hs hi;unfold BH;refine jd (env':=[some (bD ps),some (.int m),some (aX ss),some (.lst (bW.map (lB (i5 ps m) (iC ps m)))),some (.lst ((bz ps m ss i).map mD)),some (.int i),some (lI (dQ ps m (ss.getD i cJ))),e7]) (s':=s) (acp ?_) ?_
 ·simp only[cy,cZ,eG]
  refine aco (dJ (n:=31) rfl (by decide)) ⟨by rw[bX];exact le_size (by decide),?_⟩;rw[wy];refine aco (fX (λd=>u6 (ss.getD i cJ) (k8.filter λk=>decide (d∈i5 ps m k)) (k8.filter λk=>decide (d∈iC ps m k))) (λd=>.int d) bW λd Y=>⟨[some (.int d),some (aX ss),some (.int i),some (.lst (bW.map (lB (i5 ps m) (iC ps m))))],rfl,acp ?_,λ_=>rfl⟩) ⟨rfl,rfl⟩;simp only[VC,zT hi,DM (vH.mp Y)];refine aco (Tp X) ?_;rw[jw];exact⟨rfl,rfl⟩
 refine jd (env':=[some (bD ps),some (.int m),some (aX ss),some (.lst (bW.map (lB (i5 ps m) (iC ps m)))),some (.lst ((bz ps m ss i).map mD)),some (.int i),some (lI (dQ ps m (ss.getD i cJ))),some (.lst ((kE ps m ss i).map jW))]) (s':=s) (acp ?_) ?_
 ·simp only[cy,cZ,eG]
  refine aco (dJ (n:=i) rfl (by omega)) ⟨by rw[bX];exact le_size (by omega),?_⟩;rw[tj];refine aco (comp_map (λa:Nat=>D.int (0+(a:Int))) (λ_=>true) (λa:Nat=>jW (gG ps m (ss.getD a cJ) (ss.getD i cJ))) (Ø i) λa W=>⟨[some (.int (0+(a:Int))),some (bD ps),some (.int m),some (aX ss),some (.int i)],rfl,rfl,λ_=>acp ?_⟩) ?_
  ·have W:=ñ.mp W
   simp only[VC];rw[Ū];refine aco (zT (show a<ss.length by omega)) (aco (zT hi) ?_);exact aco (Pl hl (C4 hs (by omega)) X) ⟨rfl,rfl⟩
  ·rw[filter_tt]
   unfold kE;rw[ĉ];exact⟨rfl,rfl⟩
 simp only[cy,cZ];show Wp (tG 2 [7,6] _ _ _ _ _ _ _ _ _) _;unfold tG;rw[Cn];refine aco (fy (ds:=(bz ps m ss i).map mD) rfl) ?_;refine aco (qG mD (λ_=>true) (λZ=>(mF ps m ss i Z).map mD) _ λZ V=>⟨[some (mD Z),none,some (.lst ((kE ps m ss i).map jW)),some (lI (dQ ps m (ss.getD i cJ)))],rfl,rfl,λ_=>?_⟩) ?_
 ·obtain⟨dl,U⟩:=nT Z V
  unfold more;rw[fy (ds:=(dQ ps m (ss.getD i cJ)).map D.int) rfl,dW];rw[qG D.int (λd=>((kE ps m ss i).zip Z).all λp=>p.1 p.2 d) (λd=>[mD (Z++[d])]) (dQ ps m (ss.getD i cJ)) λd Y=>⟨[some (mD Z),some (.int d),some (.lst ((kE ps m ss i).map jW)),some (lI (dQ ps m (ss.getD i cJ)))],rfl,acp ?_,λ_=>acp ?_⟩]
  ·unfold mF
   rw[ĉ,<- ab3];rfl
  ·simp only[VC]
   refine aco (free_eq (by unfold kE;rw[Ã,İ];omega) (vH.mp (ü.mp Y).1) U) ?_;rw[jw];exact⟨rfl,rfl⟩
  ·unfold emit
   rw[bb];simp only[VC];refine⟨by decide,?_⟩;refine aco (show cY (mD Z) (.tup [.int d]) _=_ from fR (b:=[d]) (by rw[dl];simp;omega)) ?_;simp
 ·rw[filter_tt]
  have e:((bz ps m ss i).flatMap λZ=>(mF ps m ss i Z).map mD)=(bz ps m ss (i+1)).map mD:=by
   rw[bz,List.map_flatMap]
  rw[e];refine⟨?_,q _ _⟩;rw[Ã];refine le_size (Û C3 ?_);have:i+1<=3:=by omega
  exact Û (abE (by decide) this) (by decide)
def HY (hl:ps.length<=1000) (h3:ss.length<=3) (hs:∀p∈ss,de p):Wp (vt [bD ps,.int m,aX ss] s) λx s'=>x=.lst ((bz ps m ss ss.length).map mD)/\∃c,s'=s++c:=by
 unfold vt;refine iQ.symm ▸ ⟨rfl,acq λR W=>?_⟩;simp only[VC];refine(Vh hl).mono λx s1 T=>?_;obtain⟨rfl,c,rfl⟩:=T;subst W;refine jd (env':=[some (bD ps),some (.int m),some (aX ss),some (.lst (bW.map (lB (i5 ps m) (iC ps m)))),some (.lst ((bz ps m ss 0).map mD)),none,none,none]) (s':=s++c) rfl ?_;refine acq λR W=>?_;rw[gr];refine aco (dJ (s1:=s++c) (n:=ss.length) (acp ?_) (by omega)) ?_
 ·simp only[VC]
  exact aco (show cz [aX ss] (s++c)=ok (.int ss.length) (s++c) by rw[show cz [aX ss] (s++c)=ok (.int ((ss.map aT).length:Nat)) (s++c) from rfl,Ã]) ⟨rfl,rfl⟩
 refine Wp.gE (λi env t=>t=s++c/\∃V Y X,env=[some (bD ps),some (.int m),some (aX ss),some (.lst (bW.map (lB (i5 ps m) (iC ps m)))),some (.lst ((bz ps m ss i).map mD)),V,Y,X]) _ ⟨rfl,_,_,_,rfl⟩ (λi d env t Z U=>?_) λenv t U=>?_
 ·obtain⟨rfl,V,Y,X,rfl⟩:=U
  rw[fZ] at Z;split at Z
  ·rename_i hi
   have Z:D.int (0+(i:Int))=d:=acs Z;rw[Ū] at Z;subst Z;exact⟨_,rfl,Pn hl h3 hs hi λY X=>⟨rfl,_,_,_,rfl⟩⟩
  ·cases Z
 ·obtain⟨rfl,V,Y,X,rfl⟩:=U
  rw[bX,bM];subst W;simp only[gL,bG,bH,ia];exact⟨trivial,c,rfl⟩
noncomputable def yb:Int->List Int->Int
 |b,[]=>b
 |b,d::Z=>if b<d then yb d Z else yb b Z
noncomputable def yc:Int->List Int->Int
 |b,[]=>b
 |b,d::Z=>if d<b then yc d Z else yc b Z
theorem Er:∀(ds:List Int) (b:Int),ph uq (.int b) (ds.map D.int) s=ok (.int (yb b ds)) s
 | [],b=>rfl
 |d::ds,b=>by
  rw[Ö];unfold ph yb;rw[Bj,jK,dW];by_cases h:b<d
  ·rw[à h,ß h];exact Er ds d
  ·rw[è h,æ h];exact Er ds b
theorem Es:∀(ds:List Int) (b:Int),ph Ad (.int b) (ds.map D.int) s=ok (.int (yc b ds)) s
 | [],b=>rfl
 |d::ds,b=>by
  rw[Ö];unfold ph yc;rw[show Ad (.int d) (.int b) s=ok (.bl (decide (d<b))) s from rfl,jK,dW];by_cases h:d<b
  ·rw[à h,ß h];exact Es ds d
  ·rw[è h,æ h];exact Es ds b
def mx:List Int->Int
 | []=>0
 |d::Z=>yb d Z
def mn:List Int->Int
 | []=>0
 |d::Z=>yc d Z
def max_eq (h:ds≠[]):wq [mD ds] s=ok (.int (mx ds)) s/\qT [mD ds] s=ok (.int (mn ds)) s:=by
 cases ds with
 |nil=>exact absurd rfl h
 |cons d ds=>exact⟨Er ds d,Es ds d⟩
abbrev gR (ds:List Int):D:=.tup [.int (mx ds-mn ds),.int (mn ds),mD ds]
def JD (h:ds≠[]):ny [mD ds] s=ok (gR ds) s:=by
 refine acp ?_;unfold ny;simp only[VC];refine aco (max_eq h).1 (aco (max_eq h).2 ?_);simp only[VC];exact aco (max_eq h).2 ⟨by decide,rfl,rfl⟩
def nv (a b:List Int):Bool:=if (mx a-mn a==mx b-mn b)=true then (if (mn a==mn b)=true then (if beq (mD a) (mD b)=true then false else AN a b) else decide (mn a<mn b)) else decide (mx a-mn a<mx b-mn b)
def LG:gC (gR a) (gR b) s=ok (.bl (nv a b)) s:=by
 have Z:∀l,lay (gR l)=true:=λl=>by simp only[lay,DI.dq,yL,ĵ]
 have W:dep (gR a)<=30:=by simp only[dep,cv,IC];decide
 have e:i4 (gR a) (gR b)=some (nv a b):=by
  show gB [.int (mx a-mn a),.int (mn a),mD a] [.int (mx b-mn b),.int (mn b),mD b]=_;unfold nv
  cases h:(mx a-mn a==mx b-mn b) with
  |true =>
   rw[zP (show beq (.int (mx a-mn a)) (.int (mx b-mn b))=true from h),ß rfl]
   cases Y:(mn a==mn b) with
   |true =>
    rw[zP (show beq (.int (mn a)) (.int (mn b))=true from Y),ß rfl]
    cases X:beq (mD a) (mD b) with
    |true=>rw[zP X,ß rfl];rfl
    |false=>rw[zQ X,æ Í];exact LC a b
   |false =>
    rw[zQ (show beq (.int (mn a)) (.int (mn b))=false from Y),æ Í];rfl
  |false =>
   rw[zQ (show beq (.int (mx a-mn a)) (.int (mx b-mn b))=false from h),æ Í];rfl
 unfold gC;rw[ß (by rw[Z a,Z b,à W];rfl),e];rfl
def jN:List Int->List (List Int)->List Int
 |b,[]=>b
 |b,y::Z=>if nv y b=true then jN y Z else jN b Z
theorem Cr:∀{ys:List (List Int)} {b:List Int},jN b ys=b\/jN b ys∈ys
 | [],b=>.inl rfl
 |y::ys,b=>by
  unfold jN;split
  ·rcases Cr (ys:=ys) (b:=y) with h|h
   ·rw[h];exact .inr Î
   ·exact .inr (Ï _ h)
  ·rcases Cr (ys:=ys) (b:=b) with h|h
   ·exact .inl h
   ·exact .inr (Ï _ h)
theorem LH:∀(ys:List (List Int)) (b:List Int),(∀y∈ys,y≠[])->rE (λd s=>ny [d] s) gC (mD b) (gR b) (ys.map mD) s=ok (mD (jN b ys)) s
 | [],b,_=>rfl
 |y::ys,b,h=>by
  have Z:=JD (s:=s) (h y Î);have ih:=λb=>LH (s:=s) ys b λz Y=>h z (Ï _ Y);rw[Ö];unfold rE;simp only[Z,jK,dW,LG,jN]
  cases nv y b with
  |true=>simp only[ô];exact ih y
  |false=>simp only[Ä,ê];exact ih b
def lC:List (List Int)->Option (List Int)
 | []=>none
 |x::Z=>some (jN x Z)
def wW:Option (List Int)->D
 |none=>.au
 |some x=>mD x
def Tr (h:lC L=some x):x∈L:=by
 cases L with
 |nil=>cases h
 |cons y ys =>
  have h:jN y ys=x:=acs h;subst h
  rcases Cr (ys:=ys) (b:=y) with h|h
  ·rw[h];exact Î
  ·exact Ï _ h
def Tt (h:∀y∈L,y≠[]):Af ny (.lst (L.map mD)) s=ok (wW (lC L)) s:=by
 show D6 (λd s=>ny [d] s) gC (some .au) (L.map mD) s=_
 cases L with
 |nil=>rfl
 |cons x Z =>
  rw[Ö];show ao (ne (ny [mD x] s)) (λk s=>rE (λd s=>ny [d] s) gC (mD x) k (Z.map mD) s)=_;rw[JD (h x Î),jK,dW];exact LH Z x λy Y=>h y (Ï _ Y)
def JE (hb:gw ps=true) (hm:0<=m/\m<4) (h1:1<=ss.length) (h3:ss.length<=3) (hs:∀p∈ss,de p):vd [bD ps,.int m,aX ss] s=ok .au s:=by
 obtain⟨V,X⟩:=nC hb;have Z:yr [aX ss] s=ok (.bl true) s:=by
  refine acp ?_;unfold yr;simp only[VC];refine aco (show cL [aX ss,.ty "tuple"] s=ok (.bl true) s from rfl) ?_;simp only[VC,ô];refine aco (show cz [aX ss] s=ok (.int ss.length) s by rw[show cz [aX ss] s=ok (.int ((ss.map aT).length:Nat)) s from rfl,Ã]) ?_;simp only[VC];rw[à (show (1:Int)<=ss.length by omega),ß rfl,à (show (ss.length:Int)<=3 by omega),ß rfl];refine aco (iE (ds:=ss.map aT) rfl) ⟨fM (by rw[Ã];omega),?_⟩;refine aco (comp_map aT (λ_=>true) (λ_=>.bl true) ss λp Y=>⟨[some (aT p)],rfl,rfl,λ_=>acp ?_⟩) ?_
  ·simp only[VC]
   have q:=hs p Y;have a1:=q.h.len;have a2:=q.l.len;refine aco (show sQ [aT p] s=_ from Jy (by omega) (by omega)) ?_;have e:kq p.1 p.2=true:=by
    unfold kq;rw[Ġ,abl];intro x W;simpa using q.ap x W
   rw[yE q.h (acr _),yE q.l (acr _),e];exact⟨rfl,rfl⟩
  rw[filter_tt];refine aco (oG (λ_=>true) _ _) ?_;simp
 refine acp ?_;unfold vd;simp only[VC];refine aco (Tn (by omega) (λp Y=>(X p Y).lP) hb) (aco (Rx hm) (aco Z ?_));simp only[VC,Ā,Ä,ê,Ě]
def RD (hb:gw ps=true) (hm:0<=m/\m<4) (h1:1<=ss.length) (h3:ss.length<=3) (hs:∀p∈ss,de p):Wp (yA [bD ps,.int m,aX ss] s) λx s'=>x=wW (lC (bz ps m ss ss.length))/\∃c,s'=s++c:=by
 obtain⟨X,W⟩:=nC hb;unfold yA;simp only[VC];refine aco (JE hb hm h1 h3 hs) ?_;refine(HY (by omega) h3 hs).mono λx V Z=>?_;obtain⟨rfl,c,rfl⟩:=Z;refine aco (Tt λy Y=>?_) ⟨rfl,c,rfl⟩;have:=(nT y Y).1;intro z;rw[z] at this;simp at this;omega
def LI:dU (.bl false) (rG x) s=ok (.bl (!x.1)) s/\dU (.bl true) (rG x) s=ok (.bl (!x.2)) s:=by
 obtain⟨f,t⟩:=x
 cases f<;>cases t<;>exact⟨rfl,rfl⟩
def Ky (h:xs.length+ys.length<=1000):cY (.lst xs) (.lst ys) s=ok (.lst (xs++ys)) s:=by
 have e:rA (.lst xs) (.lst ys)=some (.lst (xs++ys)):=by
  show (if rq _ _=true then some (D.lst _) else none)=_
  rw[ß (by unfold rq;rw[È];exact fM h)]
 show bE (rA _ _) s=_;rw[show rA (res (.lst xs) s) (res (.lst ys) s)=some (.lst (xs++ys)) from e];rfl
def oA (ps:List Pg) (m:Int) (h l:List Int) (d:Nat):Bool:=h.all (λk=>!ab (lN ps m k) (mN ps m k) d)&&l.all λk=>!pr (sN ps m k) (mN ps m k) d
def JF (hk:dR 8 h):kq h (k8.filter p)=h.all λk=>!p k:=by
 unfold kq;rw[List.not_any_eq_all_not];rw[Ĭ,Ĕ,Ĕ];have e:∀x∈h,(!decide (x∈k8.filter p))=!p x:=λx Z=>by
  congr 1;rw[Ĭ,È,ü];exact⟨λz=>z.2,λz=>⟨zN.mpr (hk.lo x Z),z⟩⟩
 exact⟨λz x Z=>by rw[<- e x Z];exact z x Z,λz x Z=>by rw[e x Z];exact z x Z⟩
noncomputable def dN (b:Nat->Bool) (n:Nat):List Int:=((Ø n).filter b).map λi:Nat=>(i:Int)
def Vn:dN b (n+1)=dN b n++if b n=true then [(n:Int)] else []:=by
 unfold dN;rw[ζ,List.filter_append,õ];congr 1
 by_cases h:b n=true<;>simp[Ĺ,h]
def W2:(dN b n).length<=n:=by
 unfold dN;rw[Ã];exact Û (Ċ _ _) (by rw[İ];exact acr _)
def Vo (h:de p):dQ ps m p=dN (oA ps m p.1 p.2) 31:=by
 unfold dQ dN bW;rw[List.filter_map];congr 1;refine List.filter_congr λd Z=>?_;have Z:d<=30:=by have:=ñ.mp Z;omega
 show u6 p _ _=_;unfold u6 oA;rw[JF h.h,JF h.l];simp only[Vg Z,Vf Z]
def Tu {m:Int} {d:Nat} {j:Nat} {Q:Fl->ag->Prop} (hb:gw ps=true) (hm:0<=m/\m<4) (hs:de p) (hd:d<=30) (ej:s[j]?=some (.lst L)) (hL:L.length<=1000)
 (q:∀b6,Q (.nx [some (bD ps),some (.int m),some (aT p),some (t9 ps m),some (.ai j),some (.int d),b6]) (if oA ps m p.1 p.2 d=true then s.set j (.lst (L++[.int d])) else s)) :
  Wp (BV [some (bD ps),some (.int m),some (aT p),some (t9 ps m),some (.ai j),some (.int d),a6] s) Q:=by
 have T:=hs.h.len;have S:=hs.l.len;have X:∀(k:Int),0<=k/\k<8->bw (sN ps m k) (lN ps m k) (mN ps m k) d=(!pr (sN ps m k) (mN ps m k) d,!ab (lN ps m k) (mN ps m k) d):=λk Z=>Mu (Kr hb hm (k:=k) Z) hd;have W:0<=(d:Int)/\(d:Int)<31:=by omega
 unfold BV;rw[eU,cy,eG];refine aco (iE (s1:=s) (ds:=p.1.map D.int) (acp ?_)) ⟨fM (by rw[Ã];omega),?_⟩
 ·simp only[VC,(n5 p s).1,Ě]
 refine aco (fX (λk=>ab (lN ps m k) (mN ps m k) d) (λk=>.int k) p.1 λk Z=>⟨[some (.int k),some (.int d),some (t9 ps m)],rfl,?_,λ_=>rfl⟩) ?_
 ·refine acp ?_
  simp only[VC];refine aco (Ep (hs.h.lo k Z)) (aco (DL W) ?_);rw[ò];refine aco LI.2 ?_;simp only[VC];rw[X k (hs.h.lo k Z)];simp
 simp only[cZ,Ù,Ú,bM];rw[jb];simp only[jy,dO,bH,bG,eG];refine aco (iE (s1:=s) (ds:=p.2.map D.int) (acp ?_)) ⟨fM (by rw[Ã];omega),?_⟩
 ·simp only[VC,(n5 p s).2,Ě]
 refine aco (fX (λk=>pr (sN ps m k) (mN ps m k) d) (λk=>.int k) p.2 λk Z=>⟨[some (.int k),some (.int d),some (t9 ps m)],rfl,?_,λ_=>rfl⟩) ?_
 ·refine acp ?_
  simp only[VC];refine aco (Ep (hs.l.lo k Z)) (aco (DL W) ?_);rw[ò];refine aco LI.1 ?_;simp only[VC];rw[X k (hs.l.lo k Z)];simp
 have f1:=Ċ (λk=>ab (lN ps m k) (mN ps m k) d) p.1;have f2:=Ċ (λk=>pr (sN ps m k) (mN ps m k) d) p.2;refine aco (Ky (by rw[Ã,Ã];omega)) ?_;rw[<- õ];simp only[qA,dI];refine⟨by decide,aco (eq_nil (vC D.int (λ_=>rfl) _)) ?_⟩;have key:(List.map D.int (p.1.filter (λk=>ab (lN ps m k) (mN ps m k) d)++p.2.filter λk=>pr (sN ps m k) (mN ps m k) d)).isEmpty=oA ps m p.1 p.2 d:=by
  rw[Ĭ,abA,ab4,List.append_eq_nil_iff,aag,aag];unfold oA;simp only[Ê,Ĕ,Ġ,aaa]
 rw[gK];have U:(List.map (λk=>D.int k) (p.1.filter (λk=>ab (lN ps m k) (mN ps m k) d)++p.2.filter λk=>pr (sN ps m k) (mN ps m k) d)).isEmpty=oA ps m p.1 p.2 d:=key;rw[U];have Y:=q (some (.lst ((p.1.filter λk=>ab (lN ps m k) (mN ps m k) d).map λk=>.int k)))
 cases V:oA ps m p.1 p.2 d with
 |true =>
  rw[V] at Y;simp only[ô] at Y |-;simp only[nG,nQ,bH,bG];exact⟨(pq (x:=.au) ej hL).1,aco (pq ej hL).2 Y⟩
 |false =>
  rw[V] at Y;simp only[Ä,ê] at Y |-;rw[i9];exact Y
def Tv {m:Int} (hb:gw ps=true) (hm:0<=m/\m<4) (hs:de p):Wp (yT [bD ps,.int m,aT p] s) λx s'=>x=lI (dQ ps m p)/\∃c,s'=s++c:=by
 obtain⟨Q,W⟩:=nC hb;unfold yT;refine iQ.symm ▸ ⟨rfl,acq λR V=>?_⟩;simp only[cy,cZ,eG,Ù,Ú];refine aco (dJ (n:=8) rfl (by decide)) ⟨by rw[bX];exact le_size (by decide),?_⟩;refine Tj (G:=uz ps m) (b:=bD ps) (mu:=m) (λk s=>LB (by omega) λp U=>⟨(W p U).day,(W p U).lP,(W p U).apart⟩) rfl λc=>?_;rw[bM];subst V;refine jd (env':=[some (bD ps),some (.int m),some (aT p),some (t9 ps m),some (.ai (s++c).length),none,none]) (s':=(s++c)++[.lst []]) rfl ?_;generalize S:s++c=t;refine acq λR V=>?_;rw[gr];refine aco (dJ (n:=31) rfl (by decide)) ?_;refine Wp.gE (λi env s'=>i<=31->∃T Z,env=[some (bD ps),some (.int m),some (aT p),some (t9 ps m),some (.ai t.length),T,Z]/\s'=t++[.lst ((dN (oA ps m p.1 p.2) i).map D.int)]) _ (λ_=>⟨_,_,rfl,rfl⟩) (λi d env s' Y X=>?_) (λenv s' X=>?_)
 ·rw[fZ] at Y
  split at Y
  ·rename_i hi
   cases Y;obtain⟨T,Z,rfl,rfl⟩:=X (by omega);refine⟨_,rfl,?_⟩;simp only[Ù,Ú,Ū];refine Tu hb hm hs (by omega) (j:=t.length) (L:=(dN (oA ps m p.1 p.2) i).map D.int) (by simp) (by rw[Ã];exact Û W2 (by omega)) λZ=>?_;refine λ_=>⟨_,_,rfl,?_⟩;rw[Vn];split
   ·rw[õ,Ĳ _ _ (acr _),Nat.sub_self];rfl
   ·rw[Ķ]
  ·cases Y
 ·rw[bX] at X
  obtain⟨T,Z,rfl,rfl⟩:=X (acr _);rw[bM];subst V;simp only[gL,ia,qB,bG,bH];refine aco Kx ⟨?_,?_⟩
  ·rw[Vo hs]
  ·exact⟨c++[.dead],by rw[<- S,ę]⟩
noncomputable def AO (m:Int):Pg->Bool
 | .aU Z _ _=>decide (Z=m)
 | .made _ _ _ _=>false
noncomputable def yd:Pg->Int
 | .aU _ _ k=>k
 | .made _ _ _ _=>0
def Yb:Wp (kh p.d none (some 2) s) λd s1=>Wp (aS d (.tup [.str "mended",.int m]) s1) λx s2=>x=.bl (AO m p)/\s2=s:=by
 cases p with
 |made Z d a b =>
  refine aco (show kh (Pg.made Z d a b).d none (some 2) s=ok (.tup [.str "made",.int Z]) s from rfl) ?_;have e:iF (.tup [.str "made",.int Z]) (.tup [.str "mended",.int m])=some false:=by
   unfold iF;rw[æ (show ¬ (mj (.tup _)&&mj (.tup _))=true from Í),ß (by simp[lay,dq,dep,cv,NV,NW])];simp only[beq,ik,show (ð "made"==ð "mended")=false from beq_eq_false_iff_ne.mpr λz=>vF z.symm,aaC]
  exact aco (show aS (.tup [.str "made",.int Z]) (.tup [.str "mended",.int m]) s=ok (.bl false) s by show (match iF (.tup [.str "made",.int Z]) (.tup [.str "mended",.int m]) with|some b=>ok (D.bl b) s|none=>none)=_;rw[e]) ⟨rfl,rfl⟩
 |aU Z d k =>
  refine aco (show kh (Pg.aU Z d k).d none (some 2) s=ok (.tup [.str "mended",.int Z]) s from rfl) ?_;have e:iF (.tup [.str "mended",.int Z]) (.tup [.str "mended",.int m])=some (decide (Z=m)):=by
   unfold iF;rw[æ (show ¬ (mj (.tup _)&&mj (.tup _))=true from Í),ß (by simp[lay,dq,dep,cv,NV,NW])];simp only[beq,ik]
   by_cases h:Z=m<;>simp[h]
  exact aco (show aS (.tup [.str "mended",.int Z]) (.tup [.str "mended",.int m]) s=ok (.bl (decide (Z=m))) s by show (match iF (.tup [.str "mended",.int Z]) (.tup [.str "mended",.int m]) with|some b=>ok (D.bl b) s|none=>none)=_;rw[e]) ⟨rfl,rfl⟩
abbrev jG (p:Pg):D:=.tup [.int p.day,.int (yd p)]
def jq (ps:List Pg) (m:Int):List Pg:=ps.filter (AO m)
def Ql {ps:List Pg} {m:Int} {env:Env} {s:ag} (hl:ps.length<=1000) :
  aM 1 [1] (aR (aa 0)) (gN 0) (aC (e2 aS (kR (aa 0) kQ (kH (eC (.int 2)))) (bO (ae (eC (.str "mended")) (ae (aa 1) ah))))) (kR (aa 0) (kH (eC (.int 2))) kQ) (some (bD ps)::some (.int m)::env) s=ok (.lst ((jq ps m).map jG)) s:=by
 refine sU (iE (ds:=ps.map Pg.d) rfl) (by rw[Ã];omega) ?_;rw[comp_map Pg.d (AO m) jG ps λp X=>⟨[some p.d,some (.int m)],rfl,acp ?_,λZ=>acp ?_⟩]
 ·rfl
 ·simp only[jy,dO,qV,bG,bH,qE,sY (show eC (.int 2) [some p.d,some (.int m)] s=ok (.int 2) s from rfl)]
  refine(Yb (m:=m)).mono λd W z=>?_;simp only[iP,fm,dI,fT,bG,bH];refine⟨by show 2<=Õ;decide,z.mono λy V w=>?_⟩;obtain⟨rfl,rfl⟩:=w;rw[gK];exact⟨rfl,rfl⟩
 ·simp only[qV,bG,qE,sY (show eC (.int 2) [some p.d,some (.int m)] s=ok (.int 2) s from rfl)]
  cases p with
  |made Y d a b=>cases Z
  |aU Y d k=>exact aco (show kh (Pg.aU Y d k).d (some 2) none s=ok (jG (.aU Y d k)) s from rfl) ⟨rfl,rfl⟩
def Vp:((jq ps m).filter λp=>decide (yd p=k)).map Pg.day=cg ps m k:=by
 unfold jq cg;rw[List.filter_filter];congr 1;refine List.filter_congr λp _=>?_
 cases p with
 |made Z d a b=>simp[AO,jE]
 |aU Z d Y =>
  show (decide (Y=k)&&decide (Z=m))=(decide (Z=m)&&decide (Y=k));exact Bool.and_comm _ _
def II (hl:ps.length<=1000) (hp:de p) (e4:(env[4]?).getD none=some (.lst ((jq ps m).map jG))) (ei:(env[i]?).getD none=some (aT q))
 (hit:aR f env s=ok (p.1.map D.int) s) :
  aM 1 [4,i] (aR f) (gN 0) (aC (e2 cD (aa 0) (e2 aj (aa 2) (eC (.int 1))))) (aM 2 [0] (aR (aa 1)) (gT [gN 0,gN 1]) (aC (e2 aS (aa 1) (aa 2))) (aa 0)) env s=ok (.lst ((bV ps m p q).map lI)) s:=by
 have Y:=hp.h.len;have lm:(jq ps m).length<=1000:=Û (Ċ _ _) hl;have Z:cX [4,i] env=[some (.lst ((jq ps m).map jG)),some (aT q)]:=by
  unfold cX;simp only[Ö,Ħ,e4,ei]
 refine sU hit (by rw[Ã];omega) ?_;rw[Z];rw[fX (λk=>decide (k∈q.2)) (λk=>lI (cg ps m k)) p.1 λk _=>⟨[some (.int k),some (.lst ((jq ps m).map jG)),some (aT q)],rfl,acp (by simp only[VC,(n5 q s).2,oF,Ě]),λ_=>?_⟩]
 ·unfold bV
  rw[ĉ];rfl
 ·refine sU (fy (ds:=(jq ps m).map jG) rfl) (by rw[Ã];omega) ?_
  rw[comp_map jG (λp=>decide (yd p=k)) (λp=>.int p.day) (jq ps m) λp _=>⟨[some (.int p.day),some (.int (yd p)),some (.int k)],rfl,acp ?_,λ_=>rfl⟩]
  ·rw[<- Vp,ĉ]
   rfl
  ·simp only[VC]
   by_cases h:yd p=k<;>simp[h]
def Po (hl:ds.length<=1000):yD [lI ds,.int a,.int b] s=ok (.bl (lQ ds a b)) s:=by
 refine acp ?_;unfold yD;simp only[VC];refine aco (fy rfl) ⟨fM (by rw[Ã];omega),?_⟩;refine aco (fX (λx=>decide (a<x)&&decide (x<=b)) (λx=>.int x) ds λn _=>⟨[some (.int n),some (.int a),some (.int b)],rfl,?_,λ_=>rfl⟩) ?_
 ·refine acp ?_
  simp only[VC]
  by_cases e:a<n<;>simp[e,aP,tQ,bH,bG,gK]
 ·refine⟨by decide,aco (ne_nil (vC D.int (λ_=>rfl) _)) ⟨?_,rfl⟩⟩
  unfold lQ;congr 1;rw[Ĭ];simp[abA,aag]
def Vq {α:Type} {f:α->Bool} {xs:List α} {s:ag}:dU (.bl false) (.lst (xs.map λx=>D.bl (f x))) s=ok (.bl (xs.all f)) s:=by
 unfold dU inD;rw[show oV (.lst (xs.map λx=>D.bl (f x))) s=some (xs.map λx=>D.bl (f x)) from rfl];simp only[];rw[ß (by unfold qM;rw[vC (λx=>D.bl (f x)) (λ_=>rfl)];rfl)];show ok (D.bl (!(xs.map λx=>D.bl (f x)).any λy=>beq y (.bl false))) s=_;congr 3
 have e:∀b,beq (.bl b) (.bl false)=!b:=λb=>by cases b<;>rfl
 rw[List.any_map];simp only[ŗ,e,List.not_any_eq_all_not,Bool.not_not]
noncomputable abbrev pD (x:Int×Int):D:=.tup [.int x.1,.int x.2]
def fj (W:Ć) (L:List (Int×Int)):List (D×Int):=L.map λx=>(pD x,hs W (pD x))
def Vr (h1:cU ks=true) (h2:cv ks<=6):keyOk W (.tup ks,hs W (.tup ks))=true:=by
 simp only[keyOk,h1,à h2,ĥ,ĵ]
def Kz:(fj W L).all (keyOk W)=true:=by
 rw[Ĕ];intro y Z;obtain⟨x,_,rfl⟩:=ó.mp Z;exact Vr (ks:=[.int x.1,.int x.2]) (by simp only[cU,TK.kd,ĵ]) (by simp only[cv,dep];decide)
def KC:((fj W L).any λp=>beq p.1 (pD x))=decide (x∈L):=by
 unfold fj;rw[List.any_map,Ĭ,È,ŏ];constructor
 ·rintro ⟨y,Z,e⟩
  have e:beq (pD y) (pD x)=true:=e;simp only[beq,ik,Ê,beq_iff_eq] at e
  have:y=x:=Prod.ext e.1 (by first|exact e.2.1|exact e.2)
  rw[<- this];exact Z
 ·intro h
  exact⟨x,h,by show beq (pD x) (pD x)=true;simp only[beq,ik,ě,ĵ]⟩
def Zk (e:s[j]?=some (.dT (fj W L))) (hx:x∉L) (hl:L.length<=1000):jT W (.ai j) (pD x) (.bl true) s=some (s.set j (.dT (fj W (L++[x])))):=by
 unfold jT;simp only[e];have Z:(fj W L).length<Õ:=by
  unfold fj;rw[Ã];exact É (show L.length<1001 by omega) (le_size (by decide))
 rw[ß (by rw[Kz,à Z];rfl)];unfold TK.fR;rw[show ((fj W L).any λp=>beq p.1 (D.tup [.int x.1,.int x.2]))=decide (x∈L) from KC,è hx,æ Í];unfold fj;rw[õ];rfl
def W3 (e:s[j]?=some (.dT (fj W L))):nE W (pD x) (.ai j) s=ok (.bl (!decide (x∈L))) s:=by
 unfold nE;simp only[e];rw[ß (by rw[Kz];rfl),show ((fj W L).any λp=>beq p.1 (D.tup [.int x.1,.int x.2]))=decide (x∈L) from KC]
noncomputable def oX (A B:List (List Int)) (d l:Int):List (List Int):=if d=l then A++B else if d<l then A else B
def Vs:((oX (bV ps m p q) (bV ps m q p) d l).all λds=>lQ ds (if l<d then l else d) (if l > d then l else d))=gG ps m p q d l:=by
 unfold oX gG uA;by_cases h:d=l
 ·subst h
  simp only[gt_iff_lt,Int.lt_irrefl,ô,ê,aby,ς,List.all_append]
 ·rw[æ h]
  by_cases Z:d<l
  ·rw[ß Z,æ (by omega),ß Z,è (by omega),à Z]
   simp only[ς,Bool.true_or,ο]
  ·rw[æ Z,ß (by omega),æ (by omega),à (show l<d by omega),è (show ¬ d<l by omega)]
   simp only[ς,Bool.true_or,û]
def Tw {W:Ć} {ps:List Pg} {m:Int} {p q:fg} {d l:Int} {t:ag} {L:List (Int×Int)} {e4 dS fk df:Option D} {Q:Fl->ag->Prop} (hl:ps.length<=1000) (hp:de p) (hq:de q) (hx:(d,l)∉L) (hL:L.length<=1000)
  (qq:∀dS fk df,Q (.nx [some (bD ps),some (.int m),some (aT p),some (aT q),e4,some (.lst ((bV ps m p q).map lI)),some (.lst ((bV ps m q p).map lI)),some (.ai t.length),some (.int d),some (.int l),dS,fk,df]) (t++[.dT (fj W (if gG ps m p q d l=true then L++[(d,l)] else L))])) :
  Wp (CU W [some (bD ps),some (.int m),some (aT p),some (aT q),e4,some (.lst ((bV ps m p q).map lI)),some (.lst ((bV ps m q p).map lI)),some (.ai t.length),some (.int d),some (.int l),dS,fk,df] (t++[.dT (fj W L)])) Q:=by
 obtain⟨a1,a2⟩:=zS (m:=m) (q:=q) hp hl;obtain⟨P,V⟩:=zS (m:=m) (q:=p) hq hl;unfold CU
 refine jd (env':=[some (bD ps),some (.int m),some (aT p),some (aT q),e4,some (.lst ((bV ps m p q).map lI)),some (.lst ((bV ps m q p).map lI)),some (.ai t.length),some (.int d),some (.int l),some (.int (if l<d then l else d)),some (.int (if l > d then l else d)),df]) (s':=t++[.dT (fj W L)]) rfl ?_
 refine jd (env':=[some (bD ps),some (.int m),some (aT p),some (aT q),e4,some (.lst ((bV ps m p q).map lI)),some (.lst ((bV ps m q p).map lI)),some (.ai t.length),some (.int d),some (.int l),some (.int (if l<d then l else d)),some (.int (if l > d then l else d)),some (.lst ((oX (bV ps m p q) (bV ps m q p) d l).map lI))]) (s':=t++[.dT (fj W L)]) (acp ?_) ?_
 ·generalize (if l<d then l else d)=u
  generalize (if l > d then l else d)=v
  simp only[cy,cZ,qD,jy,dO,bG,bH,qF,vQ,gK,aP];unfold oX;by_cases h:d=l
  ·subst h
   simp only[ě,ô];refine aco (Ky (by rw[Ã,Ã];omega)) ?_;rw[<- õ];exact⟨rfl,rfl⟩
  ·rw[æ h,æ (show ¬ (d==l)=true by simpa using h)]
   by_cases Y:d<l
   ·rw[à Y,ß rfl,ß Y]
    exact⟨rfl,by first|rfl|trivial⟩
   ·rw[è Y,æ Í,æ Y]
    exact⟨rfl,by first|rfl|trivial⟩
 rw[jb];simp only[jy,dO,fT,eG];have U:(oX (bV ps m p q) (bV ps m q p) d l).length<=16/\∀ds∈oX (bV ps m p q) (bV ps m q p) d l,ds.length<=1000:=by
  unfold oX;split
  ·refine⟨by rw[é];omega,λds X=>?_⟩
   rcases ä.mp X with z|z
   ·exact a2 ds z
   ·exact V ds z
  ·split
   ·exact⟨by omega,a2⟩
   ·exact⟨by omega,V⟩
 generalize S:oX (bV ps m p q) (bV ps m q p) d l=R at U |-;refine aco (fy (ds:=R.map lI) rfl) ⟨fM (by rw[Ã];omega),?_⟩
 refine aco (comp_map lI (λ_=>true) (λds=>.bl (lQ ds (if l<d then l else d) (if l > d then l else d))) R λds X=>⟨[some (lI ds),some (.int (if l<d then l else d)),some (.int (if l > d then l else d))],rfl,rfl,λ_=>acp ?_⟩) ?_
 ·simp only[VC]
  exact aco (Po (U.2 ds X)) ⟨rfl,rfl⟩
 rw[filter_tt];refine aco Vq ?_
 rw[gK,show (R.all λds=>lQ ds (if l<d then l else d) (if l > d then l else d))=gG ps m p q d l by rw[<- S];exact Vs]
 have cell:(t++[Cell.dT (fj W L)])[t.length]?=some (.dT (fj W L)):=by simp
 cases T:gG ps m p q d l with
 |true =>
  have Z:=qq (some (.int (if l<d then l else d))) (some (.int (if l > d then l else d))) (some (.lst (R.map lI)))
  rw[T] at Z;simp only[ô] at Z |-;rw[C1];simp only[fT,bG,bH,iP,fm,dI];refine⟨by show 2<=Õ;decide,_,Zk (x:=(d,l)) cell hx hL,?_⟩;rw[Ĳ _ _ (acr _),Nat.sub_self];exact Z
 |false =>
  have Z:=qq (some (.int (if l<d then l else d))) (some (.int (if l > d then l else d))) (some (.lst (R.map lI)))
  rw[T] at Z;simp only[Ä,ê] at Z |-;rw[i9];exact Z
def W4 (hl:ps.length<=1000) (hp:de p) (hq:de q):Wp (qw W [bD ps,.int m,aT p,aT q] s) λx s'=>∃L,x=.ai s.length/\s'=s++[.dT (fj W L)]/\∀d l,0<=d/\d<31->0<=l/\l<31->decide ((d,l)∈L)=gG ps m p q d l:=by
 unfold qw;refine iQ.symm ▸ ⟨rfl,?_⟩;refine jd (env':=[some (bD ps),some (.int m),some (aT p),some (aT q),some (.lst ((jq ps m).map jG)),none,none,none,none,none,none,none,none]) (s':=s) (acp ?_) ?_
 ·rw[cy]
  refine aco (Ql (m:=m) (ps:=ps) hl) ?_;rw[cZ];exact⟨rfl,rfl⟩
 refine jd (env':=[some (bD ps),some (.int m),some (aT p),some (aT q),some (.lst ((jq ps m).map jG)),some (.lst ((bV ps m p q).map lI)),none,none,none,none,none,none,none]) (s':=s) (acp ?_) ?_
 ·rw[cy]
  refine aco (II (m:=m) (ps:=ps) (p:=p) (q:=q) hl hp rfl rfl (iE (s1:=s) (ds:=p.1.map D.int) (acp (by simp only[VC,(n5 p s).1,Ě])))) ?_;rw[cZ];exact⟨rfl,rfl⟩
 refine jd (env':=[some (bD ps),some (.int m),some (aT p),some (aT q),some (.lst ((jq ps m).map jG)),some (.lst ((bV ps m p q).map lI)),some (.lst ((bV ps m q p).map lI)),none,none,none,none,none,none]) (s':=s) (acp ?_) ?_
 ·rw[cy]
  refine aco (II (m:=m) (ps:=ps) (p:=q) (q:=p) hl hq rfl rfl (iE (s1:=s) (ds:=q.1.map D.int) (acp (by simp only[VC,(n5 q s).1,Ě])))) ?_;rw[cZ];exact⟨rfl,rfl⟩
 refine jd (env':=[some (bD ps),some (.int m),some (aT p),some (aT q),some (.lst ((jq ps m).map jG)),some (.lst ((bV ps m p q).map lI)),some (.lst ((bV ps m q p).map lI)),some (.ai s.length),none,none,none,none,none]) (s':=s++[.dT (fj W [])]) rfl ?_;refine acq λR J=>?_;rw[gr];refine aco (dJ (n:=31) rfl (by decide)) ?_;refine Wp.gE (λi env s'=>∃L O Q U T S,env=[some (bD ps),some (.int m),some (aT p),some (aT q),some (.lst ((jq ps m).map jG)),some (.lst ((bV ps m p q).map lI)),some (.lst ((bV ps m q p).map lI)),some (.ai s.length),O,Q,U,T,S]/\s'=s++[.dT (fj W L)]/\L.length<=31*i/\∀x:Int×Int,x∈L↔(0<=x.1/\x.1<i/\0<=x.2/\x.2<31)/\gG ps m p q x.1 x.2=true) _ ⟨[],_,_,_,_,_,rfl,rfl,ē _,λx=>⟨λz=>(by cases z),λz=>(by omega)⟩⟩ (λi d env s' Y X=>?_) (λenv s' X=>?_)
 ·rw[fZ] at Y
  split at Y
  ·rename_i hi
   cases Y;obtain⟨L,O,Q,U,T,S,rfl,rfl,N,V⟩:=X;refine⟨_,rfl,?_⟩;simp only[Ù,Ú,Ū];unfold Kg;rw[gr];refine aco (dJ (n:=31) rfl (by decide)) ?_
   refine Wp.gE (λj env s'=>∃L Q U T S,env=[some (bD ps),some (.int m),some (aT p),some (aT q),some (.lst ((jq ps m).map jG)),some (.lst ((bV ps m p q).map lI)),some (.lst ((bV ps m q p).map lI)),some (.ai s.length),some (.int i),Q,U,T,S]/\s'=s++[.dT (fj W L)]/\L.length<=31*i+j/\∀x:Int×Int,x∈L↔((0<=x.1/\x.1<i/\0<=x.2/\x.2<31)\/(x.1=i/\0<=x.2/\x.2<j))/\gG ps m p q x.1 x.2=true) _ ⟨L,_,_,_,_,rfl,rfl,by omega,λx=>by rw[V x];constructor<;>(rintro ⟨P,Z⟩;exact⟨by omega,Z⟩)⟩ (λj d env s' Y X=>?_) (λenv s' X=>?_)
   ·rw[fZ] at Y
    split at Y
    ·rename_i I
     cases Y;obtain⟨L,Q,U,T,S,rfl,rfl,N,V⟩:=X;refine⟨_,rfl,?_⟩;simp only[Ù,Ú,Ū];refine Tw hl hp hq (L:=L) (λz=>?_) (by omega) λU T S=>⟨_,_,_,_,_,rfl,rfl,?_,λx=>?_⟩
     ·have:=((V _).mp z).1
      omega
     ·split
      ·rw[é];simp;omega
      ·omega
     ·split
      ·rename_i M
       rw[ä,å,V x];constructor
       ·rintro (⟨P,Z⟩|rfl)
        ·exact⟨by omega,Z⟩
        ·exact⟨by simp;omega,M⟩
       ·rintro ⟨P,Z⟩
        by_cases K:x=((i:Int),(j:Int))
        ·exact .inr K
        ·refine .inl ⟨?_,Z⟩
         have:¬ (x.1=i/\x.2=j):=λz=>K (Prod.ext z.1 z.2);omega
      ·rename_i M
       rw[V x];constructor
       ·rintro ⟨P,Z⟩
        exact⟨by omega,Z⟩
       ·rintro ⟨P,Z⟩
        refine⟨?_,Z⟩;have:¬ (x.1=i/\x.2=j):=λz=>M (by rw[<- z.1,<- z.2];exact Z);omega
    ·cases Y
   ·rw[bX] at X
    obtain⟨L,Q,U,T,S,rfl,rfl,N,V⟩:=X;refine⟨L,_,_,_,_,_,rfl,rfl,by omega,λx=>?_⟩;rw[V x]
    constructor<;>(rintro ⟨P,Z⟩;exact⟨by omega,Z⟩)
  ·cases Y
 ·rw[bX] at X
  obtain⟨L,O,Q,U,T,S,rfl,rfl,N,V⟩:=X;rw[bM];subst J;simp only[gL,ia,bG,bH]
  refine⟨L,by first|rfl|trivial,by first|rfl|trivial,λd l Y hl=>?_⟩
  rw[Ĭ,È,V (d,l)];exact⟨λz=>z.2,λz=>⟨by simp;omega,z⟩⟩
theorem IJ {α:Type} (d:α->D) (h:α->D):∀(xs:List α) (s:ag),(∀x∈xs,∃env,g (d x) (Ñ nt none++caps)=some env/\∀s,Wp (f env s) λy s'=>y=h x/\∃c,s'=s++c) ->
  Wp (bY nt caps g ba f (xs.map d) s) λys s'=>ys=xs.map h/\∃c,s'=s++c
 | [],s,_=>by
  rw[Ħ];unfold bY;rw[aP];exact⟨rfl,[],by simp⟩
 |x::xs,s,Z=>by
  obtain⟨env,Y,X⟩:=Z x Î;rw[Ö];unfold bY;rw[Y];simp only[bb];refine aco (show ne (ba env s)=ok true s from rfl) ?_;simp only[ô];obtain⟨y,T,e,rfl,c,rfl⟩:=X s;simp only[bb];refine aco (show ne (f env s)=ok (h x) (s++c) by rw[e];rfl) ?_;refine(IJ d h xs (s++c) λy W=>Z y (Ï _ W)).mono λys S V=>?_;obtain⟨rfl,U,rfl⟩:=V;rw[aP];exact⟨rfl,c++U,by simp⟩
def PR (W:Ć) (ps:List Pg) (m:Int) (q:fg) (t:ag):List Nat->List fg->Prop
 | [],[]=>True
 |j::Z,p::Y=>(∃L,t[j]?=some (.dT (fj W L))/\∀d l,0<=d/\d<31->0<=l/\l<31->decide ((d,l)∈L)=gG ps m p q d l)/\PR W ps m q t Z Y
 |_,_=>False
theorem PR.app (c:ag):∀{js:List Nat} {qs:List fg},PR W ps m q t js qs->PR W ps m q (t++c) js qs
 | [],[],_=>trivial
 |j::js,p::qs,h=>by
  obtain⟨⟨L,e,r⟩,h⟩:=h;exact⟨⟨L,by rw[ã (Å.mp e).1];exact e,r⟩,h.app c⟩
 | [],_::_,h=>h.elim
 |_::_,[],h=>h.elim
theorem KD {m:Int} {i:Nat} (hl:ps.length<=1000) (hi:i<ss.length) (hs:∀p∈ss,de p):∀(qs:List fg) (s:ag),(∀p∈qs,de p) ->
  Wp (bY 1 [some (bD ps),some (.int m),some (aX ss),some (.int i)] (gN 0) ba (ax (qw W) (ae (aa 1) (ae (aa 2) (ae (aa 0) (ae (e2 aj (aa 3) (aa 4)) ah))))) (qs.map aT) s) λys s'=>∃js,ys=js.map D.ai/\PR W ps m (ss.getD i cJ) s' js qs/\js.length=qs.length/\∃c,s'=s++c
 | [],s,_=>by
  rw[Ħ];unfold bY;rw[aP];exact⟨[],rfl,trivial,rfl,[],by simp⟩
 |p::qs,s,Z=>by
  rw[Ö];unfold bY;rw[show gN 0 (aT p) (Ñ 1 none++[some (bD ps),some (.int m),some (aX ss),some (.int i)])=some [some (aT p),some (bD ps),some (.int m),some (aX ss),some (.int i)] from rfl];simp only[bb];refine aco (show ne (ba _ s)=ok true s from rfl) ?_;simp only[ô];have Y:Wp (ax (qw W) (ae (aa 1) (ae (aa 2) (ae (aa 0) (ae (e2 aj (aa 3) (aa 4)) ah)))) [some (aT p),some (bD ps),some (.int m),some (aX ss),some (.int i)] s) λx s'=>∃L,x=.ai s.length/\s'=s++[.dT (fj W L)]/\∀d l,0<=d/\d<31->0<=l/\l<31->decide ((d,l)∈L)=gG ps m p (ss.getD i cJ) d l:=by
   simp only[VC,zT hi];exact W4 hl (Z p Î) (C4 hs hi)
  obtain⟨y,T,e,L,rfl,rfl,r⟩:=Y;simp only[bb];refine aco (show ne (ax (qw W) (ae (aa 1) (ae (aa 2) (ae (aa 0) (ae (e2 aj (aa 3) (aa 4)) ah)))) [some (aT p),some (bD ps),some (.int m),some (aX ss),some (.int i)] s)=ok (.ai s.length) (s++[.dT (fj W L)]) by rw[e];rfl) ?_;refine(KD hl hi hs qs _ λy X=>Z y (Ï _ X)).mono λys S V=>?_;obtain⟨js,rfl,pr,len,U,rfl⟩:=V;rw[aP];refine⟨s.length::js,rfl,⟨⟨L,by simp,r⟩,pr⟩,by simp[len],[.dT (fj W L)]++U,by simp⟩
theorem JG (hd:0<=d/\d<31):∀(dt:List Int) (js:List Nat) (qs:List fg),PR W ps m q t js qs->(∀x∈dt,0<=x/\x<31) ->
  ∃L:List Int,bY 2 [some (.int d)] (gT [gN 0,gN 1]) (aC (e2 (TK.nE W) (bO (ae (aa 0) (ae (aa 2) ah))) (aa 1))) (aa 0) (cT (dt.map D.int) (js.map D.ai)) t=ok (L.map D.int) t/\L.isEmpty=(qs.zip dt).all λp=>gG ps m p.1 q p.2 d
 | [],js,qs,_,_=>⟨[],by rw[Ħ];unfold cT;rfl,by simp⟩
 |x::dt,[],qs,h,_=>by
  cases qs with
  |nil=>exact⟨[],rfl,rfl⟩
  |cons a b=>exact h.elim
 |x::dt,j::js,[],h,_=>h.elim
 |x::dt,j::js,p::qs,h,Z=>by
  obtain⟨⟨L,e,r⟩,h⟩:=h;obtain⟨M,f1,f2⟩:=JG hd dt js qs h λy Y=>Z y (Ï _ Y);have X:=Z x Î
  have step:∀b:Bool,gG ps m p q x d=b->bY 2 [some (.int d)] (gT [gN 0,gN 1]) (aC (e2 (TK.nE W) (bO (ae (aa 0) (ae (aa 2) ah))) (aa 1))) (aa 0) (cT ((x::dt).map D.int) ((j::js).map D.ai)) t=ok ((if b=true then M else x::M).map D.int) t:=λb V=>by
   rw[show cT ((x::dt).map D.int) ((j::js).map D.ai)=D.tup [.int x,.ai j]::cT (dt.map D.int) (js.map D.ai) from rfl];refine acp ?_;unfold bY;rw[show gT [gN 0,gN 1] (.tup [.int x,.ai j]) (Ñ 2 none++[some (.int d)])=some [some (.int x),some (.ai j),some (.int d)] from rfl];simp only[bb];have U:aC (e2 (TK.nE W) (bO (ae (aa 0) (ae (aa 2) ah))) (aa 1)) [some (.int x),some (.ai j),some (.int d)] t=ok (!b) t:=by
    refine acp ?_;simp only[jy,dO,iP,fm,dI,bG,bH];refine⟨by show 2<=Õ;decide,aco (W3 (x:=(x,d)) e) ?_⟩;rw[r x d X hd,V,gK];exact⟨rfl,rfl⟩
   refine aco (show ne (aC (e2 (TK.nE W) (bO (ae (aa 0) (ae (aa 2) ah))) (aa 1)) [some (.int x),some (.ai j),some (.int d)] t)=ok (!b) t by rw[U];rfl) ?_
   cases b with
   |true =>
    simp only[Ā,Ä,ê,ô];exact aco f1 ⟨rfl,rfl⟩
   |false =>
    simp only[aaK,ô,Ä,ê,bb];refine aco (show ne (aa 0 [some (.int x),some (.ai j),some (.int d)] t)=ok (.int x) t from rfl) ?_;refine aco f1 ?_;rw[aP];exact⟨rfl,rfl⟩
  refine⟨_,step _ rfl,?_⟩;rw[ġ,List.all_cons,<- f2]
  cases gG ps m p q x d<;>simp
def KG (e:s[j]?=some (.lst L)) (hL:L.length<=900000):iU (.ai j) s=true/\iT (.ai j) x s=ok .au (s.set j (.lst (L++[x]))):=by
 refine⟨by simp only[iU,e],?_⟩;unfold iT;simp only[e];rw[ß (by rw[È];exact É (show L.length<900001 by omega) (le_size (by decide)))]
def Tz {ss:List fg} {i:Nat} (h:i<=ss.length):ss.take i=(Ø i).map λa=>ss.getD a cJ:=by
 refine Ŗ λn=>?_;rw[á];by_cases Z:n<i
 ·rw[List.getElem?_take_of_lt Z,č Z,Ë (by omega)]
  show _=some (ss.getD n cJ);rw[ĳ,Ë (by omega)];rfl
 ·rw[ú (by rw[ō];omega),ú (by rw[İ];omega)]
  rfl
def TC {ps:List Pg} {m:Int} {ss:List fg} {i:Nat} {dt:List Int} {d:Int} (h:i<=ss.length):(((ss.take i).zip dt).all λp=>gG ps m p.1 (ss.getD i cJ) p.2 d)=((kE ps m ss i).zip dt).all λp=>p.1 p.2 d:=by
 unfold kE;rw[Tz h,List.zip_map_left,List.zip_map_left,List.all_map,List.all_map];rfl
abbrev jr (ps:List Pg) (m:Int) (ss:List fg):D:=.lst (ss.map λp=>lI (dQ ps m p))
def Mw {m:Int} {i:Nat} (h:i<ss.length):aj (jr ps m ss) (.int i) s=ok (lI (dQ ps m (ss.getD i cJ))) s:=by
 have e:cN (ss.map λp=>lI (dQ ps m p)) (i:Int)=some (lI (dQ ps m (ss.getD i cJ))):=by
  rw[vE];unfold cN;rw[qI (by omega) (by omega)];show Option.map (λp=>lI (dQ ps m p)) (ss[(i:Int).toNat]?)=_;rw[ò,Ë h,ĳ,Ë h];rfl
 simp only[aj,iy,res,e,bE]
def C5:(dQ ps m p).length<=31:=by
 unfold dQ;exact Û (Ċ _ _) (by simp[bW])
def Vt {n:Nat}:kh (aX ss) none (some (n:Int)) s=ok (aX (ss.take n)) s:=by
 show ok (D.tup (cutD (ss.map aT) none (some (n:Int)))) s=_;unfold cutD;rw[HT.JR];show ok (D.tup (((ss.map aT).drop 0).take (min n (ss.map aT).length-0))) s=_;rw[ab9,Nat.sub_zero,<- List.map_take,Ã];congr 3;rw[List.take_eq_take_min (i:=n)]
def j8 (ps:List Pg) (m:Int) (ss:List fg) (i:Nat) (dt:List Int) (ds:List Int):List (List Int):=(ds.filter λd=>((kE ps m ss i).zip dt).all λp=>p.1 p.2 d).map λd=>dt++[d]
def TF (hi:i<ss.length) (h3:ss.length<=3) (pr:PR W ps m (ss.getD i cJ) t js (ss.take i)) (len:js.length=i) (u7:Dt i dt) (hd:0<=d/\d<31) (iR:acc.length<=900000)
 (q:Q (.nx [some (bD ps),some (.int m),some (aX ss),some (jr ps m ss),some fd,some (.int i),some (.lst (js.map D.ai)),some (.ai t.length),some (mD dt),some (.int d)]) (t++[.lst ((acc++j8 ps m ss i dt [d]).map mD)])) :
  Wp (CV W [some (bD ps),some (.int m),some (aX ss),some (jr ps m ss),some fd,some (.int i),some (.lst (js.map D.ai)),some (.ai t.length),some (mD dt),some (.int d)] (t++[.lst (acc.map mD)])) Q:=by
 unfold CV;rw[jb];simp only[jy,dO,eG];refine aco (show tZ (ae (aa 8) (ae (aa 6) ah)) [some (bD ps),some (.int m),some (aX ss),some (jr ps m ss),some fd,some (.int i),some (.lst (js.map D.ai)),some (.ai t.length),some (mD dt),some (.int d)] (t++[.lst (acc.map mD)])=ok (cT (dt.map D.int) (js.map D.ai)) (t++[.lst (acc.map mD)]) from rfl) ⟨?_,?_⟩
 ·rw[qb,Ã,Ã]
  exact fM (by omega)
 obtain⟨L,f1,f2⟩:=JG (t:=t++[.lst (acc.map mD)]) hd dt js (ss.take i) (pr.app _) u7.2;refine aco f1 ?_;simp only[qA,dI];refine⟨by decide,aco (eq_nil (vC D.int (λ_=>rfl) _)) ?_⟩
 rw[gK,show (L.map D.int).isEmpty=L.isEmpty by cases L<;>rfl,f2,TC (by omega)]
 have cell:(t++[Cell.lst (acc.map mD)])[t.length]?=some (.lst (acc.map mD)):=by simp
 cases Z:((kE ps m ss i).zip dt).all λp=>p.1 p.2 d with
 |true =>
  simp only[ô];rw[show j8 ps m ss i dt [d]=[dt++[d]] by unfold j8;rw[Ĺ,ß Z];rfl] at q;simp only[nG,nQ,dO,iP,fm,dI,bH,bG];refine⟨(KG (x:=.au) cell (by rw[Ã];exact iR)).1,by show 1<=Õ;decide,?_⟩;refine aco (show cY (mD dt) (.tup [.int d]) _=_ from fR (b:=[d]) (by rw[u7.1];simp;omega)) ?_;refine aco (KG cell (by rw[Ã];exact iR)).2 ?_;rw[Ĳ _ _ (acr _),Nat.sub_self];rw[õ] at q;exact q
 |false =>
  simp only[Ä,ê];rw[show j8 ps m ss i dt [d]=[] by unfold j8;rw[Ĺ,æ (by rw[Z];exact Í)];rfl,Ķ] at q;rw[i9];exact q
def Vu:j8 ps m ss i dt (a++b)=j8 ps m ss i dt a++j8 ps m ss i dt b:=by
 unfold j8;rw[List.filter_append,õ]
def Vv:(j8 ps m ss i dt a).length<=a.length:=by
 unfold j8;rw[Ã];exact Ċ _ _
def RE {m:Int} {i:Nat} {js:List Nat} {dt:List Int} {acc:List (List Int)} {Q:Fl->ag->Prop} (hi:i<ss.length) (h3:ss.length<=3) (pr:PR W ps m (ss.getD i cJ) t js (ss.take i)) (len:js.length=i) (u7:Dt i dt) (iR:acc.length<=800000)
 (q:∀e9,Q (.nx [some (bD ps),some (.int m),some (aX ss),some (jr ps m ss),some fd,some (.int i),some (.lst (js.map D.ai)),some (.ai t.length),some (mD dt),e9]) (t++[.lst ((acc++mF ps m ss i dt).map mD)])) :
  Wp (CY W [some (bD ps),some (.int m),some (aX ss),some (jr ps m ss),some fd,some (.int i),some (.lst (js.map D.ai)),some (.ai t.length),some (mD dt),e9] (t++[.lst (acc.map mD)])) Q:=by
 unfold CY;rw[gr];refine aco (fy (s1:=t++[.lst (acc.map mD)]) (ds:=(dQ ps m (ss.getD i cJ)).map D.int) (acp (by simp only[dO,bG,bH,Mw hi,aP,Ě]))) ?_;have ld:=C5 (ps:=ps) (m:=m) (p:=ss.getD i cJ);refine Wp.gE (λk env X=>∃e9,env=[some (bD ps),some (.int m),some (aX ss),some (jr ps m ss),some fd,some (.int i),some (.lst (js.map D.ai)),some (.ai t.length),some (mD dt),e9]/\X=t++[.lst ((acc++j8 ps m ss i dt ((dQ ps m (ss.getD i cJ)).take k)).map mD)]) _ ⟨_,rfl,by rw[List.take_zero];unfold j8;simp⟩ (λk d env X Z V=>?_) (λenv X V=>?_)
 ·obtain⟨e9,rfl,rfl⟩:=V
  rw[á] at Z
  cases Y:(dQ ps m (ss.getD i cJ))[k]? with
  |none=>rw[Y] at Z;cases Z
  |some x =>
   rw[Y] at Z;cases Z;refine⟨_,rfl,?_⟩;simp only[Ù,Ú];have U:0<=x/\x<31:=by
    have:=š Y;unfold dQ at this;exact vH.mp (ü.mp this).1
   refine TF hi h3 pr len u7 U ?_ ⟨_,rfl,?_⟩
   ·have:=Vv (ps:=ps) (m:=m) (ss:=ss) (i:=i) (dt:=dt) (a:=(dQ ps m (ss.getD i cJ)).take k)
    have:=List.length_take_le k (dQ ps m (ss.getD i cJ));rw[é,ō] at *;omega
   ·rw[abm,Y,Vu,ę]
    rfl
 ·obtain⟨e9,rfl,rfl⟩:=V
  have e:=q e9;rw[Ã,abC];exact e
def Qm (hl:ps.length<=1000) (hi:i<ss.length) (h3:ss.length<=3) (hs:∀p∈ss,de p)
 (q:∀e6 e7 e8 e9 c,Q (.nx [some (bD ps),some (.int m),some (aX ss),some (jr ps m ss),some (.lst ((bz ps m ss (i+1)).map mD)),some (.int i),e6,e7,e8,e9]) (s++c)) :
  Wp (CZ W [some (bD ps),some (.int m),some (aX ss),some (jr ps m ss),some (.lst ((bz ps m ss i).map mD)),some (.int i),e6,e7,e8,e9] s) Q:=by
 unfold CZ;refine acq λR V=>?_;simp only[cy,cZ,eG,Ù,Ú];refine aco (iE (s1:=s) (ds:=(ss.take i).map aT) (acp ?_)) ⟨fM (by rw[Ã,ō];omega),?_⟩
 ·simp only[qV,bG,bH,qE]
  rw[sY (i:=(i:Int)) rfl];exact aco Vt ⟨rfl,rfl⟩
 refine(KD (W:=W) hl hi hs (ss.take i) s λp T=>hs p (List.mem_of_mem_take T)).mono λO t Z=>?_;obtain⟨X,rfl,pr,len,c,rfl⟩:=Z;have len:X.length=i:=by rw[len,ō];omega
 rw[bM];subst V;generalize S:s++c=t at pr;refine jd (env':=[some (bD ps),some (.int m),some (aX ss),some (jr ps m ss),some (.lst ((bz ps m ss i).map mD)),some (.int i),some (.lst (X.map D.ai)),some (.ai t.length),e8,e9]) (s':=t++[.lst []]) rfl ?_;refine acq λR V=>?_;rw[gr];refine aco (fy (ds:=(bz ps m ss i).map mD) rfl) ?_;have dl:=C3 (ps:=ps) (m:=m) (ss:=ss) (i:=i);have N:(31:Nat) ^ i<=961:=Û (abE (by decide) (show i<=2 by omega)) (by decide);refine Wp.gE (λk env s'=>∃e8 e9,env=[some (bD ps),some (.int m),some (aX ss),some (jr ps m ss),some (.lst ((bz ps m ss i).map mD)),some (.int i),some (.lst (X.map D.ai)),some (.ai t.length),e8,e9]/\s'=t++[.lst ((((bz ps m ss i).take k).flatMap (mF ps m ss i)).map mD)]) _ ⟨_,_,rfl,by rw[List.take_zero];rfl⟩ (λk d env s' Y U=>?_) (λenv s' U=>?_)
 ·obtain⟨e8,e9,rfl,rfl⟩:=U
  rw[á] at Y
  cases Z:(bz ps m ss i)[k]? with
  |none=>rw[Z] at Y;cases Y
  |some x =>
   rw[Z] at Y;cases Y;refine⟨_,rfl,?_⟩;simp only[Ù,Ú];have P:=š Z;refine RE hi h3 pr len (nT x P) ?_ λe9=>⟨_,_,rfl,?_⟩
   ·have f:=qg (f:=mF ps m ss i) (b:=31) (l:=(bz ps m ss i).take k) λy _=>by
     unfold mF;rw[Ã];exact Û (Ċ _ _) C5
    have:=List.length_take_le k (bz ps m ss i);rw[ō] at *;omega
   ·rw[abm,Z,List.flatMap_append]
    simp
 ·obtain⟨e8,e9,rfl,rfl⟩:=U
  rw[bM];subst V;rw[Ã,abC];simp only[cy,cZ,qB,bG,bH,Ù,Ú];refine aco Kx ?_;have e:=q (some (.lst (X.map D.ai))) (some (.ai t.length)) e8 e9 (c++[.dead]);rw[<- ę,S] at e;exact e
def W5 {m:Int} (hb:gw ps=true) (hm:0<=m/\m<4) (h1:1<=ss.length) (h3:ss.length<=3) (hs:∀p∈ss,de p):Wp (zC W [bD ps,.int m,aX ss] s) λx s'=>x=.lst ((bz ps m ss ss.length).map mD)/\∃c,s'=s++c:=by
 obtain⟨J,I⟩:=nC hb;unfold zC;refine iQ.symm ▸ ⟨rfl,acq λR T=>?_⟩;simp only[cy,cZ,eG,Ù,Ú];refine aco (iE (ds:=ss.map aT) rfl) ⟨fM (by rw[Ã];omega),?_⟩;refine(IJ aT (λp=>lI (dQ ps m p)) ss s λp O=>⟨[some (aT p),some (bD ps),some (.int m)],rfl,λs=>?_⟩).mono λH t N=>?_
 ·simp only[VC]
  exact Tv hb hm (hs p O)
 obtain⟨rfl,c,rfl⟩:=N;rw[bM];subst T;generalize M:s++c=t;refine jd (env':=[some (bD ps),some (.int m),some (aX ss),some (jr ps m ss),some (.lst ((bz ps m ss 1).map mD)),none,none,none,none,none]) (s':=t) (acp ?_) ?_
 ·simp only[cy,cZ,eG]
  have L:0<ss.length:=by omega
  refine aco (fy (s1:=t) (ds:=(dQ ps m (ss.getD 0 cJ)).map D.int) (acp ?_)) ⟨fM (by rw[Ã];have:=C5 (ps:=ps) (m:=m) (p:=ss.getD 0 cJ);omega),?_⟩
  ·rw[dO]
   refine aco (show aa 3 _ t=ok (jr ps m ss) t from rfl) (aco (show eC (.int 0) _ t=ok (.int 0) t from rfl) ?_);exact aco (Mw (i:=0) L) ⟨rfl,rfl⟩
  refine aco (fX (λ_=>true) (λd=>mD [d]) (dQ ps m (ss.getD 0 cJ)) λd _=>⟨[some (.int d)],rfl,rfl,λ_=>rfl⟩) ?_;rw[filter_tt];have e:bz ps m ss 1=(dQ ps m (ss.getD 0 cJ)).map λd=>[d]:=by
   show [[]].flatMap (mF ps m ss 0)=_;rw[List.flatMap_cons,List.flatMap_nil,Ķ];unfold mF kE;rw[List.filter_eq_self.mpr (by intro x _;rfl)];rfl
  rw[e,ĉ];exact⟨rfl,rfl⟩
 refine acq λR T=>?_;rw[gr];refine aco (show rZ (ae (eC (.int 1)) (ae (eB cz (ae (aa 2) ah)) ah)) [some (bD ps),some (.int m),some (aX ss),some (jr ps m ss),some (.lst ((bz ps m ss 1).map mD)),none,none,none,none,none] t=ok (bS 1 (ss.length-1)) t from ?_) ?_
 ·rw[DJ (i:=1) (j:=(ss.length:Int)) (s1:=t) ?_ (by decide) (by decide) (by omega) (by omega)]
  ·rw[show ((ss.length:Int)-1).toNat=ss.length-1 by omega]
  ·refine acp ?_
   simp only[VC];exact aco (show cz [aX ss] t=ok (.int ss.length) t by rw[show cz [aX ss] t=ok (.int ((ss.map aT).length:Nat)) t from rfl,Ã]) ⟨rfl,rfl⟩
 refine Wp.gE (λk env s'=>∃S Z Y X V c,env=[some (bD ps),some (.int m),some (aX ss),some (jr ps m ss),some (.lst ((bz ps m ss (k+1)).map mD)),S,Z,Y,X,V]/\s'=t++c) _ ⟨_,_,_,_,_,[],rfl,by simp⟩ (λk d env s' U Q=>?_) (λenv s' Q=>?_)
 ·obtain⟨S,Z,Y,X,V,P,rfl,rfl⟩:=Q
  rw[fZ] at U;split at U
  ·rename_i G
   cases U;refine⟨_,rfl,?_⟩;simp only[Ù,Ú];rw[show (1:Int)+(k:Int)=((k+1:Nat):Int) by omega];refine Qm (by omega) (by omega) h3 hs λZ Y X V K=>⟨_,_,_,_,_,P++K,rfl,by simp⟩
  ·cases U
 ·obtain⟨S,Z,Y,X,V,P,rfl,rfl⟩:=Q
  rw[bM];subst T;rw[bX,Nat.sub_add_cancel h1];simp only[gL,ia,bG,bH];exact⟨trivial,c++P,by rw[<- M];simp⟩
def TH :
  Wp (vN nt cap it gd c f env s) Q=Wp (it env s) λp s=>p.1.length<=Õ/\Wp (lg nt (cX cap env) gd c f p.2 p.1 s) λxs s=>Q (.lst xs) s:=by
 unfold vN;simp only[bb,nF,aP]
def RF {α:Type} (d:α->D) (kT:γ s) (h:α->D) (xs:List α) (hh:∀x∈xs,∃env,g (d x) (Ñ nt none++caps)=some env/\t env s=ok true s/\f env s=ok (h x) s) :
  lg nt caps g t f γ (xs.map d) s=ok (xs.map h) s:=by
 induction xs with
 |nil=>rw[Ħ];unfold lg;rw[ß kT];rfl
 |cons n U ih =>
  obtain⟨env,Z,Y,X⟩:=hh n Î;have ih:=ih λW V=>hh W (Ï _ V);rw[Ö];unfold lg;rw[ß kT,Z];simp only[Y,jK,dW,ô,X,ih,Ö]
def JH (h1:wI x s=ok (.bl false) s) (h2:cL [x,.ty "bool"] s=ok (.bl k) s) (h3:aS x x s=ok (.bl true) s):cV.gp (n+1) [x,x] s=ok (.bl true) s:=by
 refine acp ?_;unfold cV.gp;simp only[VC];refine aco h1 ?_;simp only[VC,Ä,ê];refine aco h2 (aco h2 ?_)
 refine aco (show aS (.bl k) (.bl k) s=ok (.bl true) s from by cases k<;>rfl) ?_
 simp only[VC,ô];exact aco h3 ⟨rfl,rfl⟩
def KH:cV.gp (n+1) [.int i,.int i] s=ok (.bl true) s:=JH (k:=false) rfl rfl (acp (by simp only[qF];simp))
def KI (x9:ds.length=es.length) (k1:wI y s=ok (.bl true) s) (x1:cL [x,.ty "tuple"] s=ok (.bl a) s) (y1:cL [y,.ty "tuple"] s=ok (.bl a) s) (x2:cL [x,.ty "list"] s=ok (.bl b) s) (y2:cL [y,.ty "list"] s=ok (.bl b) s) (x3:cz [x] s=ok (.int ds.length) s) (y3:cz [y] s=ok (.int es.length) s) (hz:wN [x,y] s=ok (cT ds es,γ) s) (kT:γ s) (hl:ds.length<=1000) (h:∀p∈ds.zip es,cV.gp n [p.1,p.2] s=ok (.bl true) s):cV.gp (n+1) [x,y] s=ok (.bl true) s:=by
 refine acp ?_;unfold cV.gp;simp only[VC];refine aco k1 ?_;simp only[VC,ô];refine aco x1 (aco y1 ?_)
 refine aco (show gO (.bl a) (.bl a) s=ok (.bl false) s from by cases a<;>rfl) ?_
 simp only[VC,Ä,ê];refine aco x2 (aco y2 ?_)
 refine aco (show gO (.bl b) (.bl b) s=ok (.bl false) s from by cases b<;>rfl) ?_
 simp only[VC,Ä,ê];refine aco x3 (aco y3 ?_);rw[x9];simp only[VC,ě,ô,TH];refine aco (show nZ (ae (aa 0) (ae (aa 1) ah)) [some x,some y] s=ok (cT ds es,γ) s from hz) ⟨le_size (by rw[qb];omega),?_⟩;rw[show cT ds es=(ds.zip es).map λp=>D.tup [p.1,p.2] from rfl];refine aco (RF (λp:D×D=>D.tup [p.1,p.2]) kT (λ_=>.bl true) (ds.zip es) λp Z=>⟨[some p.1,some p.2],rfl,rfl,?_⟩) ?_
 ·refine acp ?_
  simp only[VC,h p Z,Ě]
 ·exact aco (oG (λ_=>true) _ _) ⟨by simp,rfl⟩
theorem Cs {α:Type} {p:α×α}:∀{l:List α},p∈l.zip l->p.1∈l/\p.2=p.1
 | [],h=>by cases h
 |x::l,h=>by
  rw[ġ] at h
  rcases Ó.mp h with rfl|h
  ·exact⟨Î,rfl⟩
  ·obtain⟨a,b⟩:=Cs h
   exact⟨Ï _ a,b⟩
def Vw {n:Nat} {ds:List D} {s:ag} (hl:ds.length<=1000) (h:∀d∈ds,cV.gp n [d,d] s=ok (.bl true) s):cV.gp (n+1) [.tup ds,.tup ds] s=ok (.bl true) s :=
 KI (a:=true) (b:=false) (γ:=λ_=>True) rfl rfl rfl rfl rfl rfl rfl rfl rfl trivial hl λp Z=>by
  obtain⟨Y,X⟩:=Cs Z;rw[X];exact h _ Y
def KJ (e:s[j]?=some (.lst ds)) (x9:ds.length=es.length) (hl:ds.length<=1000) (h:∀p∈ds.zip es,cV.gp n [p.1,p.2] s=ok (.bl true) s):cV.gp (n+1) [.ai j,.lst es] s=ok (.bl true) s:=by
 have Z:res (.ai j) s=.lst ds:=by unfold res;simp only[e]
 have Y:DI.kd (.ai j) s=some .lst:=by unfold DI.kd;rw[Z]
 refine KI (a:=false) (b:=true) (γ:=λs=>res (.ai j) s=.lst ds/\res (.lst es) s=.lst es) x9 rfl ?_ rfl ?_ rfl ?_ rfl ?_ ⟨Z,rfl⟩ hl h
 ·unfold cL;simp only[Y];rfl
 ·unfold cL;simp only[Y];rfl
 ·unfold cz wF;simp only[Z];rfl
 ·have e2:res (.lst es) s=.lst es:=rfl
  unfold wN;simp only[];rw[Z,e2]
def TJ {n j:Nat} {u:List Int} {s:ag} (e:s[j]?=some (.lst (u.map D.int))) (hl:u.length<=1000):cV.gp (n+2) [.ai j,lI u] s=ok (.bl true) s :=
 KJ e rfl (by rw[Ã];exact hl) λp Z=>by
  obtain⟨Y,X⟩:=Cs Z;obtain⟨i,_,e⟩:=ó.mp Y;rw[X,<- e];exact KH
def TR (lo:Nat) (t:ag):List Nat->List (List Int)->Prop
 | [],[]=>True
 |j::Z,u::Y=>(lo<=j/\t[j]?=some (.lst (u.map D.int)))/\TR lo t Z Y
 |_,_=>False
theorem TR.app (c:ag):∀{js:List Nat} {us:List (List Int)},TR lo t js us->TR lo (t++c) js us
 | [],[],_=>trivial
 |j::js,p::Z,h=>by
  obtain⟨⟨l,e⟩,h⟩:=h;exact⟨⟨l,by rw[ã (Å.mp e).1];exact e⟩,h.app c⟩
 | [],_::_,h=>h.elim
 |_::_,[],h=>h.elim
theorem TR.len:∀{js:List Nat} {us:List (List Int)},TR lo t js us->js.length=us.length
 | [],[],_=>rfl
 |j::js,p::Z,h=>by simp[h.2.len]
 | [],_::_,h=>h.elim
 |_::_,[],h=>h.elim
theorem TR.zip:∀{js:List Nat} {us:List (List Int)},TR lo t js us->p∈(js.map D.ai).zip (us.map lI)->∃j u,p=(.ai j,lI u)/\u∈us/\t[j]?=some (.lst (u.map D.int))
 | [],[],_,h=>by cases h
 |j::js,u::us,h,hp=>by
  rw[Ö,Ö,ġ] at hp
  rcases Ó.mp hp with rfl|hp
  ·exact⟨j,u,rfl,Î,h.1.2⟩
  ·obtain⟨j,u,e1,e2,Z⟩:=h.2.zip hp
   exact⟨j,u,e1,Ï _ e2,Z⟩
 | [],_::_,h,_=>h.elim
 |_::_,[],h,_=>h.elim
def IK (e:t[j]?=some (.lst (js.map D.ai))) (h:TR lo t js us) (hn:us.length<=3) (hu:∀u∈us,u.length<=31):cV.gp 8 [.ai j,.lst (us.map lI)] t=ok (.bl true) t :=
 KJ e (by rw[Ã,Ã,h.len]) (by rw[Ã,h.len];omega) λp Z=>by
  obtain⟨i,u,rfl,Y,e⟩:=h.zip Z;exact TJ e (by have:=hu u Y;omega)
def TL (h:∀x,o=some x->x.length<=1000):cV.gp 8 [wW o,wW o] s=ok (.bl true) s:=by
 cases o with
 |none=>exact JH (k:=false) rfl rfl rfl
 |some x =>
  refine Vw (by rw[Ã];exact h x rfl) λd Z=>?_;obtain⟨i,_,rfl⟩:=ó.mp Z;exact KH
def iI (L:List (List Int)) (a:Nat):List Int:=eY (L.map λZ=>Z.getD a 0)
def KL (h:∀dt∈L,Dt n dt) (ha:a<n):(iI L a).length<=31:=by
 have:=sub_len (m:=iI L a) (l:=bW) ((yp _).imp λh=>Int.ne_of_lt h) λk Z=>by
  unfold iI at Z;obtain⟨dt,Y,rfl⟩:=ó.mp (nA.mp Z);obtain⟨W,X⟩:=h dt Y;refine vH.mpr (X _ ?_);rw[ĳ,Ë (by omega)];exact ŵ _
 exact Û this (by simp[bW])
def Mx {dt:List Int} {a:Nat} (h:a<dt.length):aj (mD dt) (.int a) s=ok (.int (dt.getD a 0)) s:=by
 have e:cN (dt.map D.int) (a:Int)=some (.int (dt.getD a 0)):=by
  rw[vE];unfold cN;rw[qI (by omega) (by omega)];show Option.map D.int (dt[(a:Int).toNat]?)=_;rw[ò,Ë h,ĳ,Ë h];rfl
 simp only[aj,iy,res,e,bE]
def Vx (h:Dt n dt) (ha:a<n):0<=dt.getD a 0/\dt.getD a 0<31:=by
 refine h.2 _ ?_;rw[ĳ,Ë (by have:=h.1;omega)];exact ŵ _
def JI {L:List (List Int)} {n a:Nat} (h:∀dt∈L,Dt n dt) (ha:a<n) (hl:L.length<=29791) :
  aM 1 [0] (aR (aa 1)) (gN 0) ba (e1 jI (e2 aj (aa 0) (aa 1))) [some (.int a),some (.lst (L.map mD))] s=ok (lI (L.map λdt=>dt.getD a 0)) s /\
  aM 1 [0] (aR (aa 1)) (gN 0) ba (e2 aj (aa 0) (aa 1)) [some (.int a),some (.lst (L.map mD))] s=ok (lI (L.map λdt=>dt.getD a 0)) s:=by
 have Y:(L.map mD).length<=1000000:=by rw[Ã];omega
 constructor
 ·refine sU (fy (ds:=L.map mD) rfl) Y ?_
  rw[comp_map mD (λ_=>true) (λdt=>.int (dt.getD a 0)) L λdt Z=>⟨[some (mD dt),some (.int a)],rfl,rfl,λ_=>acp ?_⟩]
  ·rw[filter_tt,ĉ];rfl
  ·simp only[oW,dO,bG,bH,Mx (show a<dt.length by have:=(h dt Z).1;omega),aP]
   have:=Vx (h dt Z) ha;refine aco (show jI (.int (dt.getD a 0)) s=ok (.int (dt.getD a 0)) s from ?_) ⟨rfl,rfl⟩;unfold jI;simp only[];rw[ß (by rw[È];omega)]
 ·refine sU (fy (ds:=L.map mD) rfl) Y ?_
  rw[comp_map mD (λ_=>true) (λdt=>.int (dt.getD a 0)) L λdt Z=>⟨[some (mD dt),some (.int a)],rfl,rfl,λ_=>acp ?_⟩]
  ·rw[filter_tt,ĉ];rfl
  ·simp only[dO,bG,bH,Mx (show a<dt.length by have:=(h dt Z).1;omega),aP,Ě]
def JJ (h:∀dt∈L,Dt n dt) (ha:a<n):ka (lI (L.map λdt=>dt.getD a 0)) s=ok (lI (iI L a)) s:=by
 have:=KL h ha;unfold iI at this;unfold ka;simp only[BP];rw[ß (by rw[È];omega)];rfl
theorem IL {L:List (List Int)} {n:Nat} {lo:Nat} (h:∀dt∈L,Dt n dt) (hl:L.length<=29791):∀(as:List Nat) (s:ag),(∀a∈as,a<n)->lo<=s.length ->
  Wp (bY 1 [some (.lst (L.map mD))] (gN 0) ba (e1 nB (aM 1 [0] (aR (aa 1)) (gN 0) ba (e1 jI (e2 aj (aa 0) (aa 1))))) (as.map λa:Nat=>D.int (0+(a:Int))) s) λys t=>∃js,ys=js.map D.ai/\TR lo t js (as.map (iI L))/\∃c,t=s++c
 | [],s,_,_=>by
  rw[Ħ];unfold bY;rw[aP];exact⟨[],rfl,trivial,[],by simp⟩
 |a::as,s,Z,Y=>by
  rw[Ö];unfold bY;rw[Ū,show gN 0 (.int (a:Int)) (Ñ 1 none++[some (.lst (L.map mD))])=some [some (.int (a:Int)),some (.lst (L.map mD))] from rfl];simp only[bb];refine aco (show ne (ba _ s)=ok true s from rfl) ?_;simp only[ô,bb];have e:e1 nB (aM 1 [0] (aR (aa 1)) (gN 0) ba (e1 jI (e2 aj (aa 0) (aa 1)))) [some (.int (a:Int)),some (.lst (L.map mD))] s=ok (.ai s.length) (s++[.lst ((iI L a).map D.int)]):=by
   refine acp ?_;rw[oW];refine aco (JI h (Z a Î) hl).1 (aco (show nB (lI (L.map λdt=>dt.getD a 0)) s=ok (.ai s.length) (s++[.lst ((iI L a).map D.int)]) from ?_) ⟨rfl,rfl⟩);unfold nB;rw[JJ h (Z a Î)]
  refine aco (show ne (e1 nB (aM 1 [0] (aR (aa 1)) (gN 0) ba (e1 jI (e2 aj (aa 0) (aa 1)))) [some (.int (a:Int)),some (.lst (L.map mD))] s)=ok (.ai s.length) (s++[.lst ((iI L a).map D.int)]) by rw[e];rfl) ?_;refine(IL (lo:=lo) h hl as (s++[.lst ((iI L a).map D.int)]) (λb X=>Z b (Ï _ X)) (by rw[é];omega)).mono λys t W=>?_;obtain⟨js,rfl,V,c,rfl⟩:=W;rw[aP];exact⟨s.length::js,rfl,⟨⟨Y,by simp⟩,V⟩,[.lst ((iI L a).map D.int)]++c,by simp⟩
def TM (h:Wp (it env s) λds s=>ds.length<=Õ/\Wp (bY nt (cX cap env) g t f ds s) λxs s=>Q (.ai s.length) (s++[.lst xs])):Wp (oK nt cap it g t f env s) Q:=by
 unfold oK;simp only[bb,nF,aP];exact h
def LJ (h3:ss.length<=3):(bz ps m ss ss.length).length<=29791:=Û C3 (Û (abE (by decide) h3) (by decide))
def KN:cz [aX ss] s=ok (.int ss.length) s:=by rw[show cz [aX ss] s=ok (.int ((ss.map aT).length:Nat)) s from rfl,Ã]
def RG (hb:gw ps=true) (hm:0<=m/\m<4) (h1:1<=ss.length) (h3:ss.length<=3) (hs:∀p∈ss,de p):Wp (vv [bD ps,.int m,aX ss] s) λx t=>∃j js,x=.ai j/\s.length<=j/\t[j]?=some (.lst (js.map D.ai))/\TR s.length t js ((Ø ss.length).map (iI (bz ps m ss ss.length)))/\∃c,t=s++c:=by
 obtain⟨U,T⟩:=nC hb;unfold vv;refine iQ.symm ▸ ⟨rfl,acq λR Z=>?_⟩;simp only[VC];refine aco (JE hb hm h1 h3 hs) ?_;subst Z;refine acq λR Z=>?_;simp only[VC];refine(HY (by omega) h3 hs).mono λx s1 Y=>?_;obtain⟨rfl,c,rfl⟩:=Y;subst Z;rw[gL];refine TM (aco (dJ (s1:=s++c) (n:=ss.length) (acp ?_) (by omega)) ⟨by rw[bX];exact le_size (by omega),?_⟩)
 ·simp only[VC]
  exact aco KN ⟨rfl,rfl⟩
 rw[tj];refine(IL (n:=ss.length) (lo:=s.length) nT (LJ h3) (Ø ss.length) (s++c) (λa X=>ñ.mp X) (by rw[é];omega)).mono λS t Y=>?_;obtain⟨js,rfl,W,V,rfl⟩:=Y;rw[ia];exact⟨_,js,rfl,by simp only[é];omega,by simp,W.app _,c++V++[.lst (js.map D.ai)],by simp⟩
def mV (L:List (List Int)):D:=match lC L with
 |none=>.au
 |some x=>gR x
theorem JK:∀{xs:List (List Int)} {b:List Int},jN b (xs++[y])=if nv y (jN b xs)=true then y else jN b xs
 | [],b=>rfl
 |x::xs,b=>by
  simp only[ĕ,jN]
  split<;>exact JK
def JL:lC (L++[y])=some (match lC L with
  |none=>y
  |some b=>if nv y b=true then y else b):=by
 cases L with
 |nil=>rfl
 |cons x Z=>exact Ŀ some JK
def RH {L:List (List Int)} {y:List Int} {s:ag} {e0 e1 e2 e3 e4 e5 e6 e7 e8 e9 df:Option D} {Q:Fl->ag->Prop} (hy:y≠[])
  (q:∀df,Q (.nx [e0,e1,e2,e3,e4,e5,e6,e7,e8,e9,some (mV (L++[y])),some (mD y),df]) s):Wp (DG [e0,e1,e2,e3,e4,e5,e6,e7,e8,e9,some (mV L),some (mD y),df] s) Q:=by
 unfold DG;refine jd (env':=[e0,e1,e2,e3,e4,e5,e6,e7,e8,e9,some (mV L),some (mD y),some (gR y)]) (s':=s) (acp ?_) ?_
 ·simp only[cy,cZ,iP,fm,dI,dO,kD,bG,bH]
  refine aco (max_eq hy).1 (aco (max_eq hy).2 ?_);simp only[sZ,aP];exact aco (max_eq hy).2 ⟨by show 3<=Õ;decide,rfl,rfl⟩
 simp only[cy,cZ,qD,qC,jy,dO,bG,bH,fT]
 have e:∀x,mV (L++[y])=gR x↔gR (match lC L with|none=>y|some b=>if nv y b=true then y else b)=gR x:=λx=>by unfold mV;rw[JL]
 have Z:Q (.nx [e0,e1,e2,e3,e4,e5,e6,e7,e8,e9,some (gR (match lC L with|none=>y|some b=>if nv y b=true then y else b)),some (mD y),some (gR y)]) s:=by
  have:=q (some (gR y));unfold mV at this;rw[JL] at this;exact this
 unfold mV
 cases Y:lC L with
 |none =>
  rw[Y] at Z;refine aco (show oU .au .au s=ok (.bl true) s from rfl) ?_;rw[gK];simp only[ô];exact Z
 |some b =>
  rw[Y] at Z;refine aco (show oU (gR b) .au s=ok (.bl false) s from rfl) ?_;rw[gK];simp only[Ä,ê];refine aco LG ?_;rw[gK]
  cases X:nv y b with
  |true =>
   simp only[X,ô] at Z |-;exact Z
  |false =>
   simp only[X,Ä,ê] at Z |-;exact Z
def Yc (h:de p):Ft 2 1778 (aT p):=by
 refine oQ (c:=2) (n:=1) (W:=888) (by simp) λx Z=>?_;simp only[Ó,Ĝ,or_false] at Z
 rcases Z with rfl|rfl
 ·exact zR h.h
 ·exact zR h.l
def W6 (hb:gw ps=true) (h3:ss.length<=3) (hs:∀p∈ss,de p):wa [.tup [bD ps,aX ss]] s=ok (.str (py (.tup [bD ps,aX ss])).shown) s:=by
 obtain⟨X,V⟩:=nC hb;have F:Ft 4 (24*(7116+1)) (bD ps):=oQ (by rw[Ã];exact X) λx Z=>by
  obtain⟨p,Y,rfl⟩:=ó.mp Z;exact(V p Y).ft
 have G:Ft 3 (3*(1778+1)) (aX ss):=oQ (by rw[Ã];exact h3) λx Z=>by
  obtain⟨p,Y,rfl⟩:=ó.mp Z;exact Yc (hs p Y)
 have T:Ft 5 (2*(24*(7116+1)+1)) (.tup [bD ps,aX ss]):=oQ (by simp) λx Z=>by
  simp only[Ó,Ĝ,or_false] at Z
  rcases Z with rfl|rfl
  ·exact F
  ·exact G.mono (by decide) (by decide)
 have U:=F.wt;have g3:=G.wt;have w:(py (.tup [bD ps,aX ss])).weight<=200000:=by
  show PyData.weight (.tuple [py (bD ps),py (aX ss)])<=200000;simp only[PyData.weight,aaN];omega
 show (if v9 (.tup [bD ps,aX ss])=true then ok (D.str (py (.tup [bD ps,aX ss])).shown) s else none)=_
 rw[ß (WZ (n:=5) (W:=200000) ⟨T.pl,T.sh,T.nd,T.dp,w,T.lv⟩ (by decide) (by decide))]
def W7 (h3:ss.length<=3) (e5:(env[5]?).getD none=some (aX ss)) (e6:(env[6]?).getD none=some (.lst ((bz ps m ss ss.length).map mD))) :
  aM 1 [6] (bL (ae (eB cz (ae (aa 5) ah)) ah)) (gN 0) ba (e1 ka (aM 1 [0] (aR (aa 1)) (gN 0) ba (e2 aj (aa 0) (aa 1)))) env s=ok (.lst (((Ø ss.length).map (iI (bz ps m ss ss.length))).map lI)) s:=by
 have Y:aa 5 env s=ok (aX ss) s:=by
  unfold aa
  rw[show env[5]?=some (some (aX ss)) by cases h:env[5]? with|none=>rw[h] at e5;cases e5|some z=>rw[h] at e5;exact Ŀ some e5]
 refine sU (dJ (s1:=s) (n:=ss.length) (acp ?_) (by omega)) (by rw[bX];omega) ?_
 ·simp only[fm,dI,kD]
  exact aco Y (aco KN ⟨rfl,rfl⟩)
 rw[show cX [6] env=[some (.lst ((bz ps m ss ss.length).map mD))] by unfold cX;simp only[Ö,Ħ,e6]];rw[tj];rw[comp_map (λa:Nat=>D.int (0+(a:Int))) (λ_=>true) (λa=>lI (iI (bz ps m ss ss.length) a)) (Ø ss.length) λa Z=>⟨[some (.int (0+(a:Int))),some (.lst ((bz ps m ss ss.length).map mD))],rfl,rfl,λ_=>acp ?_⟩]
 ·rw[filter_tt,ĉ];rfl
 ·rw[oW,Ū]
  refine aco (JI (n:=ss.length) nT (ñ.mp Z) (LJ h3)).2 (aco (JJ (n:=ss.length) nT (ñ.mp Z)) ⟨rfl,rfl⟩)
def TR.head (h:TR lo t js us) (hn:1<=us.length):∃j r u,js=j::r/\u∈us/\lo<=j/\t[j]?=some (.lst (u.map D.int)):=by
 cases js with
 |nil=>cases us with
  |nil=>simp at hn
  |cons u us=>exact h.elim
 |cons j r=>cases us with
  |nil=>exact h.elim
  |cons u us=>exact⟨j,r,u,rfl,Î,h.1⟩
def Vy (e:t[j]?=some (.lst (.ai j0::r))):aj (.ai j) (.int 0) t=ok (.ai j0) t:=by
 have a:cN (D.ai j0::r) 0=some (.ai j0):=by
  unfold cN;rw[qI (by omega) (by simp only[ù];omega)];rfl
 simp only[aj,iy,res,e,a,bE]
def RJ {W:Ć} {ns:List Int} {i:Int} {s:ag} {e2 e3 e4 e5 e6 e7 e8 e9 dS fk df:Option D} {Q:Fl->ag->Prop} (hi:0<=i)
  (q:∀e2 e3 e4 e5 e6 e7 e8 e9 dS fk df s',Q (.nx [some (.bQ ns),some (.int i),e2,e3,e4,e5,e6,e7,e8,e9,dS,fk,df]) s') :
  Wp (DH W [some (.bQ ns),some (.int i),e2,e3,e4,e5,e6,e7,e8,e9,dS,fk,df] s) Q:=by
 unfold DH;refine acq λR Z=>?_;simp only[VC];refine(S7 hi).mono λd s1 Y=>?_;obtain⟨rfl,H,c1,rfl⟩:=Y;generalize s.length=k at H;subst Z;refine acq λR Z=>?_;simp only[VC];refine(Ti H).mono λd s2 Y=>?_;obtain⟨ps,rfl,l,y,h,N⟩:=Y;rw[sY (i:=24) rfl];refine aco (W0 (n:=24)) ?_;rw[List.take_of_length_le (by omega)];refine(gM y (by decide) (by decide)).mono λd s3 Y=>?_;obtain⟨m,rfl,m0,m1,w,g⟩:=Y;subst Z;have J:0<=m/\m<4:=⟨m0,by omega⟩;refine acq λR Z=>?_;simp only[VC];refine(RC N J w).mono λd f Y=>?_;obtain⟨ss,rfl,G,M,hs,e,c⟩:=Y;subst Z;clear H y w h g c e;have F:=λs=>W6 (s:=s) N M hs;generalize (py (.tup [bD ps,aX ss])).shown=X at F;refine acq λR Z=>?_;rw[cy,iP];simp only[fm,dI,wp_call,bG,bH,kD,iP];refine(W5 N J G M hs).mono λd s5 Y=>?_;obtain⟨rfl,c5,rfl⟩:=Y;refine⟨by show 2<=Õ;decide,aco (F _) ⟨by show 2<=Õ;decide,?_⟩⟩;simp only[qU,qe,qm,Ù,Ú,bM];subst Z;generalize f++c5=s5;refine acq λR Z=>?_;rw[cy];refine aco (W7 (ps:=ps) (m:=m) (ss:=ss) M rfl rfl) ?_;simp only[cZ,Ù,Ú,bM];subst Z;have T:∀u∈(Ø ss.length).map (iI (bz ps m ss ss.length)),u.length<=31:=λu T=>by
  obtain⟨a,ha,rfl⟩:=ó.mp T;exact KL (n:=ss.length) nT (ñ.mp ha)
 have un:((Ø ss.length).map (iI (bz ps m ss ss.length))).length=ss.length:=by rw[Ã,İ]
 have E:=λs=>RG (s:=s) N J G M hs;generalize hU:(Ø ss.length).map (iI (bz ps m ss ss.length))=U at T un E |-;refine acq λR Z=>?_;simp only[cy,cZ,wp_call,fm,dI,bG,bH,Ù,Ú];refine(E s5).mono λd C Y=>?_;obtain⟨j,js,rfl,lj,V,S,c6,rfl⟩:=Y;rw[bM];subst Z;generalize s5++c6=C at V S |-;refine acq λR Z=>?_;simp only[jb,ql,nP,wp_call,fm,dI,bG,bH];refine aco (IK V S (by omega) T) ?_;rw[jw];simp only[Ā,Ä,ê,i9,bM];subst Z;obtain⟨P,r,L,rfl,v,_,K⟩:=S.head (by omega);refine acq λR Z=>?_;simp only[nG,nQ,dO,fT,bG,bH];refine aco (Vy (r:=r.map D.ai) V) ⟨(pq (x:=.au) K (by rw[Ã];have:=T L v;omega)).1,aco (pq K (by rw[Ã];have:=T L v;omega)).2 ?_⟩;rw[bM];subst Z;have B:P≠j:=λz=>by
  rw[z,V] at K;have:=Cell.lst.inj (acs K)
  cases L with
  |nil=>cases this
  |cons a b=>cases this
 have I:(C.set P (.lst (L.map D.int++[.int 9])))[j]?=some (.lst ((P::r).map D.ai)):=by rw[Ý B];exact V
 generalize C.set P (.lst (L.map D.int++[.int 9]))=s7 at I |-;have lr:(P::r).length<=3:=by rw[S.len];omega
 refine acq λR Z=>?_;simp only[nG,nQ,fT,bG,bH];refine⟨(pq (x:=.au) I (by rw[Ã];omega)).1,aco (pq I (by rw[Ã];omega)).2 ?_⟩;rw[bM];subst Z;generalize s7.set j (.lst ((P::r).map D.ai++[.int 0]))=p;clear V K I S;refine acq λR Z=>?_;simp only[jb,ql,nP,wp_call,fm,dI,bG,bH];refine(E p).mono λd o Y=>?_;obtain⟨j2,js2,rfl,_,V,S,c9,rfl⟩:=Y;refine aco (IK V S (by omega) T) ?_;rw[jw];simp only[Ā,Ä,ê,i9,bM];subst Z;generalize p++c9=o;refine acq λR Z=>?_;simp only[cy,cZ,fT,Ù,Ú,bM];subst Z;refine acq λR Z=>?_;rw[gr];refine aco (fy (ds:=(bz ps m ss ss.length).map mD) rfl) ?_;refine Wp.gE (λn env t=>t=o/\∃fk df,env=[some (.bQ ns),some (.int i),some (.ai k),some (bD ps),some (.int m),some (aX ss),some (.lst ((bz ps m ss ss.length).map mD)),some (.str X),some (.lst (U.map lI)),some (.ai j),some (mV ((bz ps m ss ss.length).take n)),fk,df]) _ ⟨rfl,_,_,rfl⟩ (λn d env t Y A=>?_) λenv t A=>?_
 ·obtain⟨rfl,fk,df,rfl⟩:=A
  rw[á] at Y
  cases O:(bz ps m ss ss.length)[n]? with
  |none=>rw[O] at Y;cases Y
  |some x =>
   rw[O] at Y;cases Y;refine⟨_,rfl,?_⟩;simp only[Ù,Ú];refine RH ?_ λdf=>⟨rfl,_,_,by rw[abm,O];rfl⟩;have:=(nT x (š O)).1;intro z;rw[z] at this;simp at this;omega
 ·obtain⟨rfl,fk,df,rfl⟩:=A
  rw[bM];subst Z;rw[Ã,abC];refine jd (env':=[some (.bQ ns),some (.int i),some (.ai k),some (bD ps),some (.int m),some (aX ss),some (.lst ((bz ps m ss ss.length).map mD)),some (.str X),some (wW (lC (bz ps m ss ss.length))),some (.ai j),some (mV (bz ps m ss ss.length)),fk,df]) (s':=t) (acp ?_) ?_
  ·simp only[cy,cZ,qD,jy,dO,bG,bH,fT]
   unfold mV
   cases lC (bz ps m ss ss.length) with
   |none =>
    refine aco (show oU .au .au t=ok (.bl true) t from rfl) ?_;rw[gK];exact⟨rfl,rfl⟩
   |some b =>
    refine aco (show oU (gR b) .au t=ok (.bl false) t from rfl) ?_;rw[gK];simp only[Ä,ê];exact aco (show aj (gR b) (.int 2) t=ok (mD b) t from rfl) ⟨rfl,rfl⟩
  rw[jb];simp only[qC,ql,nP,wp_call,fm,dI,bG,bH];refine(RD N J G M hs).mono λd s10 Y=>?_;obtain⟨rfl,NT,rfl⟩:=Y;refine aco (TL λx O=>?_) ?_
  ·have:=(nT x (Tr O)).1
   omega
  rw[jw];simp only[Ā,Ä,ê,jy,dO,kD,fm,dI,iP,bG,bH];refine⟨by show 2<=Õ;decide,aco (F _) (aco ne_str ?_)⟩;rw[gK];simp only[Ä,ê,i9];exact q _ _ _ _ _ _ _ _ _ _ _ _
def TN (W:Ć) (ns:List Int) (hn:ns.length<=63):∃s,cV.Ak W [.bQ ns] []=some (.ok (.bl true),s):=by
 suffices h:Wp (cV.Ak W [.bQ ns] []) λd _=>d=.bl true by
  obtain⟨d,s,e,rfl⟩:=h;exact⟨s,e⟩
 unfold cV.Ak;refine iQ.symm ▸ ⟨rfl,acq λR K=>?_⟩;rw[gr];have Y:∃n:Nat,n<=1000/\(ae (eB qL (ae (eC (.int 1)) (ae (eB v7 (ae (eB cz (ae (aa 0) ah)) (ae (eC (.int 2)) ah))) ah))) ah) [some (.bQ ns),none,none,none,none,none,none,none,none,none,none,none,none] []=ok [.int n] []:=by
  refine⟨(if (if (2:Int)<ns.length then (2:Int) else ns.length) > 1 then (if (2:Int)<ns.length then (2:Int) else ns.length) else 1).toNat,by split<;>split<;>omega,?_⟩
  rw[Int.toNat_of_nonneg (by split<;>split<;>omega)]
  rfl
 obtain⟨n,hn,Y⟩:=Y;refine aco (dJ Y (by omega)) ?_;refine Wp.gE (λi env s=>∃e1 e2 X V U T S Q P O N M,env=[some (.bQ ns),e1,e2,X,V,U,T,S,Q,P,O,N,M]) _ ⟨_,_,_,_,_,_,_,_,_,_,_,_,rfl⟩ (λi d env s Z L=>?_) (λenv s L=>?_)
 ·obtain⟨e1,e2,X,V,U,T,S,Q,P,O,N,M,rfl⟩:=L
  rw[fZ] at Z;split at Z
  ·have Z:D.int (0+(i:Int))=d:=acs Z
   subst Z;exact⟨_,rfl,RJ (by omega) λ_ _ _ _ _ _ _ _ _ _ _ _=>⟨_,_,_,_,_,_,_,_,_,_,_,_,rfl⟩⟩
  ·cases Z
 ·obtain⟨e1,e2,X,V,U,T,S,Q,P,O,N,M,rfl⟩:=L
  rw[bM];subst K;simp only[gL,fT,ia]
end DI
end
namespace DI.cV
open PySem L2 DI
def Df (K:ļ) (x:Str) (st:Stmt):Prop:=∃(f:â) (Z:Ì) (Y:Option â) (X:Array (Option Ì)) (kV W pm:Ì) (an:Option â) (cd V:Ì),ċ K ø x=some (some (.ref f))/\K.lookup f=some ⟨Z,Y,.func (η x x (qh st) (mI st) (iD st) .none kV W pm an cd V),X⟩/\abp K cd x=true/\ź K (.ref f)=true
def Yd {K:ļ} {x:Str} {st:Stmt} {f:â} {oc:Ì} {od:Option â} {sl:Array (Option Ì)} {kV dc pm:Ì} {an:Option â} {cd ct:Ì} (a:ċ K ø x=some (some (.ref f))) (l:K.lookup f=some ⟨oc,od,.func (η x x (qh st) (mI st) (iD st) .none kV dc pm an cd ct),sl⟩) (c:abp K cd x=true) (k:ź K (.ref f)=true):Df K x st:=⟨f,oc,od,sl,kV,dc,pm,an,cd,ct,a,l,c,k⟩
def qW {K:ļ} {x:Str} {i:Int} {t:Tok} (e:ċ K ø x=some (some (.int i t))):∃t,ċ K ø x=some (some (.int i t)):=⟨t,e⟩
def bB {K:ļ} {h:Ţ} {mg:Str->Option Ì} {x:Str} {st:Stmt} {ps:List Str} (X:K.In h) (G:h.Ns ø mg) (D:Df K x st) (hb:∀(kV doc pm:Ì) (an:Option â) (cF ct:Ì) (us:List Ì),us.length=ps.length->bindArgs (η x x (qh st) (mI st) (iD st) .none kV doc pm an cF ct) ⟨us,[]⟩=pure (ps.zip us)):∃f fd,Gd K mg x st ps f fd:=by
 obtain⟨f,Z,Y,W,kV,V,pm,an,cd,ct,a,l,c,k⟩:=D;have F:=KZ (st:=st) l c k;exact⟨f,_,Ũ X G a,F,F.binds hb⟩
def ic {P:List Ì->Prop} (h:∀a0:Ì,P [a0]) (us:List Ì) (hl:us.length=1):P us:=by
 cases us with
 |nil=>simp at hl
 |cons a0 Z =>
 cases Z with
 |cons _ _=>simp at hl
 |nil =>
 exact h a0
def lD {P:List Ì->Prop} (h:∀a0 a1:Ì,P [a0,a1]) (us:List Ì) (hl:us.length=2):P us:=by
 cases us with
 |nil=>simp at hl
 |cons a0 Z =>
 cases Z with
 |nil=>simp at hl
 |cons a1 Y =>
 cases Y with
 |cons _ _=>simp at hl
 |nil =>
 exact h a0 a1
def ie {P:List Ì->Prop} (h:∀a0 a1 a2:Ì,P [a0,a1,a2]) (us:List Ì) (hl:us.length=3):P us:=by
 cases us with
 |nil=>simp at hl
 |cons a0 Z =>
 cases Z with
 |nil=>simp at hl
 |cons a1 Y =>
 cases Y with
 |nil=>simp at hl
 |cons a2 X =>
 cases X with
 |cons _ _=>simp at hl
 |nil =>
 exact h a0 a1 a2
def An {P:List Ì->Prop} (h:∀a0 a1 a2 a3:Ì,P [a0,a1,a2,a3]) (us:List Ì) (hl:us.length=4):P us:=by
 cases us with
 |nil=>simp at hl
 |cons a0 Y =>
 cases Y with
 |nil=>simp at hl
 |cons a1 X =>
 cases X with
 |nil=>simp at hl
 |cons a2 W =>
 cases W with
 |nil=>simp at hl
 |cons a3 Z =>
 cases Z with
 |cons _ _=>simp at hl
 |nil =>
 exact h a0 a1 a2 a3
def all_mk {P:ö} {w:Ć} {K:ļ} {h:Ţ} {mg:Str->Option Ì} {fa:â} (X:K.In h) (G:h.Ns ø mg) (hfa:mg "law"=some (.ref fa))
  (d0:Df K "_law_cell_at" (top 51))
  (d1:Df K "_law_state" (top 52))
  (d2:Df K "_law_take" (top 53))
  (d3:Df K "_law_leads" (top 61))
  (d4:Df K "_law_gone" (top 60))
  (d5:Df K "_law_may" (top 59))
  (d6:Df K "_law_marks" (top 55))
  (d7:Df K "_law_sheet" (top 56))
  (d8:Df K "_law_sheets" (top 62))
  (d9:Df K "is_rising" (top 14))
  (Gv:Df K "is_number" (top 9))
  (Gw:Df K "is_below" (top 10))
  (Gx:Df K "is_mark" (top 11))
  (Gy:Df K "are_marks" (top 20))
  (Gz:Df K "are_apart" (top 22))
  (GA:Df K "is_sheet" (top 21))
  (GB:Df K "is_mould" (top 12))
  (GC:Df K "is_day" (top 13))
  (GD:Df K "is_page" (top 23))
  (GF:Df K "are_laid" (top 24))
  (GH:Df K "days_seen" (top 29))
  (GI:Df K "days_mended" (top 30))
  (GJ:Df K "is_any_behind" (top 28))
  (GK:Df K "clashes" (top 27))
  (GN:Df K "faults_of" (top 26))
  (GO:Df K "is_book" (top 25))
  (GP:Df K "need_book" (top 31))
  (GQ:Df K "need_mould" (top 15))
  (GR:Df K "are_sheets" (top 43))
  (GS:Df K "need_asked" (top 44))
  (GU:Df K "days_present" (top 35))
  (bW:Df K "days_absent" (top 36))
  (GV:Df K "marks_on" (top 34))
  (GW:Df K "sure_sheets" (top 33))
  (GX:Df K "mendings_between" (top 48))
  (GY:Df K "is_clear" (top 49))
  (GZ:Df K "days_together" (top 47))
  (G0:Df K "agree" (top 37))
  (G1:Df K "is_free" (top 46))
  (G2:Df K "datings" (top 45))
  (G3:Df K "days_of" (top 40))
  (G4:Df K "_law_alone" (top 63))
  (G5:Df K "_law_between" (top 65))
  (G6:Df K "_law_two" (top 64))
  (G7:Df K "_law_all" (top 66))
  (G8:Df K "_law_same" (top 54))
  (G9:Df K "_law_lived" (top 57))
  (Ha:Df K "_law_book" (top 58))
  (Hb:Df K "by_width" (top 42))
  (Hc:Df K "narrowest" (top 41))
  (dl:Df K "law" (top 67))
  (C6:∃t,ċ K ø "MARKS"=some (some (.int (8) t)))
  (Ct:∃t,ċ K ø "MOULDS"=some (some (.int (4) t)))
  (DN:∃t,ċ K ø "DAYS"=some (some (.int (31) t)))
  (C7:∃t,ċ K ø "PAGES"=some (some (.int (24) t)))
  (Et:∃t,ċ K ø "HAS"=some (some (.int (0) t)))
  (C8:∃t,ċ K ø "LACKS"=some (some (.int (1) t)))
  (Cu:∃t,ċ K ø "SHEETS"=some (some (.int (3) t)))
  (Eu:ċ K ø "all"=some none)
  (Ew:ċ K ø "any"=some none)
  (DO:ċ K ø "bool"=some none)
  (Ey:ċ K ø "int"=some none)
  (Bx:ċ K ø "isinstance"=some none)
  (Ez:ċ K ø "len"=some none)
  (DP:ċ K ø "list"=some none)
  (EA:ċ K ø "max"=some none)
  (EB:ċ K ø "min"=some none)
  (C9:ċ K ø "range"=some none)
  (DQ:ċ K ø "repr"=some none)
  (BL:ċ K ø "reversed"=some none)
  (EC:ċ K ø "set"=some none)
  (Cv:ċ K ø "sorted"=some none)
  (Dc:ċ K ø "tuple"=some none)
  (ED:ċ K ø "zip"=some none)
  : ∃fd:ť,(∀(s:Ç) (v:Ì),BindsTo s fd ⟨[v],[]⟩ [(acA,v)])/\∀base:Ţ,K.In base->base.Ns ø mg->gf P w K mg base iu 13 fa fd [acA] (Ae K):=by
 have g0:=bB (ps:=[acA,"_law_k"]) X G d0 λ_ _ _ _ _ _=>lD λ_ _=>rfl;have g1:=bB (ps:=[acA,"_law_k"]) X G d1 λ_ _ _ _ _ _=>lD λ_ _=>rfl;have g2:=bB (ps:=[acx,"_law_many"]) X G d2 λ_ _ _ _ _ _=>lD λ_ _=>rfl;have g3:=bB (ps:=["_law_later",acz,acG]) X G d3 λ_ _ _ _ _ _=>ie λ_ _ _=>rfl;have g4:=bB (ps:=[acQ,acz,acG]) X G d4 λ_ _ _ _ _ _=>ie λ_ _ _=>rfl;have g5:=bB (ps:=["_law_laid",acw,acv]) X G d5 λ_ _ _ _ _ _=>ie λ_ _ _=>rfl;have g6:=bB (ps:=[acx,"_law_most"]) X G d6 λ_ _ _ _ _ _=>lD λ_ _=>rfl;have g7:=bB (ps:=[acx]) X G d7 λ_ _ _ _ _ _=>ic λ_=>rfl;have g8:=bB (ps:=[acx,acy,acw]) X G d8 λ_ _ _ _ _ _=>ie λ_ _ _=>rfl;have g9:=bB (ps:=["things"]) X G d9 λ_ _ _ _ _ _=>ic λ_=>rfl;have Z:=bB (ps:=["thing"]) X G Gv λ_ _ _ _ _ _=>ic λ_=>rfl;have Y:=bB (ps:=["thing","many"]) X G Gw λ_ _ _ _ _ _=>lD λ_ _=>rfl;have W:=bB (ps:=["thing"]) X G Gx λ_ _ _ _ _ _=>ic λ_=>rfl;have V:=bB (ps:=["thing"]) X G Gy λ_ _ _ _ _ _=>ic λ_=>rfl;have U:=bB (ps:=["marks","others"]) X G Gz λ_ _ _ _ _ _=>lD λ_ _=>rfl;have T:=bB (ps:=["thing"]) X G GA λ_ _ _ _ _ _=>ic λ_=>rfl;have S:=bB (ps:=["thing"]) X G GB λ_ _ _ _ _ _=>ic λ_=>rfl;have R:=bB (ps:=["thing"]) X G GC λ_ _ _ _ _ _=>ic λ_=>rfl;have Q:=bB (ps:=["thing"]) X G GD λ_ _ _ _ _ _=>ic λ_=>rfl;have O:=bB (ps:=["thing"]) X G GF λ_ _ _ _ _ _=>ic λ_=>rfl;have N:=bB (ps:=["pages","mould","mark","half"]) X G GH λ_ _ _ _ _ _=>An λ_ _ _ _=>rfl;have M:=bB (ps:=["pages","mould","mark"]) X G GI λ_ _ _ _ _ _=>ie λ_ _ _=>rfl;have L:=bB (ps:=["days","day","later"]) X G GJ λ_ _ _ _ _ _=>ie λ_ _ _=>rfl;have J:=bB (ps:=["pages","mould","mark"]) X G GK λ_ _ _ _ _ _=>ie λ_ _ _=>rfl;have I:=bB (ps:=["pages"]) X G GN λ_ _ _ _ _ _=>ic λ_=>rfl;have H:=bB (ps:=["thing"]) X G GO λ_ _ _ _ _ _=>ic λ_=>rfl;have E:=bB (ps:=["thing"]) X G GP λ_ _ _ _ _ _=>ic λ_=>rfl;have D:=bB (ps:=["thing"]) X G GQ λ_ _ _ _ _ _=>ic λ_=>rfl;have C:=bB (ps:=["thing"]) X G GR λ_ _ _ _ _ _=>ic λ_=>rfl;have B:=bB (ps:=["book","mould","sheets"]) X G GS λ_ _ _ _ _ _=>ie λ_ _ _=>rfl;have A:=bB (ps:=["book","mould","mark"]) X G GU λ_ _ _ _ _ _=>ie λ_ _ _=>rfl;have z:=bB (ps:=["book","mould","mark"]) X G bW λ_ _ _ _ _ _=>ie λ_ _ _=>rfl;have y:=bB (ps:=["days_by_mark","day"]) X G GV λ_ _ _ _ _ _=>lD λ_ _=>rfl;have x:=bB (ps:=["book","mould"]) X G GW λ_ _ _ _ _ _=>lD λ_ _=>rfl;have u:=bB (ps:=["book","mould","sheet","other"]) X G GX λ_ _ _ _ _ _=>An λ_ _ _ _=>rfl;have r:=bB (ps:=["mendings","day","later"]) X G GY λ_ _ _ _ _ _=>ie λ_ _ _=>rfl;have q:=bB (ps:=["book","mould","sheet","other"]) X G GZ λ_ _ _ _ _ _=>An λ_ _ _ _=>rfl;have p:=bB (ps:=["sheet","sure"]) X G G0 λ_ _ _ _ _ _=>lD λ_ _=>rfl;have o:=bB (ps:=["tables","dating","day"]) X G G1 λ_ _ _ _ _ _=>ie λ_ _ _=>rfl;have n:=bB (ps:=["book","mould","sheets"]) X G G2 λ_ _ _ _ _ _=>ie λ_ _ _=>rfl;have m:=bB (ps:=["book","mould","sheets"]) X G G3 λ_ _ _ _ _ _=>ie λ_ _ _=>rfl;have j:=bB (ps:=[acy,acw,acL]) X G G4 λ_ _ _ _ _ _=>ie λ_ _ _=>rfl;have i:=bB (ps:=[acH,acM,acN]) X G G5 λ_ _ _ _ _ _=>ie λ_ _ _=>rfl;have g:=bB (ps:=[acy,acw,acz,acE]) X G G6 λ_ _ _ _ _ _=>An λ_ _ _ _=>rfl;have d:=bB (ps:=[acy,acw,acI]) X G G7 λ_ _ _ _ _ _=>ie λ_ _ _=>rfl;have b:=bB (ps:=[acB,acF]) X G G8 λ_ _ _ _ _ _=>lD λ_ _=>rfl;have g46:=bB (ps:=[acx,acR]) X G G9 λ_ _ _ _ _ _=>lD λ_ _=>rfl;have g47:=bB (ps:=[acx]) X G Ha λ_ _ _ _ _ _=>ic λ_=>rfl;have g48:=bB (ps:=["dating"]) X G Hb λ_ _ _ _ _ _=>ic λ_=>rfl;have g49:=bB (ps:=["book","mould","sheets"]) X G Hc λ_ _ _ _ _ _=>ie λ_ _ _=>rfl;have qc:∃t,mg "MARKS"=some (.int (8) t):=by obtain⟨t,e⟩:=C6;exact⟨t,Ũ X G e⟩
 have yK:∃t,mg "MOULDS"=some (.int (4) t):=by obtain⟨t,e⟩:=Ct;exact⟨t,Ũ X G e⟩
 have mK:∃t,mg "DAYS"=some (.int (31) t):=by obtain⟨t,e⟩:=DN;exact⟨t,Ũ X G e⟩
 have Ck:∃t,mg "PAGES"=some (.int (24) t):=by obtain⟨t,e⟩:=C7;exact⟨t,Ũ X G e⟩
 have qz:∃t,mg "HAS"=some (.int (0) t):=by obtain⟨t,e⟩:=Et;exact⟨t,Ũ X G e⟩
 have qd:∃t,mg "LACKS"=some (.int (1) t):=by obtain⟨t,e⟩:=C8;exact⟨t,Ũ X G e⟩
 have BW:∃t,mg "SHEETS"=some (.int (3) t):=by obtain⟨t,e⟩:=Cu;exact⟨t,Ũ X G e⟩
 have Ye:=ď X G Eu;have Yf:=ď X G Ew;have W8:=ď X G DO;have Yg:=ď X G Ey;have OS:=ď X G Bx;have Yh:=ď X G Ez;have W9:=ď X G DP;have Yi:=ď X G EA;have Yj:=ď X G EB;have Vz:=ď X G C9;have Xa:=ď X G DQ;have Qn:=ď X G BL;have Yk:=ď X G EC;have TQ:=ď X G Cv;have VA:=ď X G Dc;have Yl:=ď X G ED;obtain⟨f,oc,od,sl,kV,dc,pm,an,cd,ct,a,l,c,k⟩:=dl;have e:=hfa.symm.trans (Ũ X G a);cases e;have F:=KZ (st:=(top 67)) l c k;have GL:Gd K mg "law" (top 67) [acA] _ _:=⟨Ũ X G a,F,F.binds λ_ _ _ _ _ _=>ic λ_=>rfl⟩;exact⟨_,λs v=>.of_eq rfl,λbase _ _=>Wv (WO ⟨Ye,Yf,W8,Yg,OS,Yh,W9,Yi,Yj,Vz,Xa,Qn,Yk,TQ,VA,Yl,qc,yK,mK,Ck,qz,qd,BW,g0,g1,g2,g3,g4,g5,g6,g7,g8,g9,Z,Y,W,V,U,T,S,R,Q,O,N,M,L,J,I,H,E,D,C,B,A,z,y,x,u,r,q,p,o,n,m,j,i,g,d,b,g46,g47,g48,g49⟩ GL) (TN w)⟩
def walk {l:PySem.W.OpenLaw} {q:ö} {loose:List Str} {XP:(Str->Option Ì)->Ţ->Prop} {YP:Ć->Ţ->Prop} {d:DefRec} {K:Params->ļ} (hn:l.most=some 63) (xp:d.params.defaults=[])
  (hY:∀(w:Ć) (h:Ţ),YP w h->(K w.params).In h)
  (F:∀(w:Ć) (mg:Str->Option Ì) (fa:â) (h:Ţ),(K w.params).In h->h.Ns ø mg->mg d.name=some (.ref fa) ->
   ∃fd:ť,(∀(s:Ç) (u:Ì),BindsTo s fd ⟨[u],[]⟩ [(acA,u)])/\∀base:Ţ,(K w.params).In base->base.Ns ø mg->gf l.prog w (K w.params) mg base iu 13 fa fd [acA] (Ae (K w.params))) :
  PySem.W.WalkO q loose XP YP l.row.toRowW d [] (λf vs=>PySem.call f vs) :=
 L2.Uj (n:=63) (k:=13) (x:= acA) (CX:=λ_=>iu) (sp:=λw=>Ae (K w.params)) hn (by decide) xp ⟨rfl,by decide,by decide,rfl⟩ hY F (λ_ _ a Z Y _ X=>⟨a,Z,rfl,X,Y,λ_=>rfl⟩) λ_ _ _ _ _ z=>z
end DI.cV
open PySem PySem.W PyProof.Rows
namespace PySem.W.Fast
def te15038506444000289534:=trivial
def te2298423429814245037:=trivial
def te13692718594856465595:=trivial
def te8403559534865787773:=trivial
def te15500001179271910561:=trivial
def te4678103353419205127:=trivial
def te1407382221614680033:=trivial
def te6299705147142563305:=trivial
def te17103844004107253187:=trivial
def te11703868558255655079:=trivial
def te13134895731504519434:=trivial
end PySem.W.Fast
set_option maxRecDepth 100000 in
set_option maxHeartbeats 0 in
theorem PySem.Challenge.cw_twinmoulds_k09_narrowest_datings_holds : PySem.Challenge.rw_twinmoulds_k09_narrowest_datings.Holds := by
 w_on;o_law;k_head;(case hw=>w_witness2)
 k_fill
 refine DI.cV.walk (l:=PySem.Challenge.rw_twinmoulds_k09_narrowest_datings) rfl rfl (λw h Y=>PySem.W.kIn_of Y) ?F
 case F =>
  intro w V U h Z G X;refine' DI.cV.all_mk Z G X ?d0 ?d1 ?d2 ?d3 ?d4 ?d5 ?d6 ?d7 ?d8 ?d9 ?Gv ?Gw ?Gx ?Gy ?Gz ?GA ?GB ?GC ?GD ?GF ?GH ?GI ?GJ ?GK ?GN ?GO ?GP ?GQ ?GR ?GS ?GU ?bW ?GV ?GW ?GX ?GY ?GZ ?G0 ?G1 ?G2 ?G3 ?G4 ?G5 ?G6 ?G7 ?G8 ?G9 ?Ha ?Hb ?Hc ?dl ?C6 ?Ct ?DN ?C7 ?Et ?C8 ?Cu ?Eu ?Ew ?DO ?Ey ?Bx ?Ez ?DP ?EA ?EB ?C9 ?DQ ?BL ?EC ?Cv ?Dc ?ED
  (case d0|d1|d2|d3|d4|d5|d6|d7|d8|d9|Gv|Gw|Gx|Gy|Gz|GA|GB|GC|GD|GF|GH|GI|GJ|GK|GN|GO|GP|GQ|GR|GS|GU|bW|GV|GW|GX|GY|GZ|G0|G1|G2|G3|G4|G5|G6|G7|G8|G9|Ha|Hb|Hc|dl=>refine' DI.cV.Yd ?a ?l ?c ?k;(case a=>k_is);(case l=>k_is);(case c=>k_is);(case k=>k_is))
  (case C6=>refine' DI.cV.qW ?e;(case e=>k_is))
  (case Ct=>refine' DI.cV.qW ?e;(case e=>k_is))
  (case DN=>refine' DI.cV.qW ?e;(case e=>k_is))
  (case C7=>refine' DI.cV.qW ?e;(case e=>k_is))
  (case Et=>refine' DI.cV.qW ?e;(case e=>k_is))
  (case C8=>refine' DI.cV.qW ?e;(case e=>k_is))
  (case Cu=>refine' DI.cV.qW ?e;(case e=>k_is))
  (case Eu|Ew|DO|Ey|Bx|Ez|DP|EA|EB|C9|DQ|BL|EC|Cv|Dc|ED=>k_is)
