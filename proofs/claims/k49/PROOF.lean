import PyProof.Rows.All
import Wide.All
import OpenK.AllK
import Wide.FinOn
import Lean
import PyProof.EqAt
import PyProof.EqKinds
import PyProof.TupleCall
import PyProof.NeData
import PyProof.P3In
import PyProof.FactsAll.set
import PyProof.CollectWalk
import PyProof.FactsAll.range
import PyProof.MinMaxWalk
import KE.KMinKey
import PyProof.WalkInts
import PyProof.Rows.CallKwBuiltin
import KE.KLam
import KE.KSortTup
import PyProof.Rows.Range3
import PyProof.ListRange
import PyProof.DictRoadsH
import KE.KDictList
import PyProof.Rows.SortKeyStr
import PyProof.DictCompW
import PyProof.DictWalks
import PyProof.Rows.CompDC
import PyProof.SumAny
import PyProof.TupleOfGen
import PyProof.CollectIter
import KE.KTryMore
import OpenK.KOwn
import PyProof.ExcBaseAll.ValueError
import KE.KNestM
import PyProof.NsDelKeeps
import PyProof.ExcAttrAll.ValueError
import PyProof.Conv_int_bool
import KE.KIntText
import PyProof.StrLawsTight
import PyProof.StrLawsChain
import PyProof.StrLawsIn
import PySem.Challenge.RW_twinmoulds_k49_books_as_texts
set_option bootstrap.genMatcherCode false
set_option genInjectivity false
set_option genSizeOfSpec false
set_option Elab.async false
set_option linter.all false
set_option maxRecDepth 100000
set_option maxHeartbeats 4000000
open PySem renaming wpAny_bind→À,wpAny_pure→Ã,Shared→Ä,Value→Å,starEach→Ë,sizeLine→Ñ,mainGlobals→Ö,Addr→Ú,wpAny→Û,Program→â,model→ã,Around→î,wpAny_newObj_type→ù,bootBuiltins→û,foldedSetIterable→ü,World→Ą,wpAny_holding→Ĉ,wpAny_call_entry→Ċ,wpAny_callSpecial?_slot→č,wpAny_mono→Ĕ,compareOp→Ė,FuncData→ĝ,Expr→Ġ,backTo→Ħ,Heap→Ī,wpAny_seqItems→ī,mem_of_lookup→Į,wpAny_field→ĵ,codeAny_builtin→ĸ,eval→ļ,assignEach→ľ,binaryOp→ń,letOwnedTupleGo→Ň,codeAny_mono→Ŏ,wpAny_truthy_bool→ő,sizeLine_eq→ŕ,intKind→ŗ,wpAny_rule→ś,wpAny_askSetting→Ş,wpAny_standAt→Š,attributeBase→Ţ,wpAny_setField_rec→ţ,NameKind→ť,wpAny_pyIter_list→Ũ,Builtin→ū,wpAny_setState_of→Ŭ,wpAny_attempt→ŭ,wpAny_setEntries_of→Ů,pickOrder→Ų,call_meets→ŷ,wpAny_setField→Ÿ,Keyword→ź,wpAny_Call_Name_kw→Ž,Scope→ſ,codeAny→δ,keywordEach→η,swapsWithSole→ς,swappedStores→υ,fits_of_scanBound→ψ,rawInt→ω,pyNext→aac,cellsFrom→aad,IsPair→aag,scanBound→aai,intText?→aat,wpAny_typeOf→aaE,PyData→aaG,assignInOrder→aaH,wpAny_passesOwn→aaK,behindInMarks→aaL,plainId_quiet→aaQ,wpAny_specialOf→aaT,sliceBounds→aa4,wpAny_storeSet_of→aa8,eqIsQuiet_byValue→abb,bindName→abc,wpAny_bindName→abd,wpAny_isInstance→abo,checkBuiltinCall→abp,sysModules→abu,wpAny_call→abv,holding→abx,codeAny_of_tree→abC,assign→abH,backToKw→abJ,Stmt→abM,standAt→abN,Arguments→abR,cLine→abV
open PySem.Heap renaming get?_push_of_some→Á,lt_size→Ì,get?_push_size→Í,size_push→ĉ,get?_update_self→Ĝ,SameBut→ĩ,get?_update_other→ż,ExtBut→aaA,get?_update_ne→aaB,get?_some_iff→aaW,FlyingW→abl
open Bool renaming false_eq_true→Â,and_eq_true→Æ,false_ne_true→Õ,not_true→å,true_and→ă,not_eq_true'→Ě,and_self→Ĭ,eq_iff_iff→ĳ,not_eq_true→ű,or_eq_true→aaP,not_false→abP
open Nat renaming lt_of_lt_of_le→Ç,ne_of_lt→ß,le_trans→à,lt_irrefl→ñ,zero_le→ē,lt_succ_of_lt→Ģ,ne_of_gt→š,le_of_not_lt→Ű,lt_succ_self→ų,le_max_right→Ŵ,le_succ→aay,lt_of_le_of_lt→aaU,le_max_left→aaV,add_assoc→abt,not_lt_zero→abD
open List renaming getElem?_eq_some_iff→È,length_map→É,mem_append_right→Î,mem_cons_of_mem→Ï,getElem?_eq_getElem→Ð,replicate→Ò,mem_cons→Ô,mem_cons_self→Ø,size_toArray→Ù,getElem?_append_left→Ü,getElem?_set_ne→Ý,map_cons→á,all_eq_true→æ,length_append→é,getElem?_set_self→ê,getElem?_map→í,not_mem_nil→ï,pairwise_cons→ó,length_cons→õ,set_cons_succ→ö,set_cons_zero→ø,mem_range→ú,append_nil→þ,range→Ā,mem_append_left→ā,getElem?_append_right→Ă,mem_map→ć,mem_append→ċ,length_set→Č,length_nil→đ,map_map→ė,cons_append→Ę,zip_cons_cons→ě,lookup_cons→ğ,getElem?_replicate→ĥ,getElem?_eq_none→İ,mem_filter→Ĳ,nil_append→Ķ,mem_singleton→Ĺ,map_append→Ļ,replicate_succ→Ŀ,flatten_cons→ŀ,append_assoc→Ł,drop_eq_getElem_cons→Ņ,map_nil→Ő,filter_eq_self→Ŗ,any_eq_true→ŝ,mem_of_getElem?→Ŧ,getD→Ū,filter_cons→Ŷ,nodup_cons→ε,length_replicate→ζ,length_filter_le→ξ,ext_getElem?→χ,length_take→aau,isEmpty_nil→aav,filterMap_cons→aax,getElem_of_mem→aaz,mem_filterMap→aaJ,forIn_cons→aaO,length_eq_zero_iff→aaS,flatMap_eq_nil_iff→aaY,nodup_append→aa9,drop_zero→abh,toArray→abj,getElem_mem→abn,drop_length→abq,of_mem_zip→aby,getElem?_range→abB,drop_succ_cons→abE,map_eq_nil_iff→abF
open PySem.W renaming nsIn→è,mg_none_of→ÿ,Frag→Ē,mg_of→ĭ,keepIn→ı,fnOf→ŏ,cellsFrom_some→Ż,codeIn→aae,hideAll_get→aaw,findIn→abe,callWith_K→abI,methodObj→abQ,tabIn→abW,excIn→abX
open PySem.NameKind renaming free→ë
open Array renaming length_toList→ò,getElem?_toList→Ĥ,toList_push→aa7,getD→abS
open PySem.Str renaming ofString→ý,join→ŧ
open PySem.Builtin.SmallTypes renaming nextOf→Ć,ownedTupleIsFree→į,ownedTupleHandOut→aah
open PySem.SetTable renaming below→Ď,grown→abf
open PySem.Obj renaming data_mapFields→ď,isFreed_of_fields→ň,mapSeq→Œ,cls_mapFields→aa5
open False renaming elim→ĕ
open PyProof.Rows renaming slot_tuple_getitem→ę,envOfC→Ń,firstMet→ō,callWith_type1→Ŕ,assignInOrder_cons→ş,IntsAre→aa3,seqObj→abK,AllBare→abU,envOfC→abY
open PySem.Heap.SameBut renaming update→Ğ
open PySem.PyData renaming eqv→ġ,depthAll→Ŋ,shownAll→ŋ,strOk→abk,showableAll→abL,hasDict→abO
open PySem.Builtin.Tuple renaming tupleExact→ģ,tupleItemsOf→Ř,tupleIsExact→aaa,tupleHashOf→aaj
open PySem.Around renaming under_plainId→ħ
open PySem.Builtin.Str renaming occurrences→Ĵ
open ForInStep renaming yield→ķ
open PySem.Txt renaming split→ĺ
open Int renaming toNat_natCast→ł,emod_lt_of_pos→ž,emod_nonneg→aaX,eq_ofNat_of_zero_le→aaZ,zero_add→abm
open PySem.PassesOwn renaming never→Ō
open Function renaming comp_def→œ
open PySem.F renaming slot_tuple_iterator_next→ř,isi_meta_tuple→Ŝ,isi_meta_list→ũ,plainAttrs_list→ů,called_set→ι,args_tuple_add_2→aaD,entry_tuple_add→aaN,slot_tuple_add→aa0,slot_tuple_hash→aba,called_tuple→abr,slot_int_rmul→abz,slot_zip_next→abA
open PySem.Value renaming bool→Ś,type→ο,ref→aab,int→abw
open PySem.Builtin.Slice renaming slicePlaces→Ť,sliceAdjust→aaf,sliceApplied→abG
open PySem.Sem renaming wp→ŵ
open Ne renaming symm→Ź
open Option renaming map_some→θ,isSome_iff_exists→aaC,map_eq_some_iff→aa2
open PySem.Builtin.List renaming listExtendWith→μ,listTooLong→aaF
open List.cons renaming injEq→ν
open PySem.Builtin.Range renaming rangeSize→aaI
open PySem.Calls renaming spliced_cons→aaM
open PyProof.Rows.F renaming plain_set_update_loop→aaR
open Or renaming inl→aa1
open PySem.SetTable.below renaming go→aa6
open PySem.ReprK renaming of_reads→abg
open List.Pairwise renaming sublist→abi
open PySem.SetTable.probe renaming go→abT
def Ê:=@decide_eq_true_eq
def Ó:=@decide_eq_true
def Þ:=@if_pos
def ä:=@if_false
def ç:=@decide_eq_false
def ì:=@if_neg
def ð:=@of_decide_eq_true
def ô:=@if_true
def ą:=@beq_self_eq_true
def Đ:=@bne_self_eq_false
def Ĩ:=@decide_true
def Ľ:=@congrArg
def ņ:=@and_self
def ab3:=@Nat.le_refl
def ab4:=@Option.some.inj
abbrev ab5:PySem.Str:="_law_state_here"
abbrev ab6:PySem.Str:="_law_script"
abbrev ab7:PySem.Str:="_law_mark"
abbrev ab8:PySem.Str:="_law_pages"
abbrev ab9:PySem.Str:="_law_told"
abbrev aca:PySem.Str:="_law_page_here"
abbrev acb:PySem.Str:="_law_many"
abbrev acd:PySem.Str:="_law_due"
abbrev ace:PySem.Str:="_law_mould"
abbrev acf:PySem.Str:="_law_other"
abbrev acg:PySem.Str:="_law_mark_stands"
abbrev ach:PySem.Str:="_law_marks_text"
abbrev aci:PySem.Str:="_law_sheet_text"
noncomputable section
local macro_rules | `(tactic| omega) => `(tactic| lia)
open PySem.W (Frag)
namespace L2
open PySem PySem.Spec PyProof.Rows
noncomputable abbrev Key:=Sum Int Str
def Be:Key->Å->Bool
 | .inl k,v=>Value.isInt k v
 | .inr x,v=>Value.isStrOf x v
def WS (w:Ą):Key->Int
 | .inl k=>hashInt k
 | .inr x=>hashStr w x
def kz:∀{k:Key} {v:Å},Be k v=true->(∃i t,k=Sum.inl i/\v=abw i t)\/(∃x t,k=Sum.inr x/\v=Value.str x t)
 | .inl i,v,h=>by
  obtain⟨t,e⟩:=Value.isInt_shape (k:=i) (v:=v) h;exact .inl ⟨i,t,rfl,e⟩
 | .inr x,v,h=>by
  obtain⟨t,e⟩:=Value.isStrOf_shape (x:=x) (v:=v) h;exact .inr ⟨x,t,rfl,e⟩
def Td (a b:Int):decide ((Sum.inl a:Key)=Sum.inl b)=(a==b):=by
 by_cases e:a=b
 ·subst e;simp
 ·have h:¬ (Sum.inl a:Key)=Sum.inl b:=λq=>e (Sum.inl.inj q)
  rw[ç h];exact(beq_eq_false_iff_ne.mpr e).symm
def Te (a b:Str):decide ((Sum.inr a:Key)=Sum.inr b)=decide (a=b):=by
 by_cases e:a=b
 ·subst e;simp
 ·have h:¬ (Sum.inr a:Key)=Sum.inr b:=λq=>e (Sum.inr.inj q)
  rw[ç h,ç e]
def Tf (a:Int) (b:Str):decide ((Sum.inl a:Key)=Sum.inr b)=false:=ç (λq=>nomatch q)
def Ti (a:Str) (b:Int):decide ((Sum.inr a:Key)=Sum.inl b)=false:=ç (λq=>nomatch q)
def wb (prog:â) (w:Ą):PySem.KeyKind prog w Key where
 is:=Be
 hash:=WS w
 inj:=λv a b X Y=>by
  rcases kz X with ⟨i,t,rfl,rfl⟩ | ⟨x,t,rfl,rfl⟩
  ·rcases kz Y with ⟨j,u,rfl,e⟩ | ⟨y,u,rfl,e⟩
   ·injection e with e1 _;rw[e1]
   ·exact nomatch e
  ·rcases kz Y with ⟨j,u,rfl,e⟩ | ⟨y,u,rfl,e⟩
   ·exact nomatch e
   ·injection e with e1 _;rw[e1]
 byValue:=λk v h=>by
  rcases kz h with ⟨i,t,rfl,rfl⟩ | ⟨x,t,rfl,rfl⟩<;>rfl
 pyHash:=λZ h=>by
  rcases kz Z with ⟨i,t,rfl,rfl⟩ | ⟨x,t,rfl,rfl⟩
  ·exact wpAny_pyHash_int h
  ·exact wpAny_pyHash_str h
 eqBool:=λW Z h=>by
  rcases kz W with ⟨i,t,rfl,rfl⟩ | ⟨x,t,rfl,rfl⟩
  ·rcases kz Z with ⟨j,u,rfl,rfl⟩ | ⟨y,u,rfl,rfl⟩
   ·rw[Td] at h;exact wpAny_eqBool_int h
   ·rw[Tf] at h;exact SeqAt.EqAt.int_str i t y u _ _ _ _ h
  ·rcases kz Z with ⟨j,u,rfl,rfl⟩ | ⟨y,u,rfl,rfl⟩
   ·rw[Ti] at h;exact SeqAt.EqAt.str_int x t j u _ _ _ _ h
   ·rw[Te] at h;exact wpAny_eqBool_str h
 «strs»:=λk x t v h=>by
  rcases kz h with ⟨i,u,rfl,e⟩ | ⟨y,u,rfl,e⟩
  ·exact nomatch e
  ·injection e with e1 _
   subst e1
   cases v<;>rfl
set_option genInjectivity true in
inductive V where
 |ao|bl (b:Bool)|int (i:Int)|str (x:Str)|iV (b:Array UInt8)|uw (b:UInt64)|ref (a:Ú)|ty (n:String)
 deriving DecidableEq
def RelV:V->Å->Prop
 | .ao,u=>u=Value.none
 | .bl b,u=>u=Ś b
 | .int i,u=>∃t,u=abw i t
 | .str x,u=>∃t,u=Value.str x t
 | .iV b,u=>∃t,u=Value.bytes b t
 | .uw b,u=>∃t,u=Value.float b t
 | .ref a,u=>u=aab a
 | .ty n,u=>u=ο n
abbrev Vals:List V->List Å->Prop:=Paired RelV
theorem Vals.length (r:Vals xs us):xs.length=us.length:=Paired.length r
theorem Vals.get:∀{xs:List V} {us:List Å} {i:Nat} {x:V},Vals xs us->xs[i]?=some x->∃u,us[i]?=some u/\RelV x u
 |_,_,_,_,.nil,e=>by simp at e
 |_,_,0,_,.cons r _,e=>by simp at e;subst e;exact⟨_,rfl,r⟩
 |_,_,i+1,x,.cons _ t,e=>by
  obtain⟨u,Z,Y⟩:=Vals.get (i:=i) (x:=x) t (by simpa using e);exact⟨u,by simpa using Z,Y⟩
theorem Vals.set (r:RelV x u):∀{xs:List V} {us:List Å} (i:Nat),Vals xs us->Vals (xs.set i x) (us.set i u)
 |_,_,_,.nil=>.nil
 |_,_,0,.cons _ t=>.cons r t
 |_,_,i+1,.cons q t=>.cons q (Vals.set r i t)
theorem Vals.append:∀{xs ys:List V} {us ws:List Å},Vals xs us->Vals ys ws->Vals (xs++ys) (us++ws)
 |_,_,_,_,.nil,s=>s
 |_,_,_,_,.cons r t,s=>.cons r (Vals.append t s)
theorem Vals.take:∀{xs:List V} {us:List Å} (n:Nat),Vals xs us->Vals (xs.take n) (us.take n)
 |_,_,0,_=>.nil
 |_,_,_ + 1,.nil=>.nil
 |_,_,n+1,.cons r t=>.cons r (Vals.take n t)
theorem Vals.drop:∀{xs:List V} {us:List Å} (n:Nat),Vals xs us->Vals (xs.drop n) (us.drop n)
 |_,_,0,r=>r
 |_,_,_ + 1,.nil=>.nil
 |_,_,n+1,.cons _ t=>Vals.drop n t
def J8:Option V->Option Å->Prop
 |some v,some u=>RelV v u
 |none,none=>True
 |_,_=>False
def KV {κ:Type}:List (κ×V)->List (κ×Å)->Prop:=Paired λ(p:κ×V) (q:κ×Å)=>p.1=q.1/\RelV p.2 q.2
def kV:Key->V
 | .inl i=>.int i
 | .inr x=>.str x
inductive HO where
 |lst (xs:List V)
 |tup (xs:List V)
 |dK (aB:List (Key×V))|dT (aB:List (List Key×V))
 |set (S:Int->Bool) (n:Nat)
 |ins (C dx:Ú) (fs:List (Str×V))
 |own (x:Ú)
 |xd (fs:List (Str×V))
 |met (f x:Ú)
 |cj (lo hi:Int)
 |aV (o:Obj) (u:HO)
 |dD (ps:Array Å)
 |ext (φ:Ī->Prop)
noncomputable abbrev Hp:=Ú->Option HO
def upd (H:Hp) (a:Ú) (o:HO):Hp:=λb=>if b=a then some o else H b
def cu:upd H a o a=some o:=by unfold upd;rw[Þ rfl]
def aX (h:b≠a):upd H a o b=H b:=by unfold upd;rw[ì h]
def cV {H:Hp} {a b:Ú} {o:HO} (h:H a=some o) (h':H b=none):a≠b:=by
 intro e;subst e;rw[h] at h';cases h'
section
variable (P:â) (w:Ą)
def di (H:Hp) (h:Ī) (a:Ú):HO->Prop
 | .lst Z=>Z.length<=Ñ/\∃(its:List Å) (n:Nat),Vals Z its/\h.get? a=some { cls:=.type "list",data:=.seq its.toArray n }
 | .tup Z=>Z.length<=Ñ/\∃its:List Å,Vals Z its/\IsTup h a its.toArray
 | .dK X=>X.length<=Ñ/\(a==abu)=false/\∃R,KV X R/\h.DictOf (wb P w) a R
 | .dT X=>X.length<=Ñ/\(a==abu)=false/\∃Z:List (List Key×Ú×Å),
   Paired (λ(p:List Key×V) (q:List Key×Ú×Å)=>p.1=q.1/\H q.2.1=some (.tup (p.1.map kV))/\RelV p.2 q.2.2) X Z /\
   ∃o Q M,h.get? a=some o/\o.ExactDict/\o.data=.dict Q M/\Q.toList=Z.map (entryOfKey (tupleKind (wb P w)))/\(Z.map (·.1)).Nodup
 | .set S n=>h.SetOf (ŗ P w) a S n
 | .ins C U fs=>H U=some (.own a)/\fs.length<=1000/\U≠a/\h.get? a=some (PySem.W.instObj C U) /\
   ∃Y,h.Ns1 U Y/\(∀f,J8 (fs.lookup f) (Y f))/\PySem.Within Y (fs.map (·.1))
 | .own _=>∃o,h.get? a=some o
 | .xd fs=>∃Y,h.Ns1 a Y/\∀f,J8 (fs.lookup f) (Y f)
 | .cj lo hi=>∃t u v,h.get? a=some { cls:=.type "range",data:=.fields #[.int lo t,.int hi u,.int 1 v] }
 | .aV o u=>h.get? a=some o/\di H h a u
 | .dD L=>h.get? a=some { cls:=.none,data:=.fields L }
 | .met f x=>h.get? a=some (abQ (.ref f) (.ref x))
 | .ext T=>T h/\(∃o,h.get? a=some o)/\∀O N:Ī,T O->(∀o,O.get? a=some o->N.get? a=some o)->T N
def cq (H:Hp) (h:Ī):Prop:=∀a o,H a=some o->di P w H h a o
end
section
variable {P:â} {w:Ą} {H H':Hp} {h h':Ī} {a:Ú} {o:HO}
theorem di.lt (x:di P w H h a o):a<h.objs.size:=by
 cases o with
 |lst Z=>obtain⟨_,_,_,_,e⟩:=x;exact Ì e
 |tup Z=>obtain⟨_,_,_,p⟩:=x;exact p.lt
 |dK Y=>obtain⟨_,_,_,_,o,_,_,e,_⟩:=x;exact Ì e
 |dT Y=>obtain⟨_,_,_,_,o,_,_,e,_⟩:=x;exact Ì e
 |set S n=>obtain⟨o,_,_,_,e,_⟩:=x;exact Ì e
 |ins C X fs=>obtain⟨_,_,_,e,_⟩:=x;exact Ì e
 |own y=>obtain⟨_,e⟩:=x;exact Ì e
 |xd fs=>obtain⟨_,⟨_,_,_,e,_⟩,_⟩:=x;exact Ì e
 |cj lo hi=>obtain⟨_,_,_,e⟩:=x;exact Ì e
 |aV W u=>obtain⟨e,_⟩:=x;exact Ì e
 |dD V=>exact Ì (show h.get? a=some _ from x)
 |met f y=>exact Ì (show h.get? a=some _ from x)
 |ext U=>obtain⟨_,⟨_,e⟩,_⟩:=x;exact Ì e
theorem Paired.J9 {α β:Type} {F G:α->β->Prop}:∀{Ka:List α} {Kb:List β},Paired F Ka Kb->(∀a b,F a b->G a b)->Paired G Ka Kb
 |_,_,.nil,_=>.nil
 |_,_,.cons r t,f=>.cons (f _ _ r) (Paired.J9 t f)
def di.dU (x:di P w H h a o) (k:∀b u,(b=a\/H b=some (.own a))->h.get? b=some u->h'.get? b=some u)
  (ho:∀b,H b=some (.own a)->H' b=some (.own a)) (ht:∀b xs,H b=some (.tup xs)->H' b=some (.tup xs)):di P w H' h' a o:=by
 induction o with
 |lst xs=>obtain⟨z,its,n,r,e⟩:=x;exact⟨z,its,n,r,k _ _ (.inl rfl) e⟩
 |tup xs=>obtain⟨z,its,r,Z,e,c⟩:=x;exact⟨z,its,r,Z,k _ _ (.inl rfl) e,c⟩
 |dK R=>obtain⟨z,y,Q,r,Z,Y,X,e,c⟩:=x;exact⟨z,y,Q,r,Z,Y,X,k _ _ (.inl rfl) e,c⟩
 |dT R =>
  obtain⟨z,y,xs,r,Z,Y,X,e,c⟩:=x;exact⟨z,y,xs,Paired.J9 r λp q z=>⟨z.1,ht _ _ z.2.1,z.2.2⟩,Z,Y,X,k _ _ (.inl rfl) e,c⟩
 |set S n=>obtain⟨Z,Y,X,t,e,c⟩:=x;exact⟨Z,Y,X,t,k _ _ (.inl rfl) e,c⟩
 |ins C O fs =>
  obtain⟨d,z,ne,e,W,⟨V,Y,X,e2,c⟩,r⟩:=x;exact⟨ho _ d,z,ne,k _ _ (.inl rfl) e,W,⟨V,Y,X,k _ _ (.inr d) e2,c⟩,r⟩
 |own y=>obtain⟨Z,e⟩:=x;exact⟨Z,k _ _ (.inl rfl) e⟩
 |xd fs=>obtain⟨W,⟨V,Y,X,e,c⟩,r⟩:=x;exact⟨W,⟨V,Y,X,k _ _ (.inl rfl) e,c⟩,r⟩
 |cj lo hi=>obtain⟨t,u,v,e⟩:=x;exact⟨t,u,v,k _ _ (.inl rfl) e⟩
 |aV Z u ih=>obtain⟨e,q⟩:=x;exact⟨k _ _ (.inl rfl) e,ih q⟩
 |dD U =>
  have e:h.get? a=some { cls:=.none,data:=.fields U }:=x;show h'.get? a=some { cls:=.none,data:=.fields U };exact k a _ (.inl rfl) e
 |met f y =>
  have e:h.get? a=some (abQ (.ref f) (.ref y)):=x;show h'.get? a=some (abQ (.ref f) (.ref y));exact k a _ (.inl rfl) e
 |ext N=>obtain⟨p,⟨o,e⟩,T⟩:=x;exact⟨T _ _ p λo q=>k _ _ (.inl rfl) q,⟨o,k _ _ (.inl rfl) e⟩,T⟩
theorem cq.lt (x:cq P w H h) (e:H a=some o):a<h.objs.size:=(x a o e).lt
def cq.fresh (x:cq P w H h) (e:h.objs.size<=a):H a=none:=by
 cases q:H a with
 |none=>rfl
 |some u=>exact absurd (Ç (x.lt q) e) (ñ _)
def cq.kept (x:cq P w H h) (k:∀b u,h.get? b=some u->h'.get? b=some u):cq P w H h':=λa o e =>
 (x a o e).dU (λb u _ q=>k b u q) (λ_ q=>q) λ_ _ q=>q
def cq.laid (x:cq P w H h) (k:∀b u,h.get? b=some u->h'.get? b=some u) (hp:h.objs.size<=a) (new:di P w (upd H a o) h' a o):cq P w (upd H a o) h':=λb u e=>by
 have Z:=x.fresh hp;by_cases Y:b=a
 ·subst Y;rw[cu] at e;cases e;exact new
 ·rw[aX Y] at e
  exact(x b u e).dU (λc v _ q=>k c v q) (λc q=>by rw[aX (cV q Z)];exact q) λc X q=>by rw[aX (cV q Z)];exact q
end
def Rd (H:Hp) (a:Ú) (u:HO):Prop:=H a=some u\/∃o,H a=some (.aV o u)
def Rd.ok (r:Rd H a u) (x:cq P w H h):di P w H h a u:=by
 rcases r with r | ⟨o,r⟩
 ·exact x a u r
 ·obtain⟨_,q⟩:=x a _ r
  exact q
def yd:Option HO->Prop
 |some (.lst _)=>True
 |some (.dK _)=>True
 |some (.dT _)=>True
 |some (.set _ _)=>True
 |some (.ins _ _ _)=>True
 |some (.ext _)=>True
 |_=>False
section
variable {P:â} {w:Ą} {H:Hp} {h h':Ī} {x e:Ú} {o':HO}
def cq.write (ok:cq P w H h) (mu:yd (H x)) (he:e=x\/H e=some (.own x)) (k:∀b u,b≠e->h.get? b=some u->h'.get? b=some u) (rb:∃u,h'.get? e=some u)
  (new:di P w (upd H x o') h' x o'):cq P w (upd H x o') h':=λb u q=>by
 have W:∀c y,H c=some (.own y)->c≠x:=λc y r z=>by subst z;rw[r] at mu;exact mu
 have U:∀c Z,H c=some (.tup Z)->c≠x:=λc Z r z=>by subst z;rw[r] at mu;exact mu
 by_cases Y:b=x
 ·subst Y;rw[cu] at q;cases q;exact new
 ·rw[aX Y] at q
  by_cases X:b=e
  ·have V:H b=some (.own x):=by
    rcases he with z|z
    ·exact absurd (X.trans z) Y
    ·rw[X];exact z
   rw[q] at V;cases V;obtain⟨v,T⟩:=rb;exact⟨v,by rw[X];exact T⟩
  ·refine(ok b u q).dU (λc v hc r=>k c v ?_ r) (λc r=>by rw[aX (W c b r)];exact r) λc Z r=>by rw[aX (U c Z r)];exact r
   rcases hc with rfl|hc
   ·exact X
   ·rintro rfl
    rcases he with z|z
    ·exact W c b hc z
    ·rw[hc] at z;cases z;exact Y rfl
end
structure Un (fs ex:List Ú) (H H':Hp) (h h':Ī):Prop where
 keep:∀b o,h.get? b=some o->H b=none->b∉fs->b∉ex->h'.get? b=some o
 slot:∀b o,h.get? b=some o->H b=none->b∈fs->b∉ex->∃sl,h'.get? b=some { o with slots:=sl }
 free:∀b o,h.get? b=some o->H b=none->b∉ex->H' b=none
 there:∀b o,h.get? b=some o->b∉ex->∃o',h'.get? b=some o'
 fe:∀b xs,H b=some (.tup xs)->H' b=some (.tup xs)
 eD:∀b o u,H b=some (.aV o u)->H' b=some (.aV o u)
 ff:∀b ps,H b=some (.dD ps)->∃more,H' b=some (.dD (ps++more))
section
variable {fs X3 ex ex':List Ú} {H H1 H2:Hp} {h h1 h2 h':Ī} {a x e:Ú} {o:HO}
def Un.any (u:Un fs ex H H1 h h1) (q:h.get? b=some ob) (n:H b=none) (hx:b∉ex):∃sl,h1.get? b=some { ob with slots:=sl }:=by
 by_cases Z:b∈fs
 ·exact u.slot b ob q n Z hx
 ·exact⟨ob.slots,u.keep b ob q n Z hx⟩
def Un.kept (k:∀b u,h.get? b=some u->h'.get? b=some u):Un fs ex H H h h' :=
 ⟨λb Z q _ _ _=>k b Z q,λb Z q _ _ _=>⟨Z.slots,k b Z q⟩,λ_ _ _ n _=>n,λb Z q _=>⟨Z,k b Z q⟩,λ_ _ q=>q,λ_ _ _ q=>q,λ_ Y q=>⟨#[],by rw[q];simp⟩⟩
def Un.refl:Un fs ex H H h h:=Un.kept λ_ _ q=>q
def Un.laid (k:∀b u,h.get? b=some u->h'.get? b=some u) (hp:h.objs.size<=a) (hn:H a=none):Un fs ex H (upd H a o) h h' where
 keep:=λb u q _ _ _=>k b u q
 slot:=λb u q _ _ _=>⟨u.slots,k b u q⟩
 free:=λb u q n _=>by rw[aX (ß (Ç (Ì q) hp))];exact n
 there:=λb u q _=>⟨u,k b u q⟩
 fe:=λb Z q=>by rw[aX (cV q hn)];exact q
 eD:=λb u Z q=>by rw[aX (cV q hn)];exact q
 ff:=λb Y q=>⟨#[],by rw[aX (cV q hn),q];simp⟩
def Un.write (mu:yd (H x)) (he:e=x\/H e=some (.own x)) (k:∀b u,b≠e->h.get? b=some u->h'.get? b=some u) (rb:∃u,h'.get? e=some u):Un fs ex H (upd H x o) h h':=by
 have Y:∀b,H b=none->b≠x:=λb n z=>by subst z;rw[n] at mu;exact mu
 have X:∀b,H b=none->b≠e:=λb n z=>by
  subst z
  rcases he with r|r
  ·exact Y b n r
  ·rw[n] at r;cases r
 have Z:∀b u,H b=some u->¬ yd (some u)->b≠x:=λb u q nm z=>by subst z;rw[q] at mu;exact nm mu
 refine⟨λb u q n _ _=>k b u (X b n) q,λb u q n _ _=>⟨u.slots,k b u (X b n) q⟩,λb u q n _=>by rw[aX (Y b n)];exact n,λb u q _=>?_,
  λb V q=>by rw[aX (Z b _ q λz=>z)];exact q,λb u V q=>by rw[aX (Z b _ q λz=>z)];exact q,λb U q=>⟨#[],by rw[aX (Z b _ q λz=>z),q];simp⟩⟩
 by_cases W:b=e
 ·subst W;exact rb
 ·exact⟨u,k b u W q⟩
end
def rf (h:Ī) (H:Hp):List Ú:=(Ā h.objs.size).filter λa=>(H a).isSome
def lZ (h:Ī) (H:Hp):Ī:=PySem.W.hideAll h (rf h H)
def OC (h:Ī) (H:Hp):(lZ h H).objs.size=h.objs.size:=PySem.W.hideAll_size _ _
def zx (e:h.get? b=some o) (n:H b=none):(lZ h H).get? b=some o :=
 aaw _ e λZ=>by
  have q:(H b).isSome=true:=(Ĳ.mp Z).2;rw[n] at q;simp at q
def RD (e:(lZ h H).get? b=some o):h.get? b=some o/\H b=none:=by
 have Z:h.get? b=some o:=PySem.W.of_hideAll (rf h H) e;refine⟨Z,?_⟩
 cases q:H b with
 |none=>rfl
 |some x =>
  have Y:b∈rf h H:=Ĳ.mpr ⟨ú.mpr (Ì Z),by simp[q]⟩;have z:(lZ h H).get? b=none:=PySem.W.hideAll_none (rf h H) Y;rw[z] at e;cases e
noncomputable def RE (g h:Ī) (L:Ú):List (Ú×Obj):=(Ā h.objs.size).filterMap λa=>if a=L\/(g.get? a).isSome=true then none else (h.get? a).map λo=>(a,o)
def rest (g h:Ī) (L d:Ú):List (Ú×Obj):=(RE g h L).filter λp=>decide (p.1≠d)
structure Mod (K:Ē) (mg:Str->Option Å) (base:Ī):Prop where
 ka:K.In base
 glob:base.Ns Ö mg
 blt:∃mb,base.Ns builtinsNs mb/\∀x:Str,x≠"__name__"->mb x=û x
 nolimit:base.NoLimit
structure Cx where
 prog:â
 w:Ą
 K:Ē
 mg:Str->Option Å
 base:Ī
 A:î
 N:List Str
 cM:Ä
 kQ:Hp
 env:Env
 outer:List Env
 stack:List Env
 ex:List Ú
 fn:Str->Bool
 calm:Bool
 pn:List (Ú×Obj)
 xe:Å->Ä->Prop
noncomputable def b9 (l:List Env):List Ú:=l.filterMap (·.frame)
abbrev Cx.fs (X:Cx):List Ú:=b9 X.outer
def pA (sc:ſ) (x:Str):Prop:=sc.names.lookup x=some .local\/sc.names.lookup x=some .cell\/sc.names.lookup x=some .free
def Loc (sc:ſ) (x:Str):Prop:=sc.names.lookup x=some .local\/sc.names.lookup x=some .cell
def Look (env:Env) (h:Ī) (m:Str->Option Å) (x:Str) (u:Å):Prop :=
 (env.kindOf x=some .local/\m x=some u)\/((env.kindOf x=some .cell\/env.kindOf x=some .free)/\∃c,env.cells.lookup x=some c/\h.IsCell c (some u))
structure Cx.Ok (X:Cx):Prop where
 mod:Mod X.K X.mg X.base
 kind:X.env.scope.kind=.function
 glob:X.env.globals=Ö
 blt:X.env.builtins=builtinsNs
 above:X.cM.heap.objs.size<=X.env.locals
 inj:∀x y c,X.env.cells.lookup x=some c->X.env.cells.lookup y=some c->x=y
 has:∀x,(X.env.kindOf x=some .cell\/X.env.kindOf x=some .free)->∃c,X.env.cells.lookup x=some c
 rg:∀x c,X.fn x=true->X.env.cells.lookup x=some c->X.cM.heap.objs.size<=c
 hd:X.calm=true->X.A.handled=none
 frames:X.A.frames=some X.stack
 lg:X.stack=X.outer\/(X.stack=X.env::X.outer/\X.env.frame=some X.env.locals)
 K1:∀b∈X.ex,b≠X.env.locals/\∀x c,X.env.cells.lookup x=some c->c≠b
 bs:∀b o,X.base.get? b=some o->X.cM.heap.get? b=some o/\X.kQ b=none
 iz:X.base.objs.size<=X.cM.heap.objs.size
 nq:∀b o,X.base.get? b=some o->b∉X.ex
 xA:∀b∈X.ex,b∉X.fs
 iw:X.cM.heap.FunFrames X.base X.outer
 lh:∀b∈X.fs,X.kQ b=none
structure Inv (X:Cx) (π:List (Ú×Obj)) (σ:List (Option V)) (H:Hp) (s:Ä):Prop where
 ok:X.Ok
 os:s.os=X.cM.os
 bare:abU s.gens
 base:Un X.fs X.ex X.kQ H X.cM.heap s.heap
 loc:∃m,s.heap.Ns X.env.locals m/\∀(i:Nat) (x:Str) (v:V),X.N[i]?=some x->σ[i]?=some (some v)->pA X.env.scope x->∃u,RelV v u/\Look X.env s.heap m x u
 cell:∀x c,X.env.cells.lookup x=some c->∃v,s.heap.IsCell c v
 free:H X.env.locals=none
 ip:∀x c,X.env.cells.lookup x=some c->H c=none
 pin:∀p∈X.pn++π,s.heap.get? p.1=some p.2/\H p.1=none/\p.1≠X.env.locals/\p.1∉X.fs/\∀v,p.2.data≠.cell v
 aC:cq X.prog X.w H s.heap
 len:σ.length=X.N.length
section
variable {X:Cx} {π:List (Ú×Obj)} {σ:List (Option V)} {H H':Hp} {s:Ä} {h':Ī}
def Cx.Ok.WU (ok:X.Ok) (e:X.base.get? b=some o):b∉X.fs:=λZ=>by
 have:=(ok.iw.mem Z).1;rw[e] at this;cases this
theorem Inv.bs (I:Inv X π σ H s):∀b o,X.base.get? b=some o->s.heap.get? b=some o/\H b=none:=λb o e =>
 ⟨I.base.keep b o (I.ok.bs b o e).1 (I.ok.bs b o e).2 (I.ok.WU e) (I.ok.nq b o e),I.base.free b o (I.ok.bs b o e).1 (I.ok.bs b o e).2 (I.ok.nq b o e)⟩
def Inv.bk (I:Inv X π σ H s):∀b o,X.base.get? b=some o->s.heap.get? b=some o:=λb o e=>(I.bs b o e).1
theorem Inv.mod (I:Inv X π σ H s):Mod X.K X.mg X.base:=I.ok.mod
def Inv.iA (I:Inv X π σ H s):X.K.In s.heap:=I.ok.mod.ka.keeps I.bk
theorem Inv.lt (I:Inv X π σ H s):X.env.locals<s.heap.objs.size:=let ⟨_,Z,_⟩:=I.loc;Z.lt
def Inv.sz (I:Inv X π σ H s):X.cM.heap.objs.size<=s.heap.objs.size:=à I.ok.above (Nat.le_of_lt I.lt)
def Inv.tR (I:Inv X π σ H s) {a:Ú} (h:s.heap.objs.size<=a):a∉X.fs:=λZ=>by
 obtain⟨_,o,Y,_⟩:=I.ok.iw.mem Z;exact absurd (Ç (Ì Y) (à I.sz h)) (ñ _)
def Inv.jy (I:Inv X π σ H s):∀x c,X.env.cells.lookup x=some c->c≠X.env.locals:=λx c e z=>by
 obtain⟨v,o,Z,Y⟩:=I.cell x c e;obtain⟨m,⟨U,T,S,W,V,_⟩,_⟩:=I.loc;rw[z,W] at Z;cases Z;rw[V] at Y;cases Y
theorem Inv.iw (I:Inv X π σ H s):s.heap.FunFrames X.base X.outer:=by
 have all:∀(l:List Env),(∀b∈b9 l,b∈X.fs)->X.cM.heap.FunFrames X.base l->s.heap.FunFrames X.base l:=by
  intro l
  induction l with
  |nil=>intro _ _;trivial
  |cons env r ih =>
   intro hs V;obtain⟨U,⟨L,o,Z,T,S,R⟩,Q⟩:=V;have Y:L∈X.fs:=hs L (by unfold b9;rw[aax,Z];exact Ø);obtain⟨P,e⟩:=I.base.slot L o S (I.ok.lh L Y) Y λz=>I.ok.xA L z Y;exact⟨U,⟨L,_,Z,T,e,R⟩,ih (λb W=>hs b (by unfold b9;rw[aax,Z];exact Ï _ W)) Q⟩
 exact all X.outer (λ_ W=>W) I.ok.iw
theorem Inv.stack (I:Inv X π σ H s):s.heap.FunFrames X.base X.stack:=by
 rcases I.ok.lg with e | ⟨e,Z⟩
 ·rw[e];exact I.iw
 ·rw[e]
  obtain⟨m,Y,_⟩:=I.loc;refine .cons (by rw[I.ok.kind];decide) Z Y ?_ I.iw;exact Heap.get?_none_of_le (à I.ok.iz I.ok.above)
def Inv.jO (I:Inv X π σ H s):∀b∈b9 X.stack,b∈X.env.locals::X.fs:=λb Z=>by
 rcases I.ok.lg with e | ⟨e,Y⟩
 ·rw[e] at Z;exact Ï _ Z
 ·rw[e] at Z
  unfold b9 at Z;rw[aax,Y] at Z;exact Z
def Inv.sr (I:Inv X π σ H s):∀b∈b9 X.stack,H b=none:=λb hb=>by
 rcases Ô.mp (I.jO b hb) with e|hb
 ·rw[e];exact I.free
 ·obtain⟨_,o,Z,_⟩:=I.ok.iw.mem hb
  exact I.base.free b o Z (I.ok.lh b hb) λz=>I.ok.xA b z hb
def Inv.step {g':Array GenState} {t':Nat} {d':Drawn} {ch:List Ú} (I:Inv X π σ H s)
  (lj:∀b∈ch,(b∈X.ex\/X.cM.heap.objs.size<=b)/\b≠X.env.locals/\(∀x c,X.env.cells.lookup x=some c->c≠b)/\∀p∈X.pn++π,p.1≠b)
  (keep:∀b o,b≠X.env.locals->b∉X.fs->b∉ch->s.heap.get? b=some o->H b=none->h'.get? b=some o)
  (slot:∀b o,b≠X.env.locals->b∈X.fs->b∉ch->s.heap.get? b=some o->H b=none->∃sl,h'.get? b=some { o with slots:=sl }) (free:∀b o,b∉ch->s.heap.get? b=some o->H b=none->H' b=none)
  (there:∀b o,b∉ch->s.heap.get? b=some o->∃o',h'.get? b=some o')
  (fe:∀b xs,H b=some (.tup xs)->H' b=some (.tup xs)) (eD:∀b o u,H b=some (.aV o u)->H' b=some (.aV o u)) (ff:∀b ps,H b=some (.dD ps)->∃more,H' b=some (.dD (ps++more)))
  (ns:∀m,s.heap.Ns X.env.locals m->h'.Ns X.env.locals m) (aC:cq X.prog X.w H' h') (hg:abU g') :
  Inv X π σ H' { s with heap:=h',gens:=g',drawn:=d',toks:=t' }:=by
 have S:∀b o,X.cM.heap.get? b=some o->b≠X.env.locals:=λb o e=>ß (Ç (Ì e) I.ok.above);have U:∀b o,X.cM.heap.get? b=some o->b∉X.ex->b∉ch:=λb o e Z Y=>by
  rcases(lj b Y).1 with z|z
  ·exact Z z
  ·exact absurd (Ç (Ì e) z) (ñ _)
 have cellK:∀x c,X.env.cells.lookup x=some c->∀v,s.heap.IsCell c v->h'.IsCell c v:=λx c e v ⟨o,W,T⟩=>by
  have V:c∉ch:=λz=>(lj c z).2.2.1 x c e rfl;by_cases R:c∈X.fs
  ·obtain⟨sl,q⟩:=slot c o (I.jy x c e) R V W (I.ip x c e)
   exact⟨_,q,T⟩
  ·exact⟨o,keep c o (I.jy x c e) R V W (I.ip x c e),T⟩
 refine⟨I.ok,I.os,hg,⟨λb o e n Y Z=>?_,λb o e n Y Z=>?_,λb o e n Z=>?_,λb o e Z=>?_,λb xs e=>fe b xs (I.base.fe b xs e),λb o xs e=>eD b o xs (I.base.eD b o xs e),λb ps e=>?_⟩,?_,λx c e=>?_,?_,λx c e=>?_,λp Q=>?_,aC,I.len⟩
 ·exact keep b o (S b o e) Y (U b o e Z) (I.base.keep b o e n Y Z) (I.base.free b o e n Z)
 ·obtain⟨sl,e1⟩:=I.base.slot b o e n Y Z
  obtain⟨O,e2⟩:=slot b _ (S b o e) Y (U b o e Z) e1 (I.base.free b o e n Z);exact⟨O,e2⟩
 ·obtain⟨o',e1⟩:=I.base.there b o e Z
  exact free b o' (U b o e Z) e1 (I.base.free b o e n Z)
 ·obtain⟨o',e1⟩:=I.base.there b o e Z
  exact there b o' (U b o e Z) e1
 ·obtain⟨N,e1⟩:=I.base.ff b ps e
  obtain⟨M,e2⟩:=ff b _ e1;exact⟨N++M,by rw[e2,Array.append_assoc]⟩
 ·obtain⟨m,L,K⟩:=I.loc
  refine⟨m,ns m L,λi x v e1 e2 J=>?_⟩;obtain⟨u,r,l⟩:=K i x v e1 e2 J;refine⟨u,r,?_⟩
  rcases l with l | ⟨k,c,e,z⟩
  ·exact .inl l
  ·exact .inr ⟨k,c,e,cellK x c e _ z⟩
 ·obtain⟨v,z⟩:=I.cell x c e
  exact⟨v,cellK x c e v z⟩
 ·obtain⟨m,⟨o,_,_,W,_⟩,_⟩:=I.loc
  exact free _ o (λz=>(lj _ z).2.1 rfl) W I.free
 ·obtain⟨v,o,W,T⟩:=I.cell x c e
  exact free c o (λz=>(lj c z).2.2.1 x c e rfl) W (I.ip x c e)
 ·obtain⟨e,n,ne,P,d⟩:=I.pin p Q
  have V:p.1∉ch:=λz=>(lj p.1 z).2.2.2 p Q rfl;exact⟨keep p.1 p.2 ne P V e n,free p.1 p.2 V e n,ne,P,d⟩
def Inv.un {t':Nat} (I:Inv X π σ H s) (u:Un X.fs [] H H' s.heap h') (aC:cq X.prog X.w H' h'):Inv X π σ H' { s with heap:=h',toks:=t' }:=by
 obtain⟨m,⟨o,Q,P,Y,r⟩,_⟩:=id I.loc;obtain⟨O,V⟩:=u.any Y I.free (by simp)
 exact I.step (g':=s.gens) (d':=s.drawn) (ch:=[]) (λ_ z=>nomatch z) (λb o _ Z _ e n=>u.keep b o e n Z (by simp)) (λb o _ Z _ e n=>u.slot b o e n Z (by simp)) (λb o _ e n=>u.free b o e n (by simp)) (λb o _ e=>u.there b o e (by simp)) u.fe u.eD u.ff (λN U=>by
  obtain⟨M,T,S,W,R⟩:=U;rw[Y] at W;cases W;exact⟨_,T,S,V,R⟩) aC I.bare
def Inv.call {g':Array GenState} {t':Nat} {d':Drawn} {ch:List Ú} (I:Inv X π σ H s) (u:Un (b9 X.stack) ch H H' s.heap h') (aC:cq X.prog X.w H' h') (hg:abU g')
  (lj:∀b∈ch,(b∈X.ex\/X.cM.heap.objs.size<=b)/\b≠X.env.locals/\(∀x c,X.env.cells.lookup x=some c->c≠b)/\∀p∈X.pn++π,p.1≠b) :
  Inv X π σ H' { s with heap:=h',gens:=g',drawn:=d',toks:=t' }:=by
 obtain⟨m,⟨o,P,O,W,r⟩,_⟩:=id I.loc;obtain⟨N,Y⟩:=u.any W I.free λz=>(lj _ z).2.1 rfl;exact I.step (ch:=ch) lj (λb o Y U Z e n=>u.keep b o e n (λz=>(Ô.mp (I.jO b z)).elim Y U) Z) (λb o _ _ Z e n=>u.any e n Z) (λb o Z e n=>u.free b o e n Z) (λb o Z e=>u.there b o e Z) u.fe u.eD u.ff (λM T=>by
  obtain⟨L,S,R,V,Q⟩:=T;rw[W] at V;cases V;exact⟨_,S,R,Y,Q⟩) aC hg
def Inv.turned {t':Nat} {it:Ú} (I:Inv X π σ H s) (k:∀b o,b≠it->s.heap.get? b=some o->h'.get? b=some o) (hn:H it=none) (hL:it≠X.env.locals)
  (h1:it∈X.ex\/X.cM.heap.objs.size<=it) (h2:∀x c,X.env.cells.lookup x=some c->c≠it) (h3:∀p∈X.pn++π,p.1≠it):Inv X π σ H { s with heap:=h',toks:=t' }:=by
 have Y:∀b u,H b=some u->b≠it:=λb u e z=>by rw[z,hn] at e;cases e
 refine I.step (g':=s.gens) (d':=s.drawn) (ch:=[it]) (λb W=>?_) (λb o _ _ Z e _=>k b o (λz=>Z (by simp[z])) e) (λb o _ _ Z e _=>⟨o.slots,k b o (λz=>Z (by simp[z])) e⟩) (λ_ _ _ _ n=>n)
  (λb o Z e=>⟨o,k b o (λz=>Z (by simp[z])) e⟩) (λ_ _ e=>e) (λ_ _ _ e=>e) (λb R e=>⟨#[],by rw[e];simp⟩) (λm V=>?_) (λb u e=>?_) I.bare
 ·have e:b=it:=by simpa using W
  subst e;exact⟨h1,hL,h2,h3⟩
 ·obtain⟨o,U,T,S,r⟩:=V
  exact⟨o,U,T,k _ o (Ź hL) S,r⟩
 ·refine(I.aC b u e).dU (λc v Z q=>k c v ?_ q) (λ_ q=>q) λ_ _ q=>q
  rcases Z with z|z
  ·rw[z];exact Y b u e
  ·exact Y c _ z
def Inv.tok (I:Inv X π σ H s) (t:Nat):Inv X π σ H { s with toks:=t }:=I.un (h':=s.heap) (t':=t) Un.refl I.aC
theorem Inv.kept (I:Inv X π σ H s) (k:∀b u,s.heap.get? b=some u->h'.get? b=some u):Inv X π σ H { s with heap:=h',toks:=t' }:=I.un (Un.kept k) (I.aC.kept k)
theorem Inv.laid {a:Ú} {o:HO} {t':Nat} (I:Inv X π σ H s) (k:∀b u,s.heap.get? b=some u->h'.get? b=some u) (hp:s.heap.objs.size<=a) (new:di X.prog X.w (upd H a o) h' a o) :
  Inv X π σ (upd H a o) { s with heap:=h',toks:=t' }:=I.un (Un.laid k hp (I.aC.fresh hp)) (I.aC.laid k hp new)
theorem Inv.write (I:Inv X π σ H s) (mu:yd (H x)) (he:e=x\/H e=some (.own x)) (k:∀b u,b≠e->s.heap.get? b=some u->h'.get? b=some u) (rb:∃u,h'.get? e=some u)
 (new:di X.prog X.w (upd H x o) h' x o):Inv X π σ (upd H x o) { s with heap:=h',toks:=t' }:=I.un (Un.write mu he k rb) (I.aC.write mu he k rb new)
def Inv.lQ (I:Inv X π σ H s) (h:∀p∈Vq,s.heap.get? p.1=some p.2/\H p.1=none/\p.1≠X.env.locals/\p.1∉X.fs/\∀v,p.2.data≠.cell v):Inv X Vq σ H s :=
 ⟨I.ok,I.os,I.bare,I.base,I.loc,I.cell,I.free,I.ip,λp Z=>(ċ.mp Z).elim (λz=>I.pin p (ā _ z)) (h p),I.aC,I.len⟩
def zy {N:List Str} (hN:N.Nodup) {i j:Nat} {x:Str} (a:N[i]?=some x) (b:N[j]?=some x):i=j:=by
 obtain⟨Z,e1⟩:=È.mp a;obtain⟨Y,e2⟩:=È.mp b;exact(List.getElem_inj hN).mp (e1.trans e2.symm)
def OD {M:Model} {A:î} {E:Å->Ä->Prop} {i:Nat} {x:Str} {v:V} {u:Å} {Q:Unit->Ä->Prop} (I:Inv X π σ H s) (hN:X.N.Nodup) (hi:X.N[i]?=some x) (hx:Loc X.env.scope x) (r:RelV v u)
  (h:∀s',Inv X π (σ.set i (some v)) H s'->(∃a,ĩ a s.heap s'.heap/\(a=X.env.locals\/X.env.cells.lookup x=some a))->Q () s') (hf:X.fn x=true\/X.env.scope.names.lookup x=some .local:=by first|exact .inl rfl|exact .inr rfl|assumption):Û M A (storeName X.env x u) Q E s:=by
 obtain⟨m,T,D⟩:=id I.loc;have tU:(X.env.scope.kind==.class||(X.env.scope.kind==.module&&X.env.locals != X.env.globals))=false:=by rw[I.ok.kind];rfl
 have C:i < σ.length:=by rw[I.len];exact(È.mp hi).1
 have jy:=I.jy;have tracked:∀{a:Ú} {h':Ī},(∃o,s.heap.get? a=some o/\H a=none)->ĩ a s.heap h'->cq X.prog X.w H h':=λ{a h'} ha hs b ob e=>by
  obtain⟨_,_,B⟩:=ha;refine(I.aC b ob e).dU (λc W hc q=>(hs.2 c ?_).trans q) (λ_ q=>q) λ_ _ q=>q;rintro rfl
  rcases hc with rfl|hc
  ·rw[B] at e;cases e
  ·rw[B] at hc;cases hc
 rcases hx with hk|hk
 ·refine wpAny_storeName_local hk T (λh' lr hs=>?_) tU
  obtain⟨oL,_,_,rj,_⟩:=id T;refine h _ ⟨I.ok,I.os,I.bare,⟨λb o e n Z hx=>?_,λb o e n Z hx=>?_,I.base.free,λb o e hx=>?_,I.base.fe,I.base.eD,I.base.ff⟩,⟨_,lr,λj y S e1 e2 R=>?_⟩,λy c e=>?_,I.free,I.ip,λp P=>?_,tracked ⟨oL,rj,I.free⟩ hs,by simpa using I.len⟩ ⟨_,hs,.inl rfl⟩
  ·exact(hs.2 b (ß (Ç (Ì e) I.ok.above))).trans (I.base.keep b o e n Z hx)
  ·obtain⟨O,e1⟩:=I.base.slot b o e n Z hx
   exact⟨O,(hs.2 b (ß (Ç (Ì e) I.ok.above))).trans e1⟩
  ·obtain⟨L,e1⟩:=I.base.there b o e hx
   exact⟨L,(hs.2 b (ß (Ç (Ì e) I.ok.above))).trans e1⟩
  ·by_cases Y:j=i
   ·subst Y
    rw[hi] at e1;cases e1;rw[ê C] at e2;cases e2;exact⟨u,r,.inl ⟨hk,by simp⟩⟩
   ·rw[Ý (Ź Y)] at e2
    obtain⟨K,J,q⟩:=D j y S e1 e2 R;refine⟨K,J,?_⟩
    rcases q with ⟨k,e⟩ | ⟨k,c,e,z⟩
    ·refine .inl ⟨k,?_⟩
     have:y≠x:=λe=>Y (zy hN e1 (e ▸ hi));simp[this,e]
    ·exact .inr ⟨k,c,e,z.sameBut hs (jy y c e)⟩
  ·obtain⟨W,z⟩:=I.cell y c e
   exact⟨W,z.sameBut hs (jy y c e)⟩
  ·obtain⟨e,n,ne,G,d⟩:=I.pin p P
   exact⟨(hs.2 p.1 ne).trans e,n,ne,G,d⟩
 ·have F:X.fn x=true:=by
   rcases hf with z|z
   ·exact z
   ·rw[z] at hk;cases hk
  obtain⟨c,hc⟩:=I.ok.has x (.inl hk);obtain⟨W,z⟩:=I.cell x c hc;refine wpAny_storeName_cell I.ok.kind hk hc z (λh' t hs=>?_);obtain⟨l,g,WV⟩:=id z
  refine h { s with heap:=h' } ⟨I.ok,I.os,I.bare,⟨λb o e n Z hx=>?_,λb o e n Z hx=>?_,I.base.free,λb o e hx=>?_,I.base.fe,I.base.eD,I.base.ff⟩,⟨m,T.sameBut hs (Ź (jy x c hc)),λj y S e1 e2 R=>?_⟩,λy U e=>?_,I.free,I.ip,λp P=>?_,tracked ⟨l,g,I.ip x c hc⟩ hs,by simpa using I.len⟩ ⟨c,hs,.inr hc⟩
  ·exact(hs.2 b (ß (Ç (Ì e) (I.ok.rg x c F hc)))).trans (I.base.keep b o e n Z hx)
  ·obtain⟨O,e1⟩:=I.base.slot b o e n Z hx
   exact⟨O,(hs.2 b (ß (Ç (Ì e) (I.ok.rg x c F hc)))).trans e1⟩
  ·obtain⟨L,e1⟩:=I.base.there b o e hx
   exact⟨L,(hs.2 b (ß (Ç (Ì e) (I.ok.rg x c F hc)))).trans e1⟩
  ·by_cases Y:j=i
   ·subst Y
    rw[hi] at e1;cases e1;rw[ê C] at e2;cases e2;exact⟨u,r,.inr ⟨.inl hk,c,hc,t⟩⟩
   ·rw[Ý (Ź Y)] at e2
    obtain⟨K,J,q⟩:=D j y S e1 e2 R;refine⟨K,J,?_⟩
    rcases q with q | ⟨k,U,e,z'⟩
    ·exact .inl q
    ·refine .inr ⟨k,U,e,z'.sameBut hs ?_⟩
     rintro rfl;exact Y (zy hN e1 (I.ok.inj _ _ _ e hc ▸ hi))
  ·by_cases f:U=c
   ·subst f;exact⟨_,t⟩
   ·obtain⟨w2,z2⟩:=I.cell y U e
    exact⟨w2,z2.sameBut hs f⟩
  ·obtain⟨e,n,ne,G,d⟩:=I.pin p P
   refine⟨(hs.2 p.1 ?_).trans e,n,ne,G,d⟩;intro q;rw[q,g] at e;have q':l=p.2:=ab4 e;exact d W (by rw[<- q'];exact WV)
def lO (I:Inv X π σ H s) (hN:X.N.Nodup) (hi:X.N[i]?=some x) (hx:Loc X.env.scope x) (r:RelV v u)
 (h:∀s',Inv X π (σ.set i (some v)) H s'->Q () s') (hf:X.fn x=true\/X.env.scope.names.lookup x=some .local:=by first|exact .inl rfl|exact .inr rfl|assumption):Û M A (storeName X.env x u) Q E s :=
 OD I hN hi hx r (λs' Z _=>h s' Z) hf
def Inv.sX (I:Inv X π σ H s) (ho:s'.os=s.os) (u:Un (b9 X.stack) ch H H' s.heap s'.heap) (aC:cq X.prog X.w H' s'.heap) (hg:abU s'.gens)
 (lj:∀b∈ch,(b∈X.ex\/X.cM.heap.objs.size<=b)/\b≠X.env.locals/\(∀x c,X.env.cells.lookup x=some c->c≠b)/\∀p∈X.pn++π,p.1≠b):Inv X π σ H' s':=by
 obtain⟨h',g',d',t',Z⟩:=s';have e:Z=s.os:=ho;subst e;exact I.call (g':=g') (t':=t') (d':=d') u aC hg lj
end
abbrev XK:=Å->Option Ú->Hp->Prop
noncomputable abbrev St:=List (Option V)
abbrev VK:=V->Hp->Prop
abbrev TE:=St->Hp->VK->Prop
abbrev TT:=St->Hp->(Bool->Hp->Prop)->Prop
abbrev TA:=St->Hp->(List V->Hp->Prop)->Prop
structure Ends where
 nx:St->Hp->Prop
 rt:VK
 bk:St->Hp->Prop:=λ_ _=>False
 ct:St->Hp->Prop:=λ_ _=>False
abbrev TS:=Ends->St->Hp->Prop
def EP (X:Cx) (π:List (Ú×Obj)) (σ:St) (Q:VK) (u:Å) (s':Ä):Prop:=∃v Z,Inv X π σ Z s'/\RelV v u/\Q v Z
def TP (X:Cx) (π:List (Ú×Obj)) (σ:St) (Q:Bool->Hp->Prop) (b:Bool) (s':Ä):Prop:=∃Z,Inv X π σ Z s'/\Q b Z
def AP (X:Cx) (π:List (Ú×Obj)) (σ:St) (Q:List V->Hp->Prop) (us:List Å) (s':Ä):Prop:=∃Z Y,Inv X π σ Y s'/\Vals Z us/\Q Z Y
def SP (X:Cx) (π:List (Ú×Obj)) (D:Ends) (f:Flow) (s':Ä):Prop :=
 match f with
 | .next=>∃ Y Z,Inv X π Y Z s'/\D.nx Y Z
 | .brk=>∃ Y Z,Inv X π Y Z s'/\D.bk Y Z
 | .cont=>∃ Y Z,Inv X π Y Z s'/\D.ct Y Z
 | .ret u=>∃v Y Z,Inv X π Y Z s'/\RelV v u/\D.rt v Z
def PE (X:Cx) (e:Ġ) (t:TE):Prop :=
 ∀(Z:List (Ú×Obj)) (s:Ä) (σ:St) (H:Hp) (Q:VK),Inv X Z σ H s->t σ H Q->Û (ã X.prog X.w) X.A (ļ e X.env) (EP X Z σ Q) X.xe s
def PT (X:Cx) (e:Ġ) (t:TT):Prop :=
 ∀(Z:List (Ú×Obj)) (s:Ä) (σ:St) (H:Hp) (Q:Bool->Hp->Prop),Inv X Z σ H s->t σ H Q->Û (ã X.prog X.w) X.A (isTrue e X.env (ļ e X.env)) (TP X Z σ Q) X.xe s
def PW (X:Cx) (e:Ġ) (t:TT):Prop :=
 ∀(whole:Sem Å) (Z:List (Ú×Obj)) (s:Ä) (σ:St) (H:Hp) (Q:Bool->Hp->Prop),Inv X Z σ H s->t σ H Q->Û (ã X.prog X.w) X.A (isTrue e X.env whole) (TP X Z σ Q) X.xe s
def PW.pt (h:PW X e t):PT X e t:=h _
def PA (X:Cx) (es:List Ġ) (t:TA):Prop :=
 ∀(pos:Pos) (Z:List (Ú×Obj)) (s:Ä) (σ:St) (H:Hp) (Q:List V->Hp->Prop),Inv X Z σ H s->t σ H Q->Û (ã X.prog X.w) X.A (spliced (Ħ pos (Ë es X.env))) (AP X Z σ Q) X.xe s
def PS (X:Cx) (st:abM) (t:TS):Prop :=
 ∀(Z:List (Ú×Obj)) (s:Ä) (σ:St) (H:Hp) (D:Ends),Inv X Z σ H s->t D σ H->Û (ã X.prog X.w) X.A (exec st X.env) (SP X Z D) X.xe s
def cS (X:Cx) (st:List abM) (t:TS):Prop :=
 ∀(Z:List (Ú×Obj)) (s:Ä) (σ:St) (H:Hp) (D:Ends),Inv X Z σ H s->t D σ H->Û (ã X.prog X.w) X.A (execs st X.env) (SP X Z D) X.xe s
def aH {α:Type} {t:Sem α} {Q Q':α->Ä->Prop} {M:Model} {A:î} {E:Å->Ä->Prop} {s:Ä} (h:Û M A t Q E s) (hQ:∀a s,Q a s->Q' a s):Û M A t Q' E s:=Ĕ h hQ λ_ _ x=>x
section
variable {X:Cx}
def WW (i:Nat):TE:=fun σ H Q=>∃v,σ[i]?=some (some v)/\Q v H
def tC (v:V):TE:=λ_ H Q=>Q v H
def Ia {i:Nat} {x:Str} {pos:Pos} (hN:X.N[i]?=some x) (hv:pA X.env.scope x) (hd:(x==("__debug__":Str))=false:=by decide) (dX:(x==("__classdict__":Str))=false:=by decide):PE X (.Name x pos) (WW i):=by
 intro W s σ H Q I h;obtain⟨v,e,h⟩:=h;obtain⟨m,V,U⟩:=I.loc;obtain⟨u,r,l⟩:=U i x v hN e hv;have fin:EP X W σ Q u s:=⟨v,H,I,r,h⟩
 rcases l with ⟨hk,T⟩ | ⟨hk,c,Z,Y⟩
 ·exact wpAny_Name (wpAny_loadName_local I.ok.kind hk V T fin) hd
 ·rcases hk with hk|hk
  ·exact wpAny_Name (wpAny_loadName_cell I.ok.kind hk Z Y fin) hd
  ·exact wpAny_Name (wpAny_loadName_free I.ok.kind hk Z Y fin dX) hd
def Tj {i j pos}:PE X (.Constant (.int i) j pos) (tC (.int i)):=λ_ _ _ H _ I h=>wpAny_Constant_int ⟨.int i,H,I.tok _,⟨_,rfl⟩,h⟩
def Bf {b j pos}:PE X (.Constant (.bool b) j pos) (tC (.bl b)):=λ_ _ _ H _ I h=>Constant_bool ⟨.bl b,H,I,rfl,h⟩
def Tn {j pos}:PE X (.Constant .none j pos) (tC .ao):=λ_ _ _ H _ I h=>Constant_none ⟨.ao,H,I,rfl,h⟩
def To {x j pos}:PE X (.Constant (.str x) j pos) (tC (.str x)):=λ_ _ _ H _ I h=>Calls.Constant_str ⟨.str x,H,I.tok _,⟨_,rfl⟩,h⟩
def Gl (X:Cx) (x:Str):Prop:=X.env.kindOf x=some .globalImplicit
def qm {E:Å->Ä->Prop} {π:List (Ú×Obj)} {s:Ä} {σ:St} {H:Hp} {x:Str} {u:Å} {pos:Pos} {Q:Å->Ä->Prop} (I:Inv X π σ H s) (hg:Gl X x) (hm:X.mg x=some u) (h:Q u s)
  (hd:(x==("__debug__":Str))=false:=by decide):Û (ã X.prog X.w) X.A (ļ (.Name x pos) X.env) Q E s :=
 Calls.Name_function_global I.ok.kind hg (Calls.loadGlobal_global (by rw[I.ok.glob];exact I.mod.glob.keeps I.bk) hm h) hd
def qv {E:Å->Ä->Prop} {π:List (Ú×Obj)} {s:Ä} {σ:St} {H:Hp} {x:Str} {u:Å} {pos:Pos} {Q:Å->Ä->Prop} (I:Inv X π σ H s) (hg:Gl X x) (hm:X.mg x=none) (hv:û x=some u) (h:Q u s)
  (hn:x≠"__name__":=by decide) (hd:(x==("__debug__":Str))=false:=by decide):Û (ã X.prog X.w) X.A (ļ (.Name x pos) X.env) Q E s:=by
 obtain⟨W,Z,Y⟩:=I.mod.blt;exact Calls.Name_function_global I.ok.kind hg (Calls.loadGlobal_builtin (by rw[I.ok.glob];exact I.mod.glob.keeps I.bk) hm (by rw[I.ok.blt];exact Z.keeps I.bk) ((Y x hn).trans hv) h) hd
def zW (hg:Gl X x) (hm:X.mg x=some u) (r:RelV v u) (hd:(x==("__debug__":Str))=false:=by decide):PE X (.Name x pos) (tC v) :=
 λ_ _ _ H _ I h=>qm I hg hm ⟨v,H,I,r,h⟩ hd
def wc {x:Str} {v:V} {u:Å} {pos:Pos} (hg:Gl X x) (hm:X.mg x=none) (hv:û x=some u) (r:RelV v u) (hn:x≠"__name__":=by decide) (hd:(x==("__debug__":Str))=false:=by decide):PE X (.Name x pos) (tC v) :=
 λ_ _ _ H _ I h=>qv I hg hm hv ⟨v,H,I,r,h⟩ hn hd
variable {a b:Ġ} {ta tb:TE} {pos:Pos}
variable {tA yh:TT} {rest:List Ġ}
def gb (t u:TT):TT:=fun σ H Q=>t σ H λc Z=>if c=true then u σ Z Q else Q false Z
def gY (t u:TT):TT:=fun σ H Q=>t σ H λc Z=>if c=true then Q true Z else u σ Z Q
def eG (t:TT):TT:=fun σ H Q=>t σ H λc Z=>Q (!c) Z
def RF (ha:PT X a tA):PW X (.BoolOp .And [a] pos) tA:=by
 intro Y Z s σ H Q I h;refine isTrue_and (aH (ha Z s σ H Q I h) λc W e=>?_)
 cases c with
 |true=>exact isTrue_and_nil e
 |false=>exact e
def Tp (ha:PT X a tA):PW X (.BoolOp .Or [a] pos) tA:=by
 intro Y Z s σ H Q I h;refine isTrue_or (aH (ha Z s σ H Q I h) λc W e=>?_)
 cases c with
 |false=>exact isTrue_or_nil e
 |true=>exact e
def Tq (ha:PT X a tA) (hb:PW X (.BoolOp .And (b::rest) pos) yh):PW X (.BoolOp .And (a::b::rest) pos) (gb tA yh):=by
 intro U Z s σ H Q I h;refine isTrue_and (aH (ha Z s σ H _ I h) λc T ⟨Y,W,V⟩=>?_)
 cases c with
 |true=>exact hb U Z T σ Y Q W V
 |false=>exact⟨Y,W,V⟩
def Vr (ha:PT X a tA) (hb:PW X (.BoolOp .Or (b::rest) pos) yh):PW X (.BoolOp .Or (a::b::rest) pos) (gY tA yh):=by
 intro U Z s σ H Q I h;refine isTrue_or (aH (ha Z s σ H _ I h) λc T ⟨Y,W,V⟩=>?_)
 cases c with
 |true=>exact⟨Y,W,V⟩
 |false=>exact hb U Z T σ Y Q W V
def Tr (ha:PT X a tA):PT X (.UnaryOp .Not a pos) (eG tA):=by
 intro Z s σ H Q I h;exact isTrue_not (ha Z s σ H (λc Y=>Q (!c) Y) I h)
def Vs (ta tb:TE):TE:=fun σ H Q=>ta σ H λx Z=>∃c,x=.bl c/\if c=true then tb σ Z Q else Q (.bl false) Z
def WX (ta tb:TE):TE:=fun σ H Q=>ta σ H λx Z=>∃c,x=.bl c/\if c=true then Q (.bl true) Z else tb σ Z Q
def Vt (ta:TE):TE:=fun σ H Q=>ta σ H λx Z=>∃c,x=.bl c/\Q (.bl (!c)) Z
def Tt {op} (h:PE X a t):PE X (.BoolOp op [a] pos) t:=λZ s σ H Q I hw=>BoolOp_one (h Z s σ H Q I hw)
def Tu (ha:PE X a ta) (hb:PE X (.BoolOp .And (b::rest) pos) tb):PE X (.BoolOp .And (a::b::rest) pos) (Vs ta tb):=by
 intro Y s σ H Q I h;refine BoolOp_and (aH (ha Y s σ H _ I h) λv U ⟨x,W,V,T,Z⟩=>?_);obtain⟨c,rfl,Z⟩:=Z;cases T;refine ő ?_
 cases c with
 |true=>exact hb Y U σ W Q V Z
 |false=>exact⟨.bl false,W,V,rfl,Z⟩
def Vu (ha:PE X a ta) (hb:PE X (.BoolOp .Or (b::rest) pos) tb):PE X (.BoolOp .Or (a::b::rest) pos) (WX ta tb):=by
 intro Y s σ H Q I h;refine BoolOp_or (aH (ha Y s σ H _ I h) λv U ⟨x,W,V,T,Z⟩=>?_);obtain⟨c,rfl,Z⟩:=Z;cases T;refine ő ?_
 cases c with
 |false=>exact hb Y U σ W Q V Z
 |true=>exact⟨.bl true,W,V,rfl,Z⟩
def Tv (ha:PE X a ta):PE X (.UnaryOp .Not a pos) (Vt ta):=by
 intro Y s σ H Q I h;refine UnaryOp_ (aH (ha Y s σ H _ I h) λv T ⟨x,W,V,U,Z⟩=>?_);obtain⟨c,rfl,Z⟩:=Z;cases U;exact not_of (ő ⟨.bl (!c),W,V,rfl,Z⟩)
def X4 (t:TT) (ta tb:TE):TE:=fun σ H Q=>t σ H λc Z=>if c=true then ta σ Z Q else tb σ Z Q
def PY {c:Ġ} (hc:PT X c tA) (ha:PE X a ta) (hb:PE X b tb):PE X (.IfExp c a b pos) (X4 tA ta tb):=by
 intro Z s σ H Q I h;refine wpAny_IfExp (aH (hc Z s σ H _ I h) λd Y ⟨W,V,U⟩=>?_)
 cases d with
 |true=>exact ha Z Y σ W Q V U
 |false=>exact hb Z Y σ W Q V U
end
def aZ (K:Ē) (H:Hp) (a:Ú) (xs:List V):Prop :=
 Rd H a (.lst xs) \/
  ∃(o:Obj) (its:Array Å) (n:Nat),K.lookup a=some o/\o.cls=.type "list"/\o.dict=none/\o.data=.seq its n/\its.size<=Ñ/\Vals xs its.toList
def bp (K:Ē) (H:Hp) (a:Ú) (xs:List V):Prop :=
 Rd H a (.tup xs) \/
  ∃(o:Obj) (its:Array Å) (n:Nat),K.lookup a=some o/\o.cls=.type "tuple"/\o.data=.seq its n/\its.size<=Ñ/\Vals xs its.toList
noncomputable def WY:Å->Option V
 | .none=>some .ao
 | .bool b=>some (.bl b)
 | .int i _=>some (.int i)
 | .str x _=>some (.str x)
 | .bytes b _=>some (.iV b)
 | .float b _=>some (.uw b)
 | .ref a=>some (.ref a)
 | .type n=>some (.ty n)
 |_=>none
def RelV.abs (r:RelV x u):WY u=some x:=by
 cases x with
 |ao=>cases r;rfl
 |bl _=>cases r;rfl
 |int _=>obtain⟨t,rfl⟩:=r;rfl
 |str _=>obtain⟨t,rfl⟩:=r;rfl
 |iV _=>obtain⟨t,rfl⟩:=r;rfl
 |uw _=>obtain⟨t,rfl⟩:=r;rfl
 |ref _=>cases r;rfl
 |ty _=>cases r;rfl
def RelV.inj (r:RelV x u) (q:RelV y u):x=y:=ab4 (r.abs.symm.trans q.abs)
theorem Vals.inj:∀{xs ys:List V} {us:List Å},Vals xs us->Vals ys us->xs=ys
 |_,_,_,.nil,.nil=>rfl
 |_,_,_,.cons r t,.cons Z Y=>by rw[r.inj Z,Vals.inj t Y]
section
variable {X:Cx} {π:List (Ú×Obj)} {σ:St} {H:Hp} {s:Ä} {a:Ú} {xs ys:List V}
def aZ.of {K:Ē} (h:H a=some (.lst xs)):aZ K H a xs:=.inl (.inl h)
def bp.of {K:Ē} (h:H a=some (.tup xs)):bp K H a xs:=.inl (.inl h)
def Inv.list (I:Inv X π σ H s) (h:aZ X.K H a xs):∃its:List Å,Vals xs its/\PlainL s.heap a its.toArray/\xs.length<=Ñ:=by
 rcases h with h | ⟨o,its,n,Z,Y,W,hs,V,r⟩
 ·obtain⟨z,its,n,r,e⟩:=h.ok I.aC
  exact⟨its,r,⟨_,n,e,rfl,rfl,rfl⟩,z⟩
 ·refine⟨its.toList,r,⟨o,n,I.iA a o Z,Y,W,by simpa using hs⟩,?_⟩
  have e:=r.length;simp only[ò] at e;omega
def Inv.tuple (I:Inv X π σ H s) (h:bp X.K H a xs):∃its:List Å,Vals xs its/\IsTup s.heap a its.toArray/\xs.length<=Ñ:=by
 rcases h with h | ⟨o,its,n,Z,Y,hs,W,r⟩
 ·obtain⟨z,its,r,p⟩:=h.ok I.aC
  exact⟨its,r,p,z⟩
 ·refine⟨its.toList,r,⟨o,I.iA a o Z,Y,n,by simpa using hs⟩,?_⟩
  have e:=r.length;simp only[ò] at e;omega
def Inv.Gs (I:Inv X π σ H s) (h:aZ X.K H a xs) (h':aZ X.K H a ys):xs=ys:=by
 obtain⟨its,r,⟨o,n,e,_,_,d⟩,_⟩:=I.list h;obtain⟨Z,V,⟨T,S,Y,_,_,W⟩,_⟩:=I.list h';rw[e] at Y;cases Y;rw[d] at W
 injection W with U _
 have:its=Z:=by simpa using Ľ Array.toList U
 subst this;exact r.inj V
def Inv.FR (I:Inv X π σ H s) (h:bp X.K H a xs) (h':bp X.K H a ys):xs=ys:=by
 obtain⟨its,r,⟨o,e,_,n,d⟩,_⟩:=I.tuple h;obtain⟨Z,V,⟨T,Y,_,S,W⟩,_⟩:=I.tuple h';rw[e] at Y;cases Y;rw[d] at W
 injection W with U _
 have:its=Z:=by simpa using Ľ Array.toList U
 subst this;exact r.inj V
end
noncomputable abbrev Cx.jq (X:Cx) (E:Å->Ä->Prop):Cx:={ X with xe:=E }
noncomputable abbrev Cx.mq (X:Cx):Cx:=X.jq λ_ _=>False
theorem Cx.Ok.jq {X:Cx} (ok:X.Ok) (E:Å->Ä->Prop):(X.jq E).Ok :=
 ⟨ok.mod,ok.kind,ok.glob,ok.blt,ok.above,ok.inj,ok.has,ok.rg,ok.hd,ok.frames,ok.lg,ok.K1,ok.bs,ok.iz,ok.nq,ok.xA,ok.iw,ok.lh⟩
def Cx.Ok.lR {X:Cx} {E:Å->Ä->Prop} (ok:(X.jq E).Ok):X.Ok :=
 ⟨ok.mod,ok.kind,ok.glob,ok.blt,ok.above,ok.inj,ok.has,ok.rg,ok.hd,ok.frames,ok.lg,ok.K1,ok.bs,ok.iz,ok.nq,ok.xA,ok.iw,ok.lh⟩
section
variable {X:Cx} {π:List (Ú×Obj)} {σ:St} {H:Hp} {s:Ä} {E:Å->Ä->Prop}
theorem Inv.jq (I:Inv X π σ H s) (E:Å->Ä->Prop):Inv (X.jq E) π σ H s:=⟨I.ok.jq E,I.os,I.bare,I.base,I.loc,I.cell,I.free,I.ip,I.pin,I.aC,I.len⟩
theorem Inv.lR (I:Inv (X.jq E) π σ H s):Inv X π σ H s:=⟨I.ok.lR,I.os,I.bare,I.base,I.loc,I.cell,I.free,I.ip,I.pin,I.aC,I.len⟩
theorem SP.lR (h:SP (X.jq E) π D f s'):SP X π D f s':=by
 cases f with
 |next=>obtain⟨Z,Y,I,q⟩:=h;exact⟨Z,Y,I.lR,q⟩
 |brk=>obtain⟨Z,Y,I,q⟩:=h;exact⟨Z,Y,I.lR,q⟩
 |cont=>obtain⟨Z,Y,I,q⟩:=h;exact⟨Z,Y,I.lR,q⟩
 |ret u=>obtain⟨v,Z,Y,I,r,q⟩:=h;exact⟨v,Z,Y,I.lR,r,q⟩
theorem cS.mq {st:List abM} {t:TS} (h:cS X.mq st t):cS X st t:=λπ s σ H D I hw =>
 Ĕ (h π s σ H D (I.jq _) hw) (λ_ _ q=>q.lR) λ_ _ z=>ĕ z
end
section
variable {X:Cx} {st:abM} {rest:List abM} {t u:TS} {e:Ġ} {te:TE} {pos:Pos}
def Vv:TS:=λD σ H=>D.nx σ H
def WZ (t u:TS):TS:=λD σ H=>t { D with nx:=u D } σ H
def RG:cS X [] Vv:=λ_ _ σ H _ I h=>wpAny_execs_nil ⟨σ,H,I,h⟩
def PZ (h1:PS X st t) (h2:cS X rest u):cS X (st::rest) (WZ t u):=by
 intro Z s σ H D I h
 refine wpAny_execs_cons (aH (h1 Z s σ H { D with nx:=u D } I h) λf Y q=>?_)
 cases f with
 |next =>
  obtain⟨W,V,U,q⟩:=q;exact h2 Z Y W V D U q
 |ret v=>exact q
 |brk=>exact q
 |cont=>exact q
def RH (h1:PS X st t):cS X [st] t:=by
 intro Z s σ H D I h;refine wpAny_execs_cons (aH (h1 Z s σ H D I h) λf Y q=>?_)
 cases f with
 |next=>exact wpAny_execs_nil q
 |ret v=>exact q
 |brk=>exact q
 |cont=>exact q
def Inv.quiet {π:List (Ú×Obj)} {σ:St} {H:Hp} {s:Ä} (I:Inv X π σ H s):interactive X.env=false:=by simp[interactive,I.ok.kind]
def Vw (te:TE):TS:=λD σ H=>te σ H λ_ Z=>D.nx σ Z
def RJ (he:PE X e te) (hs:swapsWith e none pos.line X.env=pure false:=by rfl):PS X (.Expr e pos) (Vw te):=by
 intro Z s σ H D I h;exact wpAny_Expr_any (aH (he Z s σ H _ I h) λv U ⟨x,Y,W,T,V⟩=>⟨σ,Y,W,V⟩) I.quiet hs
def W0 (te:TE):TS:=λD σ H=>te σ H D.rt
def Tw (he:PE X e te):PS X (.Return (some e) pos) (W0 te):=by
 intro Z s σ H D I h;exact wpAny_Return_some (aH (he Z s σ H _ I h) λv T ⟨x,Y,W,V,U⟩=>⟨x,σ,Y,W,V,U⟩)
def W2 (c:TT) (t u:TS):TS:=λD σ H=>c σ H λb Z=>if b=true then t D σ Z else u D σ Z
def Vx {c:Ġ} {a b:List abM} {tc:TT} (hc:PT X c tc) (ha:cS X a t) (hb:cS X b u):PS X (.If c a b pos) (W2 tc t u):=by
 intro Z s σ H D I h;refine wpAny_If (aH (hc Z s σ H _ I h) λd Y ⟨W,V,U⟩=>?_)
 cases d with
 |true=>exact ha Z Y σ W D V U
 |false=>exact hb Z Y σ W D V U
end
abbrev TG:=V->St->Hp->(St->Hp->Prop)->Prop
abbrev iW:=List V->St->Hp->(St->Hp->Prop)->Prop
def PG (X:Cx) (target:Ġ) (t:TG):Prop :=
 ∀(Z:List (Ú×Obj)) (s:Ä) (σ:St) (H:Hp) (v:V) (u:Å) (Q:St->Hp->Prop),Inv X Z σ H s->RelV v u->t v σ H Q ->
  Û (ã X.prog X.w) X.A (abH target X.env u) (λ_ U=>∃ Y W,Inv X Z Y W U/\Q Y W) X.xe s
def jz (X:Cx) (ts:List Ġ) (t:iW):Prop :=
 ∀(Z:List (Ú×Obj)) (s:Ä) (σ:St) (H:Hp) (Y:List V) (W:List Å) (Q:St->Hp->Prop),Inv X Z σ H s->Vals Y W->t Y σ H Q ->
  Û (ã X.prog X.w) X.A (aaH ((ľ ts X.env).map (·.2)) W) (λ_ S=>∃ U T,Inv X Z U T S/\Q U T) X.xe s
abbrev BU:=V->V->V->Hp->(Hp->Prop)->Prop
def Ke (X:Cx) (t:BU):Prop :=
 ∀(Z:List (Ú×Obj)) (s:Ä) (σ:St) (H:Hp) (o i v:V) (Y W u:Å) (Q:Hp->Prop),Inv X Z σ H s->RelV o Y->RelV i W->RelV v u->t o i v H Q ->
  Û (ã X.prog X.w) X.A (setItem Y W u) (λ_ T=>∃U,Inv X Z σ U T/\Q U) X.xe s
section
variable {X:Cx} {pos:Pos}
def lU (i:Nat):TG:=λv σ H Q=>Q (σ.set i (some v)) H
def iH (hN:X.N.Nodup) (hi:X.N[i]?=some x) (hx:Loc X.env.scope x) (hf:X.fn x=true\/X.env.scope.names.lookup x=some .local:=by first|exact .inl rfl|exact .inr rfl|assumption):PG X (.Name x pos) (lU i):=by
 intro Y s σ H v u Q I r h;exact wpAny_assign_Name (lO I hN hi hx r (λW Z=>⟨_,H,Z,h⟩) hf)
def BV:iW:=λZ σ H Q=>Z=[]/\Q σ H
def Bg (t:TG) (u:iW):iW:=λZ σ H Q=>∃v r,Z=v::r/\t v σ H fun Y X=>u r Y X Q
def we:jz X [] BV:=by
 intro Z s σ H Y W Q I r h;obtain⟨e,h⟩:=h;subst e;cases r;exact assignInOrder_nil ⟨σ,H,I,h⟩
def oi {e:Ġ} {es:List Ġ} {t:TG} {u:iW} (h1:PG X e t) (h2:jz X es u)
  (hs:(ľ (e::es) X.env).map (·.2)=abH e X.env::(ľ es X.env).map (·.2):=by rfl):jz X (e::es) (Bg t u):=by
 intro Z s σ H R P Q I r h;obtain⟨v,O,e1,h⟩:=h;subst e1
 cases r with
 |cons r Y =>
  rw[hs];refine ş (aH (h1 Z s σ H _ _ _ I r h) λ_ W ⟨V,U,T,S⟩=>?_);exact h2 Z W V U _ _ Q T Y S
def BW (K:Ē) (n:Nat) (t:iW):TG:=λv σ H Q=>∃a Z,v=.ref a/\bp K H a Z/\Z.length=n/\t Z σ H Q
def ow {k:Nat} {n:Nat} (hc:X.calm=true) (h:jz X es t)
 (hn:(ľ es X.env).length=n:=by rfl) (gn:(ľ es X.env).findIdx? (·.1)=none:=by rfl):PG X (.Tuple es k pos) (BW X.K n t):=by
 intro Z s σ H v u Q I r hw;obtain⟨a,W,e1,V,U,hw⟩:=hw;subst e1;cases r;obtain⟨its,Y,T,O⟩:=I.tuple V;refine assign_Tuple_tuple (I.ok.hd hc) T (by simp[hn,<- U,Y.length]) gn λS R=>?_
 have P:Inv X Z σ H { s with heap:=S }:=I.kept (t':=s.toks) λb o e=>R b o (ß (Ì e)) e
 exact h Z _ σ H W _ Q P (by simpa using Y) hw
def W3 (to ti:TE) (t:BU):TG:=λv σ H Q=>to σ H λo Z=>ti σ Z λi Y=>t o i v Y λX=>Q σ X
def Tz {o i:Ġ} {to ti:TE} {t:BU} (ho:PE X o to) (hi:PE X i ti) (hs:Ke X t)
  (ha:∀v,abH (.Subscript o i pos) X.env v=(do
   let ov <- abx [v] (ļ o X.env)
   let iv <- abx [v,ov] (ļ i X.env)
   abN pos
   abx [v,ov,iv] (setItem ov iv v)
   release [v,ov,iv] []):=by intro _;rfl):PG X (.Subscript o i pos) (W3 to ti t):=by
 intro Z s σ H v u Q I r h;rw[ha];refine À (Ĉ (aH (ho Z s σ H _ I h) λov Y ⟨x,W,V,U,T⟩=>?_));refine À (Ĉ (aH (hi Z Y σ W _ V T) λiv S ⟨y,R,P,O,N⟩=>?_));refine À (Š (À (Ĉ (aH (hs Z S σ R x y v ov iv u _ P U O r N) λ_ J ⟨M,L,K⟩=>?_))));exact wpAny_release ⟨σ,M,L,K⟩
def qN (te:TE) (g:TG):TS:=λD σ H=>te σ H λx Z=>g x σ Z D.nx
def Ib {tg e:Ġ} {te:TE} {g:TG} (he:PE X e te) (hg:PG X tg g) (hs:ς [tg] e pos.line X.env=pure false:=by rfl) (hw:υ [tg] e X.env=pure none:=by rfl)
  (h1:(ľ [tg] X.env).map (·.2)=[abH tg X.env]:=by rfl):PS X (.Assign [tg] e pos) (qN te g):=by
 intro Z s σ H D I h;refine wpAny_Assign_stores (aH (he Z s σ H _ I h) λv Y ⟨x,W,V,U,T⟩=>?_) hs hw;rw[h1];exact aH (hg Z Y σ W x v _ V U T) λ_ S q=>q
def TB {i:Nat} {x:Str} {e:Ġ} {te:TE} {pos':Pos} (hN:X.N.Nodup) (hi:X.N[i]?=some x) (hx:Loc X.env.scope x) (he:PE X e te) (hs:swapsWith e (some (.Name x pos')) pos.line X.env=pure false:=by rfl) (hf:X.fn x=true\/X.env.scope.names.lookup x=some .local:=by first|exact .inl rfl|exact .inr rfl|assumption) :
  PS X (.Assign [.Name x pos'] e pos) (qN te (lU i)):=by
 intro Z s σ H D I h;refine wpAny_Assign_Name (aH (he Z s σ H _ I h) λv S ⟨y,Y,W,V,U⟩=>?_) hs;exact lO W hN hi hx V (λR T=>⟨_,Y,T,U⟩) hf
def W4 (i j:Nat) (ta:TA):TS:=λD σ H=>ta σ H λZ Y=>∃v w,Z=[v,w]/\D.nx ((σ.set i (some v)).set j (some w)) Y
def TC {i j:Nat} {x y:Str} {a b:Ġ} {ta:TA} {px py pt:Pos} {kt k2 gZ} (hc:X.calm=true) (hN:X.N.Nodup) (hi:X.N[i]?=some x) (hj:X.N[j]?=some y) (eI:i≠j)
  (hx:X.env.scope.names.lookup x=some .local) (hy:X.env.scope.names.lookup y=some .local) (ha:PA X [a,b] ta)
  (hw:υ [.Tuple [.Name x px,.Name y py] kt pt] (.Tuple [a,b] k2 gZ) X.env=pure (some [x,y]))
  (hs:ς [.Tuple [.Name x px,.Name y py] kt pt] (.Tuple [a,b] k2 gZ) pos.line X.env=pure false:=by rfl) :
  PS X (.Assign [.Tuple [.Name x px,.Name y py] kt pt] (.Tuple [a,b] k2 gZ) pos) (W4 i j ta):=by
 intro U s σ H D I h;rw[exec_Assign_arm];refine À (Š ?_);rw[hs];refine À (Ã ?_);rw[ì (by decide)];refine À (Tuple_ (aH (ha _ U s σ H _ I h) λR Z ⟨C,T,Q,P,V⟩=>?_));obtain⟨v,w,e1,V⟩:=V;subst e1;obtain⟨Y,W,rfl,O,M⟩:∃Y W,R=[Y,W]/\RelV v Y/\RelV w W:=by
  cases P with
  |cons p q =>
   cases q with
   |cons L K =>
    cases K;exact⟨_,_,rfl,p,L⟩
 refine ù ?_ (by show 2<=Ñ;decide)
 have J:Inv X U σ T { Z with heap:=Z.heap.push { cls:=.type "tuple",data:=.seq [Y,W].toArray } }:=Q.kept (t':=Z.toks) λb o e=>Á _ e
 rw[hw];refine À (Ã ?_)
 show Û (ã X.prog X.w) X.A (do rule "assign.swapped-stores";let items <- unpackItems (.ref Z.heap.objs.size) 2 none;aaH [λv=>abc X.env y v,λv=>abc X.env x v] items.reverse;pure Flow.next) _ _ _
 refine À (ś (À (unpackItems_tuple (items:=#[Y,W]) (I.ok.hd hc) (IsTup.new Z.heap _) λh' G=>?_)));have F:=J.kept (h':=h') (t':=Z.toks) λb o e=>G b o (ß (Ì e)) e
 show Û _ _ (aaH [λv=>abc X.env y v,λv=>abc X.env x v] [W,Y] >>= λ_=>pure Flow.next) _ _ _
 refine À (ş (abd (lO F hN hj (.inl hy) M (λB E=>?_) (.inr hy))));refine ş (abd (lO E hN hi (.inl hx) O (λz S=>assignInOrder_nil (Ã ?_)) (.inr hx)));rw[List.set_comm _ _ (Ź eI)] at S;exact⟨_,T,S,V⟩
end
section
variable {X:Cx} {pos:Pos}
end
structure It where
 go:Nat->Hp->Prop
 pB:Nat->Hp->V->Hp->Prop
 stop:Nat->Hp->Prop
def fg (X:Cx) (π:List (Ú×Obj)) (H:Hp) (b:Ú):Prop :=
 H b=none/\b≠X.env.locals/\b∉X.fs/\(b∈X.ex\/X.cM.heap.objs.size<=b)/\(∀x c,X.env.cells.lookup x=some c->c≠b)/\∀p∈X.pn++π,p.1≠b
def Inv.tV {X:Cx} {π:List (Ú×Obj)} {σ:St} {H H':Hp} {s:Ä} {b:Ú} (I:Inv X π σ H s) (hb:s.heap.objs.size<=b) (hn:H' b=none):fg X π H' b:=by
 refine⟨hn,š (Ç I.lt hb),I.tR hb,.inr (à I.sz hb),λx c e z=>?_,λp Z z=>?_⟩
 ·obtain⟨v,q⟩:=I.cell x c e
  exact absurd (Ç q.lt (by rw[z];exact hb)) (ñ _)
 ·exact absurd (Ç (Ì (I.pin p Z).1) (by rw[z];exact hb)) (ñ _)
structure Turn (P:â) (w:Ą) (K:Ē) (tg:Ġ) (J:It) (fp:List Ú) (it:Ú) (tn:Nat->Ī->Prop):Prop where
 mem:it∈fp
 obj:∀i h,tn i h->∀b∈fp,∃o,h.get? b=some o/\∀v,o.data≠.cell v
 keep:∀i h h',tn i h->(∀b∈fp,∀o,h.get? b=some o->h'.get? b=some o)->tn i h'
 item:∀(X:Cx),X.prog=P->X.w=w->X.K=K->X.calm=true->∀(i:Nat) (π:List (Ú×Obj)) (s:Ä) (σ:St) (H:Hp) (E:Å->Ä->Prop),Inv X π σ H s->(∀b∈fp,fg X π H b)->tn i s.heap->J.go i H ->
  Û (ã P w) X.A (aac (.ref it)) (λr s1=>∃u,r=some u /\
   Û (ã P w) X.A (Ň tg (.ref it) u) (λ_ s2=>∃x H',Inv X π σ H' s2/\RelV x u/\J.pB i H x H'/\tn (i+1) s2.heap/\∀b∈fp,H' b=none) E s1) E s
 done:∀(X:Cx),X.prog=P->X.w=w->X.K=K->X.calm=true->∀(i:Nat) (π:List (Ú×Obj)) (s:Ä) (σ:St) (H:Hp) (E:Å->Ä->Prop),Inv X π σ H s->(∀b∈fp,fg X π H b)->tn i s.heap->J.stop i H ->
  Û (ã P w) X.A (aac (.ref it)) (λr s1=>r=none/\Inv X π σ H s1) E s
 self:∀(A:î) (i:Nat) (s:Ä) (Q:Å->Ä->Prop) (E:Å->Ä->Prop),tn i s.heap->Q (.ref it) s->Û (ã P w) A (pyIter (.ref it)) Q E s
abbrev TI:=St->Hp->(It->Hp->Prop)->Prop
def K5 (X:Cx) (π:List (Ú×Obj)) (σ:St) (tg:Ġ) (R:It->Hp->Prop) (gp:Å) (s2:Ä):Prop :=
 ∃(it:Ú) (Y:List Ú) (W:Nat->Ī->Prop) (J:It) (Z:Hp),gp=.ref it/\Inv X π σ Z s2/\Turn X.prog X.w X.K tg J Y it W/\W 0 s2.heap/\(∀b∈Y,fg X π Z b)/\R J Z
def PI (X:Cx) (tg iter:Ġ) (wi:TI):Prop :=
 ∀(Z:List (Ú×Obj)) (s:Ä) (σ:St) (H:Hp) (R:It->Hp->Prop),Inv X Z σ H s->wi σ H R ->
  Û (ã X.prog X.w) X.A (ļ iter X.env) (λv Y=>Û (ã X.prog X.w) X.A (pyIter v) (K5 X Z σ tg R) X.xe Y) X.xe s
def xj (ho:s.heap.get? it=some o) (hc:o.cls=.type n) (hd:o.data=.fields vs)
 (hn:["enumerate","zip","dict_itemiterator","dict_reverseitemiterator","odict_iterator","itertools.zip_longest","itertools.pairwise"].contains n=false) (hQ:Q () s):Û M A (Ň tg (.ref it) u) Q E s:=by
 unfold Ň
 cases tg<;>first
  |exact Ã hQ
  |(cases u<;>first
    |exact Ã hQ
    |(refine À (wpAny_load ho ?_)
      rw[hc,hd]
      show Û M A (if (["enumerate","zip","dict_itemiterator","dict_reverseitemiterator","odict_iterator","itertools.zip_longest","itertools.pairwise"].contains n&&vs[0]?==some (ω _))=true then _ else _) Q E s
      rw[ì (by intro h;rw[hn,Bool.false_and] at h;cases h)];exact Ã hQ))
noncomputable def CF (K:Ē) (a:Ú):It :=
 ⟨λi H=>∃Z x,aZ K H a Z/\Z[i]?=some x,λi H x Y=>Y=H/\∀Z,aZ K H a Z->Z[i]?=some x,λi H=>∃Z,aZ K H a Z/\Z.length<=i⟩
noncomputable def CG (K:Ē) (a:Ú):It :=
 ⟨λi H=>∃Z x,bp K H a Z/\Z[i]?=some x,λi H x Y=>Y=H/\∀Z,bp K H a Z->Z[i]?=some x,λi H=>∃Z,bp K H a Z/\Z.length<=i⟩
noncomputable def uz (lo:Int) (n:Nat):It:=⟨λi _=>i<n,λi H x Z=>Z=H/\x=.int (lo+i),λi _=>n<=i⟩
def OE {P:â} {w:Ą} {K:Ē} {tg:Ġ} (a it:Ú):Turn P w K tg (CF K a) [it] it (λi h=>h.IsListIter it a i) where
 mem:=by simp
 obj:=λi h Z b Y=>by
  have e:b=it:=by simpa using Y
  subst e;obtain⟨o,e,c,d⟩:=Z;exact⟨o,e,λv z=>by rw[d] at z;cases z⟩
 keep:=λi h W Z k=>Z.at λo e=>k it (by simp) o e
 item:=by
  intro X T hw S L i J s σ H E I V Z R;subst T hw S;obtain⟨F,x,U,Q⟩:=R;obtain⟨its,O,p,D⟩:=I.list U;obtain⟨u,C,B⟩:=O.get Q;obtain⟨f0,f1,f2,N,f4,M⟩:=V it (by simp);refine wpAny_pyNext_list_item Z p.isList (x:=u) (by simpa using C) λW G A=>?_
  have y:Inv X J σ H { s with heap:=W }:=I.turned (t':=s.toks) (λb o Y e=>(A.2 b Y).trans e) f0 f1 N f4 M
  obtain⟨o,e,c,d⟩:=id G
  exact⟨u,rfl,xj (s:={ s with heap:=W }) e c d (by decide) ⟨x,H,y,B,⟨rfl,λq t=>by rw[I.Gs t U];exact Q⟩,G,λb Y=>(V b Y).1⟩⟩
 done:=by
  intro X T hw S L i J s σ H E I V Z R;subst T hw S;obtain⟨F,U,Q⟩:=R;obtain⟨its,O,p,D⟩:=I.list U;obtain⟨f0,f1,f2,N,f4,M⟩:=V it (by simp);have n:=O.length;exact wpAny_pyNext_list_end (I.ok.hd L) Z p.isList (by simp;omega) λW r=>⟨rfl,I.turned (t':=s.toks) (λb o Y e=>r b o Y e) f0 f1 N f4 M⟩
 self:=λ_ _ _ _ _ Z h=>wpAny_pyIter_listiter Z h
def NM {P:â} {w:Ą} {K:Ē} {tg:Ġ} (a it:Ú):Turn P w K tg (CG K a) [it] it (λi h=>h.IsTupleIter it a i) where
 mem:=by simp
 obj:=λi h Z b Y=>by
  have e:b=it:=by simpa using Y
  subst e;obtain⟨o,e,c,d⟩:=Z;exact⟨o,e,λv z=>by rw[d] at z;cases z⟩
 keep:=λi h W Z k=>Z.at λo e=>k it (by simp) o e
 item:=by
  intro X T hw S L i J s σ H E I V Z R;subst T hw S;obtain⟨F,x,U,Q⟩:=R;obtain⟨its,O,p,D⟩:=I.tuple U;obtain⟨u,C,B⟩:=O.get Q;obtain⟨f0,f1,f2,N,f4,M⟩:=V it (by simp);refine wpAny_pyNext_tuple_item Z (show s.heap.IsTuple a its.toArray from p) (x:=u) (by simpa using C) λW G A=>?_
  have y:Inv X J σ H { s with heap:=W }:=I.turned (t':=s.toks) (λb o Y e=>(A.2 b Y).trans e) f0 f1 N f4 M
  obtain⟨o,e,c,d⟩:=id G
  exact⟨u,rfl,xj (s:={ s with heap:=W }) e c d (by decide) ⟨x,H,y,B,⟨rfl,λq t=>by rw[I.FR t U];exact Q⟩,G,λb Y=>(V b Y).1⟩⟩
 done:=by
  intro X T hw S L i J s σ H E I V Z R;subst T hw S;obtain⟨F,U,Q⟩:=R;obtain⟨its,O,p,D⟩:=I.tuple U;obtain⟨f0,f1,f2,N,f4,M⟩:=V it (by simp);have n:=O.length;exact wpAny_pyNext_tuple_end (I.ok.hd L) Z (show s.heap.IsTuple a its.toArray from p) (by simp;omega) λW r=>⟨rfl,I.turned (t':=s.toks) (λb o Y e=>r b o Y e) f0 f1 N f4 M⟩
 self:=λ_ _ _ _ _ Z h=>wpAny_pyIter_tupleiter Z h
def NN {P:â} {w:Ą} {K:Ē} {tg:Ġ} (it:Ú) (lo:Int) (n:Nat):Turn P w K tg (uz lo n) [it] it (λi h=>IsRangeIter h it (lo+(i:Nat)*1) ((n:Int)-(i:Nat)) 1) where
 mem:=by simp
 obj:=λi h Z b Y=>by
  have e:b=it:=by simpa using Y
  subst e;exact⟨_,Z,λv z=>by
   have G:Data.fields _=Data.cell v:=z;cases G⟩
 keep:=λi h V Z k=>k it (by simp) _ Z
 item:=by
  intro X T hw S R i M s σ H E I U Z Q;subst T hw S;obtain⟨f0,f1,f2,O,f4,N⟩:=U it (by simp);have W:=Walks.range (prog:=X.prog) (w:=X.w) (I.ok.hd R) it lo 1 n;refine W.item i s _ _ Q Z λv V L F J D=>?_;obtain⟨t,rfl⟩:=F
  have C:Inv X M σ H { s with heap:=V,toks:=L }:=I.turned (λb o Y e=>D b o (by simpa using Y) e) f0 f1 O f4 N
  refine⟨_,rfl,xj (s:={ s with heap:=V,toks:=L }) (n:="range_iterator") J rfl rfl (by decide) ⟨.int (lo+i),H,C,⟨t,?_⟩,⟨rfl,rfl⟩,J,λb Y=>(U b Y).1⟩⟩
  rw[Int.mul_one]
 done:=by
  intro X T hw S R i M s σ H E I U Z Q;subst T hw S;obtain⟨f0,f1,f2,O,f4,N⟩:=U it (by simp);exact wpAny_pyNext_range_end (I.ok.hd R) Z (by have:n<=i:=Q;omega) λV B=>⟨rfl,I.turned (t':=s.toks) (λb o Y e=>B b o Y e) f0 f1 O f4 N⟩
 self:=λ_ _ _ _ _ Z h=>wpAny_pyIter_rangeiter Z h
section
variable {X:Cx} {tg:Ġ}
def Ji (K:Ē) (tl:TE):TI:=fun σ H R=>tl σ H λx Z=>∃a,x=.ref a/\(∃Y,aZ K Z a Y)/\R (CF K a) Z
def Kf (K:Ē) (tl:TE):TI:=fun σ H R=>tl σ H λx Z=>∃a,x=.ref a/\(∃Y,bp K Z a Y)/\R (CG K a) Z
def RK {l:Ġ} {tl:TE} (hl:PE X l tl):PI X tg l (Ji X.K tl):=by
 intro W s σ H R I h;refine aH (hl W s σ H _ I h) λv Z ⟨x,V,Y,U,T⟩=>?_;obtain⟨a,e,⟨P,S⟩,q⟩:=T;subst e;cases U;obtain⟨its,O,p,N⟩:=Y.list S;refine Ũ p.isList ?_;refine⟨Z.heap.objs.size,[Z.heap.objs.size],_,_,V,rfl,Y.kept (t':=Z.toks) λb o e=>Á _ e,OE a _,⟨_,Í _ rfl,rfl,rfl⟩,λb Q=>?_,q⟩;have e:b=Z.heap.objs.size:=by simpa using Q
 subst e;exact Y.tV (ab3 _) (Y.aC.fresh (ab3 _))
def TF {l:Ġ} {tl:TE} (hl:PE X l tl):PI X tg l (Kf X.K tl):=by
 intro W s σ H R I h;refine aH (hl W s σ H _ I h) λv Z ⟨x,V,Y,U,T⟩=>?_;obtain⟨a,e,⟨P,S⟩,q⟩:=T;subst e;cases U;obtain⟨its,O,p,N⟩:=Y.tuple S;refine wpAny_pyIter_tuple (show Z.heap.IsTuple a its.toArray from p) ?_;refine⟨Z.heap.objs.size,[Z.heap.objs.size],_,_,V,rfl,Y.kept (t':=Z.toks) λb o e=>Á _ e,NM a _,⟨_,Í _ rfl,rfl,rfl⟩,λb Q=>?_,q⟩;have e:b=Z.heap.objs.size:=by simpa using Q
 subst e;exact Y.tV (ab3 _) (Y.aC.fresh (ab3 _))
def Gu {π:List (Ú×Obj)} {σ:St} {H:Hp} {s:Ä} {R:It->Hp->Prop} {E:Å->Ä->Prop} {lo hi:Int} {t u v:Tok} {tk:Nat} (I:Inv X π σ H s) (h1:-(2 ^ 62)<=lo) (h2:lo<2 ^ 62) (h3:-(2 ^ 62)<=hi) (h4:hi<2 ^ 62)
  (q:R (uz lo (hi-lo).toNat) H):Û (ã X.prog X.w) X.A (pyIter (.ref s.heap.objs.size)) (K5 X π σ tg R) E { s with heap:=s.heap.push { cls:=.type "range",data:=.fields #[.int lo t,.int hi u,.int 1 v] },toks:=tk }:=by
 refine wpAny_pyIter_range (IsRange.new ..) (small_one h1 h2 h3 h4) ?_
 have Z:Inv X π σ H { s with heap:=s.heap.push { cls:=.type "range",data:=.fields #[.int lo t,.int hi u,.int 1 v] },toks:=tk }:=I.kept λb o e=>Á _ e
 refine⟨(s.heap.push { cls:=.type "range",data:=.fields #[.int lo t,.int hi u,.int 1 v] }).objs.size,[(s.heap.push { cls:=.type "range",data:=.fields #[.int lo t,.int hi u,.int 1 v] }).objs.size],_,_,H,rfl,
  Z.kept (t':=tk) λb o e=>Á _ e,NN _ lo (hi-lo).toNat,?_,λb Y=>?_,q⟩
 ·have e1:lo+((0:Nat):Int)*1=lo:=by simp
  have e2:(((hi-lo).toNat:Nat):Int)-((0:Nat):Int)=aaI lo hi 1:=by rw[rangeSize_one];split<;>omega
  show IsRangeIter _ _ (lo+((0:Nat):Int)*1) ((((hi-lo).toNat:Nat):Int)-((0:Nat):Int)) 1;rw[e1,e2];exact Í _ rfl
 ·have e:b=(s.heap.push { cls:=.type "range",data:=.fields #[.int lo t,.int hi u,.int 1 v] }).objs.size:=by simpa using Y
  subst e;exact Z.tV (ab3 _) (Z.aC.fresh (ab3 _))
def Vy (ta:TA):TI:=fun σ H R=>ta σ H λZ Y=>∃j:Int,Z=[.int j]/\-(2 ^ 62)<=j/\j<2 ^ 62/\R (uz 0 j.toNat) Y
def Vz (ta:TA):TI:=fun σ H R=>ta σ H λZ Y=>∃i j:Int,Z=[.int i,.int j]/\(-(2 ^ 62)<=i/\i<2 ^ 62/\-(2 ^ 62)<=j/\j<2 ^ 62)/\R (uz i (j-i).toNat) Y
def OF {a:Ġ} {ta:TA} {p pos:Pos} (hg:Gl X "range") (hm:X.mg "range"=none) (ha:PA X [a] ta) (hs:Ë [a] X.env=[(false,ļ a X.env)]:=by rfl):PI X tg (.Call (.Name "range" p) [a] [] pos) (Vy ta):=by
 intro Y s σ H R I h;refine Call_ (qv I hg hm boot_range (Ŕ (aH (ha pos Y s σ H _ I h) λS Q ⟨P,O,W,V,Z⟩=>?_) hs rfl));obtain⟨j,e,Z,U,q⟩:=Z;subst e
 cases V with
 |cons r T =>
  cases T;obtain⟨t,rfl⟩:=r;exact call_range_1 (Gu W (by omega) (by omega) Z U (by simpa using q))
def OG {a b:Ġ} {ta:TA} {p pos:Pos} (hg:Gl X "range") (hm:X.mg "range"=none) (ha:PA X [a,b] ta) (hs:Ë [a,b] X.env=[(false,ļ a X.env),(false,ļ b X.env)]:=by rfl) (cX:Ë [b] X.env=[(false,ļ b X.env)]:=by rfl) :
  PI X tg (.Call (.Name "range" p) [a,b] [] pos) (Vz ta):=by
 intro W s σ H R I h;refine Call_ (qv I hg hm boot_range (Ŕ (aH (ha pos W s σ H _ I h) λO N ⟨M,L,V,U,Z⟩=>?_) (by rw[hs,cX]) (by rw[cX];rfl)));obtain⟨i,j,e,⟨Z,T,S,Q⟩,q⟩:=Z;subst e
 cases U with
 |cons r Y =>
  cases Y with
  |cons P Y =>
   cases Y;obtain⟨t,rfl⟩:=r;obtain⟨K,rfl⟩:=P;exact call_range_2 (Gu V Z T S Q q)
def Kg (wi:TI) (g:TG) (tb:TS):TS:=λD σ H=>wi σ H λJ V=>∃W:Nat->Nat->St->Hp->Prop,(∃m,W 0 m σ V)/\∀i m σ H,W i m σ H ->
 (J.stop i H/\D.nx σ H)\/(J.go i H/\∃N:St->Hp->Prop,(∀ Y Z,N Y Z->∃X,X < m/\W (i+1) X Y Z)/\∀x Z,J.pB i H x Z->g x σ Z fun U T=>tb { D with nx:=N,ct:=N,bk:=D.nx } U T)
noncomputable def mQ (fp:List Ú) (h:Ī):List (Ú×Obj):=fp.filterMap λb=>(h.get? b).map λo=>(b,o)
def pY (hb:b∈fp) (e:h.get? b=some o):(b,o)∈mQ fp h:=aaJ.mpr ⟨b,hb,by rw[e];rfl⟩
def FT (hp:p∈mQ fp h):p.1∈fp/\h.get? p.1=some p.2:=by
 obtain⟨b,Z,e⟩:=aaJ.mp hp
 cases q:h.get? b with
 |none=>rw[q] at e;cases e
 |some o =>
  rw[q] at e;have Y:(b,o)=p:=ab4 e;subst Y;exact⟨Z,q⟩
def Inv.pinned {π:List (Ú×Obj)} {σ:St} {H:Hp} {s:Ä} {fp:List Ú} (I:Inv X π σ H s) (hf:∀b∈fp,fg X π H b) (ho:∀b∈fp,∃o,s.heap.get? b=some o/\∀v,o.data≠.cell v):Inv X (π++mQ fp s.heap) σ H s :=
 I.lQ λp W=>(ċ.mp W).elim (λz=>I.pin p (Î _ z)) λz=>by
  obtain⟨Z,e⟩:=FT z;obtain⟨f0,f1,f2,_⟩:=hf p.1 Z;obtain⟨o,Y,d⟩:=ho p.1 Z;rw[e] at Y;cases Y;exact⟨e,f0,f1,f2,d⟩
def Inv.lP {π pl:List (Ú×Obj)} {σ:St} {H:Hp} {s:Ä} (I:Inv X (π++pl) σ H s):Inv X π σ H s:=I.lQ λp Z=>I.pin p (Î _ (ā _ Z))
def TH {iter:Ġ} {body:List abM} {wi:TI} {g:TG} {tb:TS} {pos:Pos} (hp:PassesOwn (ã X.prog X.w) X.A X.env X.xe) (hc:X.calm=true) (hi:PI X tg iter wi) (hg:PG X tg g) (hb:cS X body tb)
  (hs:∀x,ü iter X.env x=pure x:=by intro _;rfl):PS X (.For tg iter body [] pos) (Kg wi g tb):=by
 intro R s σ H D I h;refine wpAny_For (aH (hi R s σ H _ I h) λv s1 p=>aH p λgp s2 l=>?_) hs;obtain⟨it,Q,E,J,k,e,j,T,c,f2,W,⟨m0,a⟩,turn⟩:=l;subst e;have stat:∀{U:Hp},(∀b∈Q,U b=none)->∀b∈Q,fg X R U b:=λhn b hb=>⟨hn b hb,(f2 b hb).2⟩;refine codeAny_forLoop_any (λn C=>∃i P U,Inv X R P U C/\E i C.heap/\(∀b∈Q,U b=none)/\W i n P U) ?_ m0 ⟨0,σ,k,j,c,λb hb=>(f2 b hb).1,a⟩;rintro n B ⟨i,O,L,z,y,t,w3⟩
 rcases turn i n O L w3 with ⟨stop,qn⟩ | ⟨go,N,hN,step⟩
 ·refine aaK hp (aH (T.done X rfl rfl rfl hc i R B O L X.xe z (stat t) y stop) λr s4 ⟨K,I4⟩=>?_)
  subst K;exact wpAny_execs_nil ⟨O,L,I4,qn⟩
 ·refine aaK hp (aH (T.item X rfl rfl rfl hc i R B O L X.xe z (stat t) y go) λr s4 ⟨u,K,h4⟩=>?_)
  subst K;refine aaK hp (aH h4 λ_ s5 ⟨x,q,I5,r5,y5,G,uA⟩=>?_);have uB:=I5.pinned (stat uA) (T.obj _ _ G);refine aaK hp (aH (hg _ s5 O q x u _ uB r5 (step x q y5)) λ_ s6 ⟨X5,H6,I6,q6⟩=>?_);refine aaK hp (aH (hb _ s6 X5 H6 _ I6 q6) λf F S=>?_);have again:∀{Z:St} {Y:Hp},Inv X (R++mQ Q s5.heap) Z Y F->N Z Y->∃m,m<n/\∃i P U,Inv X R P U F/\E i F.heap/\(∀b∈Q,U b=none)/\W i m P U:=λ{Z Y} V M=>by
   obtain⟨m',hm,w7⟩:=hN Z Y M;refine⟨m',hm,i+1,Z,Y,V.lP,T.keep _ _ _ G λb hb o e=>(V.pin (b,o) (Î _ (Î _ (pY hb e)))).1,λb hb=>?_,w7⟩;obtain⟨o,e,d⟩:=T.obj _ _ G b hb;exact(V.pin (b,o) (Î _ (Î _ (pY hb e)))).2.1
  cases f with
  |next=>obtain⟨Z,Y,V,M⟩:=S;exact again V M
  |cont=>obtain⟨Z,Y,V,M⟩:=S;exact again V M
  |brk=>obtain⟨Z,Y,V,S⟩:=S;exact⟨Z,Y,V.lP,S⟩
  |ret v=>obtain⟨x7,Z,Y,V,r7,S⟩:=S;exact⟨x7,Z,Y,V.lP,r7,S⟩
end
abbrev R2:=V->V->Hp->VK->Prop
def bt (X:Cx) (f:Å->Å->Sem Å) (r:R2):Prop :=
 ∀(Z:List (Ú×Obj)) (s:Ä) (σ:St) (H:Hp) (x y:V) (v u:Å) (Q:VK),Inv X Z σ H s->RelV x v->RelV y u->r x y H Q ->
  Û (ã X.prog X.w) X.A (f v u) (EP X Z σ Q) X.xe s
def uC (X:Cx) (f:Å->Sem Å) (r:V->Hp->VK->Prop):Prop :=
 ∀(Z:List (Ú×Obj)) (s:Ä) (σ:St) (H:Hp) (x:V) (v:Å) (Q:VK),Inv X Z σ H s->RelV x v->r x H Q ->
  Û (ã X.prog X.w) X.A (f v) (EP X Z σ Q) X.xe s
def bY (X:Cx) (f:Å) (r:List V->Hp->VK->Prop):Prop :=
 ∀(Z:List (Ú×Obj)) (s:Ä) (σ:St) (H:Hp) (Y:List V) (W:List Å) (Q:VK),Inv X Z σ H s->Vals Y W->r Y H Q ->
  Û (ã X.prog X.w) X.A (call f W) (EP X Z σ Q) X.xe s
def W5 (X:Cx) (r:V->Hp->(Bool->Hp->Prop)->Prop):Prop :=
 ∀(Z:List (Ú×Obj)) (s:Ä) (σ:St) (H:Hp) (x:V) (v:Å) (Q:Bool->Hp->Prop),Inv X Z σ H s->RelV x v->r x H Q ->
  Û (ã X.prog X.w) X.A (truthy v) (TP X Z σ Q) X.xe s
def uD (r:R2) (ta tb:TE):TE:=fun σ H Q=>ta σ H λx Z=>tb σ Z λy Y=>r x y Y Q
def X6 (r:V->Hp->VK->Prop) (ta:TE):TE:=fun σ H Q=>ta σ H λx Z=>r x Z Q
def rI (C:Int->Int->Prop) (g:Int->Int->V):R2:=λx y H Q=>∃i j,x=.int i/\y=.int j/\C i j/\Q (g i j) H
def pC (g:Int->Int->V):R2:=λx y H Q=>∃i j,x=.int i/\y=.int j/\Q (g i j) H
def rU (g:Int->V):V->Hp->VK->Prop:=λx H Q=>∃i,x=.int i/\Q (g i) H
section
variable {X:Cx} {a b c:Ġ} {ta tb tc:TE} {pos:Pos}
def BX (ha:PE X a ta) (hb:PE X b tb) {π:List (Ú×Obj)} {s:Ä} {σ:St} {H:Hp} {R:V->V->Hp->Prop} (I:Inv X π σ H s)
  (h:ta σ H λx H1=>tb σ H1 λy H2=>R x y H2) {Q:Å->Ä->Prop} {f:Å->Å->Sem Å}
  (hf:∀v u s2 x y H2,Inv X π σ H2 s2->RelV x v->RelV y u->R x y H2->Û (ã X.prog X.w) X.A (f v u) Q X.xe s2) :
  Û (ã X.prog X.w) X.A (ļ a X.env) (λv bb=>Û (ã X.prog X.w) X.A (ļ b X.env) (λu qO=>Û (ã X.prog X.w) X.A (f v u) Q X.xe qO) X.xe bb) X.xe s:=by
 refine aH (ha π s σ H _ I h) λv Z ⟨x,H1,Y,W,U⟩=>?_;refine aH (hb π Z σ H1 _ Y U) λu s2 ⟨y,H2,T,S,P⟩=>?_;exact hf v u s2 x y H2 T W S P
def VA (ho:bt X (ń op) r) (ha:PE X a ta) (hb:PE X b tb):PE X (.BinOp a op b pos) (uD r ta tb):=by
 intro Z s σ H Q I h;exact wpAny_BinOp (BX ha hb I h λv u Y x y W V U T q=>ho Z Y σ W x y v u Q V U T q)
def VB {op:UnaryOp} {r:V->Hp->VK->Prop} (ho:uC X (unaryOp op) r) (ha:PE X a ta):PE X (.UnaryOp op a pos) (X6 r ta):=by
 intro Z s σ H Q I h;exact UnaryOp_ (aH (ha Z s σ H _ I h) λv Y ⟨x,W,U,T,S⟩=>ho Z Y σ W x v Q U T S)
def yi {C:Int->Int->Prop} {g:Int->Int->Int}
 (rule:∀(i j:Int) (t u:Tok) (s:Ä) (Q:Å->Ä->Prop) (E:Å->Ä->Prop),C i j->Q (.int (g i j) s.toks) { s with toks:=s.toks+1 }->Û (ã X.prog X.w) X.A (f (.int i t) (.int j u)) Q E s) :
  bt X f (rI C λi j=>.int (g i j)):=by
 intro U s σ H x y v u Q I Z Y h;obtain⟨i,j,rfl,rfl,W,q⟩:=h;obtain⟨t,rfl⟩:=Z;obtain⟨V,rfl⟩:=Y;exact rule i j t V s _ _ W ⟨.int (g i j),H,I.tok _,⟨_,rfl⟩,q⟩
def Kh {g:Int->Int->Int}
 (rule:∀(i j:Int) (t u:Tok) (s:Ä) (Q:Å->Ä->Prop) (E:Å->Ä->Prop),Q (.int (g i j) s.toks) { s with toks:=s.toks+1 }->Û (ã X.prog X.w) X.A (f (.int i t) (.int j u)) Q E s) :
  bt X f (pC λi j=>.int (g i j)):=by
 intro V s σ H x y v u Q I Z Y h;obtain⟨i,j,rfl,rfl,q⟩:=h;obtain⟨t,rfl⟩:=Z;obtain⟨W,rfl⟩:=Y;exact rule i j t W s _ _ ⟨.int (g i j),H,I.tok _,⟨_,rfl⟩,q⟩
def BY {g:Int->Int->Bool}
 (rule:∀(i j:Int) (t u:Tok) (s:Ä) (Q:Å->Ä->Prop) (E:Å->Ä->Prop),Q (.bool (g i j)) s->Û (ã X.prog X.w) X.A (f (.int i t) (.int j u)) Q E s) :
  bt X f (pC λi j=>.bl (g i j)):=by
 intro V s σ H x y v u Q I Z Y h;obtain⟨i,j,rfl,rfl,q⟩:=h;obtain⟨t,rfl⟩:=Z;obtain⟨W,rfl⟩:=Y;exact rule i j t W s _ _ ⟨.bl (g i j),H,I,rfl,q⟩
def W6 (i j:Int):Prop:=0<j/\j<1073741824
def W7 (i j:Int):Prop:=0<=j/\j<=1000000/\i.natAbs<2 ^ 64
def xB (i j:Int):Prop:=(-(2 ^ 64)<i/\i<2 ^ 64)\/(-(2 ^ 64)<j/\j<2 ^ 64)
def xB.ok (h:xB i j):IntMulOk i j:=by
 rcases h with ⟨Z,Y⟩ | ⟨Z,Y⟩
 ·exact .of_left (intBits_le_64 Z Y)
 ·exact .of_right (intBits_le_64 Z Y)
def TJ:bt X (ń .Add) (pC λi j=>.int (i+j)):=Kh λ_ _ _ _ _ _ _ q=>add_int q
def TL:bt X (ń .Sub) (pC λi j=>.int (i-j)):=Kh λ_ _ _ _ _ _ _ q=>sub_int q
def TM:bt X (ń .Mult) (rI xB λi j=>.int (i*j)):=yi λ_ _ _ _ _ _ _ Z q=>mul_int q Z.ok
def RL:bt X (ń .FloorDiv) (rI W6 λi j=>.int (i / j)):=yi λi j _ _ _ _ _ Z q=>by
 have Y:(0:Int)<j:=Z.1;have W:j<1073741824:=Z.2;exact floordiv_int (by omega) (by rw[Int.fdiv_eq_ediv_of_nonneg i (by omega)];exact q) (.inl (PyProof.noPylong_small (by omega)))
def TN:bt X (ń .Mod) (rI (λ_ j=>0<j) λi j=>.int (i % j)):=yi λi j _ _ _ _ _ Z q=>by
 have Y:(0:Int)<j:=Z;exact mod_int' (by omega) (by rw[Int.fmod_eq_emod_of_nonneg i (by omega)];exact q)
def TQ:bt X (ń .Pow) (rI W7 λi j=>.int (i ^ j.toNat)):=yi λ_ _ _ _ _ _ _ Z q=>pow_int_small Z.1 Z.2.1 Z.2.2 q
def X7 {g:Int->Int}
 (rule:∀(i:Int) (t:Tok) (s:Ä) (Q:Å->Ä->Prop) (E:Å->Ä->Prop),Q (.int (g i) s.toks) { s with toks:=s.toks+1 }->Û (ã X.prog X.w) X.A (f (.int i t)) Q E s) :
  uC X f (rU λi=>.int (g i)):=by
 intro Y s σ H x v Q I Z h;obtain⟨i,rfl,q⟩:=h;obtain⟨t,rfl⟩:=Z;exact rule i t s _ _ ⟨.int (g i),H,I.tok _,⟨_,rfl⟩,q⟩
def TR:uC X (unaryOp .USub) (rU λi=>.int (-i)):=X7 λ_ _ _ _ _ q=>neg_int q
end
noncomputable def BZ:V->V->Bool
 | .ao,.ao=>true | .ao,.int _=>true | .int _,.ao=>true | .ao,.bl _=>true | .bl _,.ao=>true | .ao,.str _=>true | .str _,.ao=>true
 | .int _,.int _=>true | .bl _,.bl _=>true | .str _,.str _=>true | .iV _,.iV _=>true
 | .int _,.str _=>true | .str _,.int _=>true | .bl _,.str _=>true | .str _,.bl _=>true
 |_,_=>false
def X8:R2:=λx y H Q=>BZ x y=true/\Q (.bl (decide (x=y))) H
def X9:R2:=λx y H Q=>BZ x y=true/\Q (.bl (!decide (x=y))) H
def He:decide (V.int i=V.int j)=(i==j):=by
 rw[ĳ];simp
def Ic:decide (V.bl i=V.bl j)=(i==j):=by
 rw[ĳ];simp
def zX:decide (V.str i=V.str j)=(i==j):=by
 rw[ĳ];simp
def Hf:decide (V.iV i=V.iV j)=(i.toList==j.toList):=by
 rw[ĳ];cases i;cases j;simp
section
variable {X:Cx} {a b c:Ġ} {ta tb tc:TE} {pos:Pos}
def cI {π:List (Ú×Obj)} {σ:St} {H:Hp} {s:Ä} {Q:VK} {k k':Bool} (I:Inv X π σ H s) (q:Q (.bl k) H) (e:k=k'):EP X π σ Q (.bool k') s:=by
 subst e;exact⟨.bl k,H,I,rfl,q⟩
def VD:bt X (Ė .Eq) X8:=by
 intro U s σ H x y v u Q I V Z h;obtain⟨hs,q⟩:=h
 cases x with
 |ao =>
  cases V
  cases y with
  |ao=>cases Z;exact PySem.EqNone.eq_none_none (cI I q (by simp))
  |bl j=>cases Z;exact PySem.EqNone.eq_none_bool (cI I q (by simp))
  |int j=>obtain⟨Y,rfl⟩:=Z;exact PySem.EqNone.eq_none_int (cI I q (by simp))
  |str j=>obtain⟨Y,rfl⟩:=Z;exact PySem.EqNone.eq_none_str (cI I q (by simp))
  |_=>exact absurd (show false=true from hs) Õ
 |bl i =>
  cases V
  cases y with
  |ao=>cases Z;exact PySem.EqNone.eq_bool_none (cI I q (by simp))
  |bl j=>cases Z;exact eq_bool (cI I q Ic)
  |str j=>obtain⟨Y,rfl⟩:=Z;exact PySem.EqMixed.eq_bool_str (cI I q (by simp))
  |_=>exact absurd (show false=true from hs) Õ
 |int i =>
  obtain⟨t,rfl⟩:=V
  cases y with
  |ao=>cases Z;exact PySem.EqNone.eq_int_none (cI I q (by simp))
  |int j=>obtain⟨Y,rfl⟩:=Z;exact eq_int (cI I q He)
  |str j=>obtain⟨Y,rfl⟩:=Z;exact PySem.EqMixed.eq_int_str (cI I q (by simp))
  |_=>exact absurd (show false=true from hs) Õ
 |str i =>
  obtain⟨t,rfl⟩:=V
  cases y with
  |ao=>cases Z;exact PySem.EqNone.eq_str_none (cI I q (by simp))
  |bl j=>cases Z;exact PySem.EqMixed.eq_str_bool (cI I q (by simp))
  |int j=>obtain⟨Y,rfl⟩:=Z;exact PySem.EqMixed.eq_str_int (cI I q (by simp))
  |str j=>obtain⟨Y,rfl⟩:=Z;exact eq_str (cI I q zX)
  |_=>exact absurd (show false=true from hs) Õ
 |iV i =>
  obtain⟨t,rfl⟩:=V
  cases y with
  |iV j=>obtain⟨Y,rfl⟩:=Z;exact PySem.W.eq_bytes (cI I q Hf)
  |_=>exact absurd (show false=true from hs) Õ
 |_=>cases y<;>exact absurd (show false=true from hs) Õ
def Jj:bt X (Ė .NotEq) X9:=by
 intro U s σ H x y v u Q I V Z h;obtain⟨hs,q⟩:=h
 cases x with
 |ao =>
  cases V
  cases y with
  |ao=>cases Z;exact PySem.EqNone.ne_none_none (cI I q (by simp))
  |bl j=>cases Z;exact PySem.EqNone.ne_none_bool (cI I q (by simp))
  |int j=>obtain⟨Y,rfl⟩:=Z;exact PySem.EqNone.ne_none_int (cI I q (by simp))
  |str j=>obtain⟨Y,rfl⟩:=Z;exact PySem.EqNone.ne_none_str (cI I q (by simp))
  |_=>exact absurd (show false=true from hs) Õ
 |bl i =>
  cases V
  cases y with
  |ao=>cases Z;exact PySem.EqNone.ne_bool_none (cI I q (by simp))
  |bl j=>cases Z;exact ne_bool (cI I q (Ľ not Ic))
  |str j=>obtain⟨Y,rfl⟩:=Z;exact PySem.EqMixed.ne_bool_str (cI I q (by simp))
  |_=>exact absurd (show false=true from hs) Õ
 |int i =>
  obtain⟨t,rfl⟩:=V
  cases y with
  |ao=>cases Z;exact PySem.EqNone.ne_int_none (cI I q (by simp))
  |int j=>obtain⟨Y,rfl⟩:=Z;exact ne_int (cI I q (Ľ not He))
  |str j=>obtain⟨Y,rfl⟩:=Z;exact PySem.EqMixed.ne_int_str (cI I q (by simp))
  |_=>exact absurd (show false=true from hs) Õ
 |str i =>
  obtain⟨t,rfl⟩:=V
  cases y with
  |ao=>cases Z;exact PySem.EqNone.ne_str_none (cI I q (by simp))
  |bl j=>cases Z;exact PySem.EqMixed.ne_str_bool (cI I q (by simp))
  |int j=>obtain⟨Y,rfl⟩:=Z;exact PySem.EqMixed.ne_str_int (cI I q (by simp))
  |str j=>obtain⟨Y,rfl⟩:=Z;exact ne_str (cI I q (Ľ not zX))
  |_=>exact absurd (show false=true from hs) Õ
 |iV i =>
  obtain⟨t,rfl⟩:=V
  cases y with
  |iV j=>obtain⟨Y,rfl⟩:=Z;exact PySem.W.ne_bytes (cI I q (Ľ not Hf))
  |_=>exact absurd (show false=true from hs) Õ
 |_=>cases y<;>exact absurd (show false=true from hs) Õ
def VE:bt X (Ė .LtE) (pC λi j=>.bl (decide (i<=j))):=BY λ_ _ _ _ _ _ _ q=>le_int q
def VF:bt X (Ė .Gt) (pC λi j=>.bl (decide (j<i))):=BY λ_ _ _ _ _ _ _ q=>gt_int q
def VG:bt X (Ė .GtE) (pC λi j=>.bl (decide (j<=i))):=BY λ_ _ _ _ _ _ _ q=>ge_int q
def OH:bt X (Ė .In) (λx y H Q=>∃i j,x=.str i/\y=.str j/\Q (.bl (!(Ĵ j i 0 j.length 1).isEmpty)) H):=by
 intro W s σ H x y v u Q I Z Y h;obtain⟨i,j,rfl,rfl,q⟩:=h;obtain⟨t,rfl⟩:=Z;obtain⟨V,rfl⟩:=Y;exact in_str (cI I q rfl)
def bF (b:Ġ) (h:op≠.In:=by decide) (h2:op≠.NotIn:=by decide):aaL op b=false:=by
 have e1:(op==CmpOp.In)=false:=by cases op<;>first|rfl|exact absurd rfl h
 have e2:(op==CmpOp.NotIn)=false:=by cases op<;>first|rfl|exact absurd rfl h2
 cases b<;>simp[aaL,e1,e2]
def RM (ho:bt X (Ė op) r) (ha:PE X a ta) (hb:PE X b tb) (hm:aaL op b=false):PE X (.Compare a [op] [b] pos) (uD r ta tb):=by
 intro Z s σ H Q I h;exact wpAny_Compare1 (BX ha hb I h λv u Y x y W V U T q=>ho Z Y σ W x y v u Q V U T q) hm
def xk (t:TE):TT:=fun σ H Q=>t σ H λx Z=>∃k,x=.bl k/\Q k Z
def RN {op:CmpOp} {r:R2} (ho:bt X (Ė op) r) (ha:PE X a ta) (hb:PE X b tb) (hm:aaL op b=false):PT X (.Compare a [op] [b] pos) (xk (uD r ta tb)):=by
 intro Z s σ H Q I h;refine wpAny_isTrue_Compare1 (aH (ha Z s σ H _ I h) λv Y ⟨x,W,V,U,T⟩=>aH (hb Z Y σ W _ V T) λu S ⟨y,R,P,O,N⟩ =>
  aH (ho Z S σ R x y v u _ P U O N) λc G ⟨z,M,L,K,k,e,J⟩=>?_) hm
 subst e;cases K;exact ő ⟨M,L,J⟩
def Ie (r r':R2) (ta tb tc:TE):TE:=fun σ H Q=>ta σ H λx Y=>tb σ Y λy X=>r x y X λz Z=>∃k,z=.bl k /\
 (if k=true then tc σ Z λW V=>r' y W V Q else Q (.bl false) Z)
def P0 {op rk:CmpOp} {r r':R2} (ho:bt X (Ė op) r) (fI:bt X (Ė rk) r') (ha:PE X a ta) (hb:PE X b tb) (hc:PE X c tc)
  (hm:lastMarks [op,rk] [b,c]=false:=by with_unfolding_all rfl):PE X (.Compare a [op,rk] [b,c] pos) (Ie r r' ta tb tc):=by
 intro Z s σ H Q I h;refine Compare_chain (aH (ha Z s σ H _ I h) λv T ⟨x,S,R,P,O⟩=>chain_link (aH (hb Z T σ S _ R O) λu N ⟨y,M,L,Y,K⟩ =>
  aH (ho Z N σ M x y v u _ L P Y K) λd J ⟨z,W,V,G,k,e,U⟩=>?_)) hm
 subst e;cases G;refine ő ?_
 cases k with
 |false=>exact ite_ff ⟨.bl false,W,V,rfl,U⟩
 |true=>exact ite_tt (chain_last (aH (hc Z J σ W _ V U) λF E ⟨D,C,B,A,w⟩=>fI Z E σ C y D u F Q B Y A w))
def oY (K:Ē) (x:V) (H:Hp) (k:Bool):Prop :=
 match x with
 | .ao=>k=false
 | .bl b=>k=b
 | .int i=>k=(i != 0)
 | .str y=>y.length<=Ñ/\k=((y.length:Int) != 0)
 | .iV y=>y.size<=Ñ/\k=((y.size:Int) != 0)
 | .ref p=>(∃Z,aZ K H p Z/\k=!Z.isEmpty)\/(∃Z,bp K H p Z/\k=!Z.isEmpty)\/∃Y,H p=some (.dK Y)/\k=!Y.isEmpty
 |_=>False
def NO {κ:Type} {aB:List (κ×V)} {vs:List (κ×Å)} (r:KV aB vs):(!vs.isEmpty)=!aB.isEmpty:=by
 cases r<;>rfl
def Fu (r:Vals xs its):(!its.toArray.isEmpty)=!xs.isEmpty:=by
 cases r<;>simp
def ox:(Ñ:Nat)<2 ^ 63:=by rw[ŕ];decide
def AB:W5 X (λx H Q=>∃k,oY X.K x H k/\Q k H):=by
 intro J s σ H x v Q I U h;obtain⟨k,e,q⟩:=h;have G:=ox;have hs:Ñ=16777216:=ŕ
 cases x with
 |ao =>
  cases U;have Z:k=false:=e;subst Z;exact truthy_none ⟨H,I,q⟩
 |bl b =>
  cases U;have Z:k=b:=e;subst Z;exact ő ⟨H,I,q⟩
 |int i =>
  obtain⟨t,rfl⟩:=U;have Z:k=(i != 0):=e;subst Z;exact PySem.P.truthy_int ⟨H,I,q⟩
 |str y =>
  obtain⟨t,rfl⟩:=U;obtain⟨M,Z⟩:y.length<=Ñ/\k=((y.length:Int) != 0):=e;subst Z;exact PySem.P.truthy_str (by omega) ⟨H,I.tok _,q⟩
 |iV y =>
  obtain⟨t,rfl⟩:=U;obtain⟨M,Z⟩:y.size<=Ñ/\k=((y.size:Int) != 0):=e;subst Z;exact PySem.W.truthy_bytes (by omega) ⟨H,I.tok _,q⟩
 |ref p =>
  cases U;have Z:(∃V,aZ X.K H p V/\k=!V.isEmpty)\/(∃V,bp X.K H p V/\k=!V.isEmpty)\/∃T,H p=some (.dK T)/\k=!T.isEmpty:=e
  rcases Z with ⟨V,S,Z⟩ | ⟨V,S,Z⟩ | ⟨T,S,Z⟩
  ·subst Z
   obtain⟨its,r,O,N⟩:=I.list S;have Y:=r.length;exact wpAny_truthy_list O.isList (by simp only[Ù];omega) ⟨H,I.tok _,by rw[Fu r];exact q⟩
  ·subst Z
   obtain⟨its,r,O,N⟩:=I.tuple S;have Y:=r.length;exact truthy_tuple O (by simp only[Ù];omega) ⟨H,I.tok _,by rw[Fu r];exact q⟩
  ·subst Z
   obtain⟨N,L,R,r,m⟩:T.length<=Ñ/\(p==abu)=false/\∃R,KV T R/\s.heap.DictOf (wb X.prog X.w) p R:=I.aC p _ S;have Y:T.length=R.length:=Paired.length r;exact wpAny_truthy_dict L m (by omega) ⟨H,I.tok _,by rw[NO r];exact q⟩
 |_=>exact(show False from e).elim
def P1 (ha:PE X a ta) (he:∀whole,isTrue a X.env whole=(do let v <- whole;abN a.pos;abx [v] (truthy v))) :
  PT X a (fun σ H Q=>ta σ H λx H'=>∃k,oY X.K x H' k/\Q k H'):=by
 intro Z s σ H Q I h;exact isTrue_plain (aH (ha Z s σ H _ I h) λv Y ⟨x,W,V,U,T⟩=>AB Z Y σ W x v Q V U T) (he _)
def NP:bt X (ń .Add) (λx y H Q=>∃i j,x=.str i/\y=.str j/\i.length+j.length<=Ñ/\Q (.str (i++j)) H):=by
 intro U s σ H x y v u Q I Z Y h;obtain⟨i,j,rfl,rfl,W,q⟩:=h;obtain⟨t,rfl⟩:=Z;obtain⟨V,rfl⟩:=Y;exact add_str (λV T=>⟨.str (i++j),H,I.tok _,⟨_,rfl⟩,q⟩) W
def vals1 (r:Vals [x] us):∃u,us=[u]/\RelV x u:=by
 cases r with
 |cons Z Y=>cases Y;exact⟨_,rfl,Z⟩
def vals2 (r:Vals [x,y] us):∃u w',us=[u,w']/\RelV x u/\RelV y w':=by
 cases r with
 |cons Z Y =>
  cases Y with
  |cons X W=>cases W;exact⟨_,_,rfl,Z,X⟩
def OI (hc:X.calm=true):bY X (.builtin "max") (λxs H Q=>∃i j,xs=[.int i,.int j]/\Q (.int (if j > i then j else i)) H):=by
 intro Y s σ H xs W Q I r h;obtain⟨i,j,rfl,q⟩:=h;obtain⟨u,V,rfl,⟨t,rfl⟩,⟨U,rfl⟩⟩:=vals2 r;refine max_two_ints (I.ok.hd hc) λT S k=>⟨_,H,I.kept k,?_,q⟩;by_cases Z:j > i
 ·rw[Þ Z,Þ Z];exact⟨_,rfl⟩
 ·rw[ì Z,ì Z];exact⟨_,rfl⟩
def OJ (hc:X.calm=true):bY X (.builtin "min") (λxs H Q=>∃i j,xs=[.int i,.int j]/\Q (.int (if j<i then j else i)) H):=by
 intro Y s σ H xs W Q I r h;obtain⟨i,j,rfl,q⟩:=h;obtain⟨u,V,rfl,⟨t,rfl⟩,⟨U,rfl⟩⟩:=vals2 r;refine min_two_ints (I.ok.hd hc) λT S k=>⟨_,H,I.kept k,?_,q⟩;by_cases Z:j<i
 ·rw[Þ Z,Þ Z];exact⟨_,rfl⟩
 ·rw[ì Z,ì Z];exact⟨_,rfl⟩
def MI:bY X (.type "str") (λxs H Q=>∃i,xs=[.int i]/\i.natAbs.log2<1920/\Q (.str (toString i)) H):=by
 intro Y s σ H xs W Q I r h;obtain⟨i,rfl,Z,q⟩:=h;obtain⟨u,rfl,t,rfl⟩:=vals1 r;exact PySem.P.str_of_int Z ⟨.str _,H,I.tok _,⟨_,rfl⟩,q⟩
end
structure aan (h:Ī) (x dx C:Ú) (mA:Str->Option Å):Prop where
 obj:h.get? x=some (PySem.W.instObj C dx)
 ns:h.Ns1 dx mA
 ne:dx≠x
section
variable {prog:â} {w:Ą} {A:î} {E:Å->Ä->Prop} {s:Ä} {K:Ē} {x dx C f:Ú} {mA:Str->Option Å} {name:Str} {v:Å}
end
section
variable {P:â} {w:Ą} {H H':Hp} {h h':Ī} {a C dx:Ú} {fs X3:List (Str×V)}
end
structure Ya (K:Ē) (C:Ú):Prop where
 pg:PySem.W.plainGet K C Str.empty=true
 hd:PySem.W.hasDictIn K C=true
 po:PySem.W.plainOver K C=true
 sa:abe K (.ref C) "__setattr__"=some (some (.builtin "object.__setattr__"))
structure Con (K:Ē) (C:Ú) (f:Str) (v:V) (u:Å):Prop where
 at_:abe K (.ref C) f=some (some u)
 rel:RelV v u
 get:PySem.W.specialIn K u "__get__"=some none
 cp:PySem.W.copiedNames.contains f=false
structure Meth (K:Ē) (C:Ú) (m:Str) (f:Ú):Prop where
 at_:abe K (.ref C) m=some (some (.ref f))
 fn:PySem.W.isFn K (.ref f)=true
 kp:ı K (.ref f)=true
section
variable {X:Cx} {π:List (Ú×Obj)} {σ:St} {H:Hp} {s:Ä} {a C dx:Ú} {fs:List (Str×V)} {f:Str} {v:V} {A:î} {E:Å->Ä->Prop}
end
section
variable {X:Cx} {o e value:Ġ} {f:Str} {pos pos' oZ:Pos} {ta tv:TE}
end
section
variable {X:Cx} {π:List (Ú×Obj)} {σ:St} {H:Hp} {s:Ä} {A:î} {E:Å->Ä->Prop} {Q:Å->Ä->Prop} {c:Å} {b:Bool}
inductive jY (K:Ē) (H:Hp):V->Å->Prop where
 |ao:jY K H .ao (.type "NoneType")
 |bl (x:Bool):jY K H (.bl x) (.type "bool")
 |int (i:Int):jY K H (.int i) (.type "int")
 |str (x:Str):jY K H (.str x) (.type "str")
 |uw (x:UInt64):jY K H (.uw x) (.type "float")
 |lst {a:Ú} {xs:List V} (e:H a=some (.lst xs)):jY K H (.ref a) (.type "list")
 |aV {a:Ú} {o:Obj} {xs:List V} (e:H a=some (.aV o (.lst xs))):jY K H (.ref a) (.type "list")
 |tup {a:Ú} {xs:List V} (e:H a=some (.tup xs)):jY K H (.ref a) (.type "tuple")
 |dK {a:Ú} {aB:List (Key×V)} (e:H a=some (.dK aB)):jY K H (.ref a) (.type "dict")
 |dT {a:Ú} {aB:List (List Key×V)} (e:H a=some (.dT aB)):jY K H (.ref a) (.type "dict")
 |ins {a C dx:Ú} {fs:List (Str×V)} (e:H a=some (.ins C dx fs)) (cl:Ya K C) (ha:abe K (.ref C) "__class__"=some (some (.builtin "object.__class__")))
   (hn:PySem.W.specialIn K (.builtin "object.__class__") "__get__"=some (some (.builtin "getset_descriptor.__get__"))) (htk:PySem.W.takesIn K (.builtin "object.__class__")=some true)
   (hm:PySem.W.mroIn K C (.type "object")=some true):jY K H (.ref a) (.ref C)
end
structure bP (k:Nat) (A:î):Prop where
 hd:A.handled=none
 dp:A.depth+3*k+5<recursionLimit
 un:A.units+16*k+200<abV
 gd:A.guards=some []
def bP.mono (r:bP k A) (h:j<=k):bP j A:=⟨r.hd,by have:=r.dp;omega,by have:=r.un;omega,r.gd⟩
theorem bP.deeper (r:bP (k+1) A) (env:Env):bP k (A.deeper env) :=
 ⟨r.hd,by have:=r.dp;show A.depth+1+3*k+5 < _;omega,by have:=r.un;show A.units+3+16*k+200 < _;omega,r.gd⟩
theorem bP.depth (r:bP k A):A.depth<recursionLimit:=by have:=r.dp;omega
def W8:TA:=λ_ H Q=>Q [] H
def VH (ta:TE) (tr:TA):TA:=fun σ H Q=>ta σ H λx Z=>tr σ Z λY X=>Q (x::Y) X
section
variable {X:Cx} {e:Ġ} {es:List Ġ} {te:TE} {t:TA} {pos:Pos}
def iI:PA X [] W8:=λ_ _ _ _ H Q I h=>Calls.spliced_nil ⟨[],H,I,.nil,h⟩
def gy (ha:PE X e te) (hr:PA X es t) (hs:Ë (e::es) X.env=(false,ļ e X.env)::Ë es X.env:=by rfl):PA X (e::es) (VH te t):=by
 intro pos Z s σ H Q I h;rw[hs];show Û _ _ (spliced ((false,ļ e X.env)::Ħ pos (Ë es X.env))) _ _ s;refine aaM (aH (ha Z s σ H _ I h) λu Y ⟨x,W,V,U,T⟩=>?_);exact aH (hr pos Z Y σ W _ V T) λM L ⟨S,R,P,O,N⟩=>⟨x::S,R,P,.cons U O,N⟩
def W9 (t:TA):TE:=fun σ H Q=>t σ H λZ Y=>Z.length<=Ñ/\∀p,Y p=none->Q (.ref p) (upd Y p (.tup Z))
def Xa (t:TA):TE:=fun σ H Q=>t σ H λZ Y=>Z.length<=Ñ/\∀p,Y p=none->Q (.ref p) (upd Y p (.lst Z))
def TU {x1} (h:PA X es t):PE X (.Tuple es x1 pos) (W9 t):=by
 intro V s σ H Q I U;refine wpAny_Tuple_spliced (aH (h pos V s σ H _ I U) λT Z ⟨S,Y,W,r,z,q⟩=>⟨by rw[<- r.length];exact z,?_⟩);have R:Y Z.heap.objs.size=none:=W.aC.fresh (ab3 _);refine⟨.ref Z.heap.objs.size,upd Y Z.heap.objs.size (.tup S),W.laid (t':=Z.toks) (λb u e=>Á _ e) (ab3 _) ?_,rfl,q _ R⟩;exact⟨z,T,r,⟨_,Í _ rfl,rfl,_,rfl⟩⟩
def Ig (h:PA X es t):PE X (.List es pos) (Xa t):=by
 intro V s σ H Q I U;refine wpAny_List_spliced (aH (h pos V s σ H _ I U) λT Z ⟨S,Y,W,r,z,q⟩=>⟨by rw[<- r.length];exact z,?_⟩);have R:Y Z.heap.objs.size=none:=W.aC.fresh (ab3 _);refine⟨.ref Z.heap.objs.size,upd Y Z.heap.objs.size (.lst S),W.laid (t':=Z.toks) (λb u e=>Á _ e) (ab3 _) ?_,rfl,q _ R⟩;exact⟨z,T,0,r,Í _ rfl⟩
end
abbrev Sp:=List V->Hp->VK->XK->Prop
abbrev iX:=List Env->Hp->Ä->XK->Å->Ä->Prop
structure qP (P:â) (w:Ą) (K:Ē) (mg:Str->Option Å) (base:Ī) (A:î) (outer:List Env) (s:Ä) (H:Hp):Prop where
 frames:A.frames=some outer
 mod:Mod K mg base
 bs:∀b o,base.get? b=some o->s.heap.get? b=some o/\H b=none
 iz:base.objs.size<=s.heap.objs.size
 iw:s.heap.FunFrames base outer
 lh:∀b∈b9 outer,H b=none
 aC:cq P w H s.heap
 bare:abU s.gens
def CE (outer:List Env) (P:â) (w:Ą) (H:Hp) (s:Ä) (Q:VK) (u:Å) (s':Ä):Prop :=
 ∃v Z,s'.os=s.os/\abU s'.gens/\Un (b9 outer) [] H Z s.heap s'.heap/\cq P w Z s'.heap/\RelV v u/\Q v Z
def CR (CX:iX) (outer:List Env) (P:â) (w:Ą) (H:Hp) (s:Ä) (Q:VK) (E:XK) (r:Result) (s':Ä):Prop :=
 match r with
 | .ok (.ret u)=>CE outer P w H s Q u s'
 | .ok _=>False
 | .error e=>CX outer H s E e s'
structure cR (P:â) (w:Ą) (K:Ē) (mg:Str->Option Å) (base:Ī) (CX:iX) (k:Nat) (f:Ú) (fd:ĝ) (ps:List Str) (sp:Sp):Prop where
 len:∀vs H Q E,sp vs H Q E->vs.length=ps.length
 run:∀(A:î) (outer:List Env) (s:Ä) (H:Hp) (args:Args) (us:List Å) (vs:List V) (Q:VK) (E:XK),bP k A->qP P w K mg base A outer s H->BindsTo s fd args (ps.zip us)->Vals vs us->sp vs H Q E ->
  δ (ã P w) A (.call (.ref f) args) (CR CX outer P w H s Q E) s
def cR.imp {P:â} {w:Ą} {K:Ē} {mg:Str->Option Å} {base:Ī} {CX:iX} {k:Nat} {f:Ú} {fd:ĝ} {ps:List Str} {sp K6:Sp} (F:cR P w K mg base CX k f fd ps sp)
  (h:∀vs H Q E,K6 vs H Q E->sp vs H Q E):cR P w K mg base CX k f fd ps K6 :=
 ⟨λvs H Q E q=>F.len vs H Q E (h _ _ _ _ q),λA outer s H args Z vs Q E Y X W V hs=>F.run A outer s H args Z vs Q E Y X W V (h _ _ _ _ hs)⟩
section
variable {X:Cx} {π:List (Ú×Obj)} {σ:St} {H:Hp} {s s':Ä}
def Inv.l0 (I:Inv X π σ H s):qP X.prog X.w X.K X.mg X.base X.A X.stack s H :=
 ⟨I.ok.frames,I.ok.mod,I.bs,à I.ok.iz I.sz,I.stack,I.sr,I.aC,I.bare⟩
def Inv.after (I:Inv X π σ H s) (h:CE X.stack X.prog X.w H s Q u s'):EP X π σ Q u s':=by
 obtain⟨v,Z,os,bare,un,Y,r,q⟩:=h;obtain⟨W,g,d,t,V⟩:=s';obtain rfl:V=s.os:=os;exact⟨v,Z,I.call (h':=W) (g':=g) (d':=d) (t':=t) (ch:=[]) un Y bare (λb z=>absurd z (by simp)),r,q⟩
end
def Jk (sp:Sp) (ai:List V) (E:XK) (t:TA):TE:=fun σ H Q=>t σ H λZ Y=>sp (Z++ai) Y Q E
def Binds (K:Ē) (fd:ĝ) (ps:List Str) (ds:List Å):Prop :=
 ∀(s:Ä) (Z:List Å),K.In s.heap->(Z++ds).length=ps.length->BindsTo s fd ⟨Z,[]⟩ (ps.zip (Z++ds))
def Binds.all {K:Ē} {fd:ĝ} {ps:List Str} (h:∀us:List Å,us.length=ps.length->bindArgs fd ⟨us,[]⟩=pure (ps.zip us)):Binds K fd ps []:=λs us _ Z=>by
 rw[þ] at Z |-;exact .of_eq (h us Z)
def Passes (CX:iX) (X:Cx) (E:XK):Prop:=∀(Y:List (Ú×Obj)) (σ:St) (H:Hp) (s:Ä) (e:Å) (Z:Ä),Inv X Y σ H s->CX X.stack H s E e Z->X.xe e Z
section
variable {X:Cx} {CX:iX} {k:Nat} {f C:Ú} {fd:ĝ} {ps:List Str} {sp:Sp} {ai:List V} {ds:List Å} {E:XK} {x m:Str} {p pos apos:Pos} {e o:Ġ} {es:List Ġ} {ta:TE} {t:TA}
def TV {π:List (Ú×Obj)} {σ:St} {H:Hp} {s:Ä} {Q:VK} {us:List Å} {vs:List V} (F:cR X.prog X.w X.K X.mg X.base CX k f fd ps sp) (hr:bP k X.A) (hb:Binds X.K fd ps ds) (hd:Vals ai ds) (hx:Passes CX X E)
  (I:Inv X π σ H s) (r:Vals vs us) (h:sp (vs++ai) H Q E):Û (ã X.prog X.w) X.A (call (.ref f) us) (EP X π σ Q) X.xe s:=by
 have Y:Vals (vs++ai) (us++ds):=r.append hd;have W:(us++ds).length=ps.length:=by rw[<- Y.length];exact F.len _ _ _ _ h
 refine abv (Ŏ (F.run X.A X.stack s H ⟨us,[]⟩ (us++ds) (vs++ai) Q E hr I.l0 (hb s us I.iA W) Y h) λr U Z=>?_)
 cases r with
 |error e=>exact hx π σ H s e U I Z
 |ok T =>
  cases T with
  |ret u=>exact I.after Z
  |next=>exact ĕ Z
  |brk=>exact ĕ Z
  |cont=>exact ĕ Z
def zY (F:cR X.prog X.w X.K X.mg X.base CX k f fd ps sp) (hr:bP k X.A) (hg:Gl X x) (hm:X.mg x=some (.ref f)) (hk:ı X.K (.ref f)=true) (hb:Binds X.K fd ps ds) (hd:Vals ai ds) (hx:Passes CX X E)
  (ha:PA X (e::es) t) (df:(x==("__debug__":Str))=false:=by decide) (he:Ë (e::es) X.env=(false,ļ e X.env)::Ë es X.env:=by rfl) (bw:(Ħ pos (Ë es X.env)).any (·.1)=false:=by rfl) :
  PE X (.Call (.Name x p) (e::es) [] pos) (Jk sp ai E t):=by
 intro Y s σ H Q I h;refine Ž (qm I hg hm ?_ df);refine abI (h₀:=X.base) I.ok.mod.ka hk (aH (ha pos Y s σ H _ I h) λW V ⟨U,T,Z,r,q⟩=>⟨Z.iA,?_⟩) he bw;exact TV F hr hb hd hx Z r q
structure Mk (K:Ē) (C f:Ú):Prop where
 makes:PySem.W.makesIn K C=true
 init:abe K (.ref C) "__init__"=some (some (.ref f))
 fn:PySem.W.isFn K (.ref f)=true
 kp:ı K (.ref C)=true
end
section
variable {X:Cx} {CX:iX} {k:Nat} {f C:Ú} {fd:ĝ} {ps ks:List Str} {sp:Sp} {E:XK} {x m:Str} {p pos apos Xb:Pos} {e o:Ġ} {es:List Ġ} {kws:List ź} {te ta:TE} {t tk:TA} {nm:Option Str}
structure aal (K:Ē) (fd:ĝ) (ps ks:List Str) (g:List Å->List Å->List Å) (gV:List V->List V->List V):Prop where
 to:∀(s:Ä) (us ws:List Å),K.In s.heap->(g us ws).length=ps.length->BindsTo s fd ⟨us,ks.zip ws⟩ (ps.zip (g us ws))
 rel:∀{vs:List V} {us:List Å} {zs:List V} {ws:List Å},Vals vs us->Vals zs ws->Vals (gV vs zs) (g us ws)
variable {g:List Å->List Å->List Å} {gV:List V->List V->List V}
end
structure oo (N P:List Str) (sc:ſ):Prop where
 kind:sc.kind=.function
 co:sc.isCoroutine=false
 gen:sc.isGenerator=false
 nd:N.Nodup
 pre:N.take P.length=P
 par:∀x∈P,sc.names.lookup x=some .local\/sc.names.lookup x=some .cell
 TX:∀y∈sc.names,y.2≠.free
theorem FU {kindOf:Str->Option ť} {x:Str}:∀{binds:List (Str×Å)} {m:Str->Option Å},(∀v,(x,v)∉binds)->bindL kindOf binds m x=m x
 | [],_,_=>rfl
 |(n,v)::r,m,h=>by
  unfold bindL;rw[FU λw hw=>h w (Ï _ hw)];split
  ·have:x≠n:=by rintro rfl;exact h v Ø
   simp[this]
  ·rfl
theorem FV {kindOf:Str->Option ť} {x:Str}:∀{binds:List (Str×Å)} {m:Str->Option Å},(∀v,(x,v)∉binds)->bindC kindOf binds m x=m x
 | [],_,_=>rfl
 |(n,v)::r,m,h=>by
  unfold bindC;rw[FV λw hw=>h w (Ï _ hw)];split
  ·rfl
  ·have:x≠n:=by rintro rfl;exact h v Ø
   simp[this]
theorem FW {kindOf:Str->Option ť} {x:Str} {v:Å}:∀{P:List Str} {vs:List Å} {i:Nat} {m:Str->Option Å},P.Nodup->P[i]?=some x->vs[i]?=some v->kindOf x=some .local ->
  bindL kindOf (P.zip vs) m x=some v
 | [],_,_,_,_,h,_,_=>by simp at h
 |_::_,[],_,_,_,_,h,_=>by simp at h
 |p::P,w::vs,0,m,X,Z,Y,W=>by
  simp at Z Y;subst Z;subst Y;show bindL kindOf ((p,w)::P.zip vs) m p=_;unfold bindL;rw[FU λv V=>(ε.mp X).1 (aby V).1,Þ W];simp
 |p::P,w::vs,i+1,m,X,Z,Y,W=>by
  show bindL kindOf ((p,w)::P.zip vs) m x=_;unfold bindL;exact FW (i:=i) (ε.mp X).2 (by simpa using Z) (by simpa using Y) W
theorem FX {kindOf:Str->Option ť} {x:Str} {v:Å}:∀{P:List Str} {vs:List Å} {i:Nat} {m:Str->Option Å},P.Nodup->P[i]?=some x->vs[i]?=some v->kindOf x≠some .local ->
  bindC kindOf (P.zip vs) m x=some v
 | [],_,_,_,_,h,_,_=>by simp at h
 |_::_,[],_,_,_,_,h,_=>by simp at h
 |p::P,w::vs,0,m,X,Z,Y,W=>by
  simp at Z Y;subst Z;subst Y;show bindC kindOf ((p,w)::P.zip vs) m p=_;unfold bindC;rw[FV λv V=>(ε.mp X).1 (aby V).1,ì W];simp
 |p::P,w::vs,i+1,m,X,Z,Y,W=>by
  show bindC kindOf ((p,w)::P.zip vs) m x=_;unfold bindC;exact FX (i:=i) (ε.mp X).2 (by simpa using Z) (by simpa using Y) W
def start (N:List Str) (vs:List V):St:=vs.map some++Ò (N.length-vs.length) none
def gR (CX:iX) (P:â) (w:Ą) (K:Ē) (mg:Str->Option Å) (base:Ī) (N:List Str) (qual:Str) (scope:ſ) (f:Ú) (cd:Å) (A:î) (outer:List Env) (s:Ä) (H:Hp) (E:XK):Cx where
 prog:=P
 w:=w
 K:=K
 mg:=mg
 base:=base
 A:=A.deeper (abY qual scope s.heap.objs.size f cd)
 N:=N
 cM:=s
 kQ:=H
 env:=abY qual scope s.heap.objs.size f cd
 outer:=outer
 stack:=abY qual scope s.heap.objs.size f cd::outer
 ex:=[]
 calm:=true
 fn:=λ_=>true
 pn:=[]
 xe:=λe Y=>Û (ã P w) (A.deeper (abY qual scope s.heap.objs.size f cd)) (leaving (abY qual scope s.heap.objs.size f cd) e) (λ_ Z=>CX outer H s E e Z) (λX Z=>CX outer H s E X Z) Y
def Gv {sc:ſ} {n:Nat} {x:Str} (h:sc.names.lookup x=some .cell):∃c,(aad n sc.names []).lookup x=some c:=by
 have q:=Ż sc.names n [] (.inl h);exact aaC.mp q
def FY {CX:iX} {P:â} {w:Ą} {K:Ē} {mg:Str->Option Å} {base:Ī} {N ps:List Str} {qual:Str} {scope:ſ} {f:Ú} {cd:Å} {A:î} {outer:List Env} {s s1:Ä} {H:Hp} {E:XK} {us:List Å} {vs:List V}
  (S:oo N ps scope) (hd:A.handled=none) (e0:qP P w K mg base A outer s H) (hl:vs.length=ps.length) (r:Vals vs us)
  (x:InCallC s s.heap.objs.size (bindL (abY qual scope s.heap.objs.size f cd).kindOf (ps.zip us) λ_=>none) (aad (s.heap.objs.size+1) scope.names []) (bindC (abY qual scope s.heap.objs.size f cd).kindOf (ps.zip us) λ_=>none) s1) :
  Inv (gR CX P w K mg base N qual scope f cd A outer s H E) [] (start N vs) H s1:=by
 have M:ps.length<=N.length:=by have:=Ľ List.length S.pre;rw[aau] at this;omega
 obtain⟨X,L,rfl,U⟩:=x.done;have W:∀b:Ú,b∉(gR CX P w K mg base N qual scope f cd A outer s H E).ex:=λb z=>absurd (show b∈([]:List Ú) from z) (by simp);refine⟨⟨e0.mod,S.kind,rfl,rfl,ab3 _,λy z c X Z=>?_,λy hy=>?_,λy c _ h=>?_,λ_=>hd,Around.frames_deeper e0.frames,.inr ⟨rfl,rfl⟩,λb z=>absurd z (W b),e0.bs,e0.iz,λb _ _=>W b,λb z=>absurd z (W b),e0.iw,e0.lh⟩,
  rfl,e0.bare,Un.kept U,⟨_,x.toInCall.ns,λi y v X Z J=>?_⟩,λy c h=>⟨_,x.cell y c h⟩,e0.aC.fresh (ab3 _),λy c h=>?_,λp Y=>absurd (show p∈([]:List (Ú×Obj)) from Y) (by simp),e0.aC.kept U,?_⟩
 ·exact name_of_addr x.apart (Į X) (Į Z)
 ·have hy:scope.names.lookup y=some .cell\/scope.names.lookup y=some .free:=hy
  rcases hy with hy|hy
  ·exact Gv hy
  ·exact absurd rfl (S.TX _ (Į hy))
 ·exact Nat.le_of_lt (x.above y c (Į h))
 ·have hi:i<vs.length:=by
   unfold start at Z;by_cases hi:i<vs.length
   ·exact hi
   ·rw[Ă (by simpa using hi)] at Z
    rw[ĥ] at Z
    split at Z<;>cases Z
  have Q:vs[i]?=some v:=by
   unfold start at Z;rw[Ü (by simpa using hi),í] at Z
   cases e:vs[i]? with
   |none=>rw[e] at Z;cases Z
   |some a=>rw[e] at Z;cases Z;rfl
  obtain⟨u,T,O⟩:=r.get Q;have Y:ps[i]?=some y:=by
   rw[<- S.pre,List.getElem?_take_of_lt (by omega)];exact X
  have R:ps.Nodup:=by rw[<- S.pre];exact S.nd.sublist (List.take_sublist _ _)
  refine⟨u,O,?_⟩
  rcases S.par y (Ŧ Y) with k|k
  ·exact .inl ⟨k,FW R Y T k⟩
  ·obtain⟨c,e⟩:=Gv (n:=s.heap.objs.size+1) k
   refine .inr ⟨.inl k,c,e,?_⟩;have q:=x.cell y c e;rw[FX R Y T (by show scope.names.lookup y≠_;rw[k];decide)] at q;exact q
 ·exact e0.aC.fresh (Nat.le_of_lt (x.above y c (Į h)))
 ·unfold start
  show _=N.length;rw[é,É,ζ];omega
def Bh {CX:iX} {P:â} {w:Ą} {K:Ē} {mg:Str->Option Å} {base:Ī} {k:Nat} {f:Ú} {name qual:Str} {params:abR} {body:List abM} {scope:ſ} {dV kV doc pm aS ct oc:Å} {an od:Option Ú}
  {iY:Array (Option Å)} {N ps:List Str} {sp:Sp} (lk:K.lookup f=some ⟨oc,od,.func (ŏ name qual params body scope dV kV doc pm an aS ct),iY⟩) (dX:aae K aS qual=true) (S:oo N ps scope)
  (len:∀vs H Q E,sp vs H Q E->vs.length=ps.length)
  (jW:∀(A:î) (outer:List Env) (s:Ä) (H:Hp) (vs:List V) (Q:VK) (E:XK),bP k (A.deeper (abY qual scope s.heap.objs.size f aS))->sp vs H Q E ->
   ∃t,cS (gR CX P w K mg base N qual scope f aS A outer s H E) body t/\t { nx:=λ_ H'=>Q .ao H',rt:=Q } (start N vs) H) :
  cR P w K mg base CX (k+1) f (ŏ name qual params body scope dV kV doc pm an aS ct) ps sp:=by
 refine⟨len,λA outer s H args L vs Q E X Z G r R=>?_⟩;have F:=len _ _ _ _ R;have O:K.In s.heap:=Z.mod.ka.keeps λb o e=>(Z.bs b o e).1;have lim:s.heap.NoLimit:=Z.mod.nolimit.keeps λb o e=>(Z.bs b o e).1;have D:∀y∈ps.zip L,scope.names.lookup y.1=some .local\/(scope.names.lookup y.1=some .cell/\((aad (s.heap.objs.size+1) scope.names []).lookup y.1).isSome=true):=λ⟨n,v⟩ C=>by
  rcases S.par n (aby C).1 with q|q
  ·exact .inl q
  ·exact .inr ⟨q,Ż _ _ _ (.inl q)⟩
 refine codeAny_call_function X.depth (O _ _ lk) rfl S.co S.gen rfl (PySem.W.codeRec_of O dX) (G _ _ _ _ ?_);refine wpAny_newFunctionEnv_cells S.kind D λenv B M x=>?_;subst B;refine⟨lim.keeps x.toInCall.keep,codeAny_func ?_⟩;obtain⟨t,z,p⟩:=jW A outer s H vs Q E (X.deeper _) R;have I:Inv (gR CX P w K mg base N qual scope f aS A outer s H E) [] (start N vs) H M:=FY S X.hd Z F r x;refine Ĕ (z [] M (start N vs) H _ I p) (λm U hs=>?_) λe U hs=>hs;have fin:∀{Y:St} {H':Hp} {v:V} {u:Å},Inv (gR CX P w K mg base N qual scope f aS A outer s H E) [] Y H' U->RelV v u->Q v H'->CE outer P w H s Q u U :=
  λ{Y H' v u} J T q=>⟨v,H',J.os,J.bare,J.base,J.aC,T,q⟩
 cases m with
 |ret u =>
  obtain⟨v,Y,H',J,T,q⟩:=hs;exact fin J T q
 |next =>
  obtain⟨Y,H',J,q⟩:=hs;exact fin (v:=V.ao) (u:=Value.none) J rfl q
 |brk =>
  obtain⟨_,_,_,q⟩:=hs;exact ĕ q
 |cont =>
  obtain⟨_,_,_,q⟩:=hs;exact ĕ q
section
variable {X:Cx} {x:Str} {p pos:Pos} {e:Ġ} {es:List Ġ} {t:TA} {id T:String} {r:List V->Hp->VK->Prop}
def CI (r:List V->Hp->VK->Prop) (t:TA):TE:=fun σ H Q=>t σ H λZ Y=>r Z Y Q
def vO (hc:bY X (.builtin id) r) (hg:Gl X x) (hm:X.mg x=none) (hv:û x=some (.builtin id)) (ha:PA X (e::es) t) (hn:x≠"__name__":=by decide) (df:(x==("__debug__":Str))=false:=by decide)
  (he:Ë (e::es) X.env=(false,ļ e X.env)::Ë es X.env:=by rfl) (bw:(Ħ pos (Ë es X.env)).any (·.1)=false:=by rfl):PE X (.Call (.Name x p) (e::es) [] pos) (CI r t):=by
 intro Z s σ H Q I h;refine Ž (qv I hg hm hv ?_ hn df);exact PyProof.Rows.callWith_builtin1 (aH (ha pos Z s σ H _ I h) λY W ⟨V,U,T,S,R⟩=>hc Z W σ U V Y Q T S R) he bw
def vH (hc:bY X (.type T) r) (hg:Gl X x) (hm:X.mg x=none) (hv:û x=some (.type T)) (ha:PA X (e::es) t) (hn:x≠"__name__":=by decide) (df:(x==("__debug__":Str))=false:=by decide)
  (he:Ë (e::es) X.env=(false,ļ e X.env)::Ë es X.env:=by rfl) (bw:(Ħ pos (Ë es X.env)).any (·.1)=false:=by rfl):PE X (.Call (.Name x p) (e::es) [] pos) (CI r t):=by
 intro Z s σ H Q I h;refine Ž (qv I hg hm hv ?_ hn df);exact Ŕ (aH (ha pos Z s σ H _ I h) λY W ⟨V,U,S,R,P⟩=>hc Z W σ U V Y Q S R P) he bw
end
end L2
namespace HT
open PySem PyProof.Rows
noncomputable def lexLt:List Int->List Int->Bool
 | [],[]=>false
 | [],_::_=>true
 |_::_,[]=>false
 |x::Z,y::Y=>if x=y then lexLt Z Y else decide (x<y)
def jc (x y:Int) (xs ys:List Int):lexLt (x::xs) (y::ys)=if x=y then lexLt xs ys else decide (x<y):=rfl
def Gw (A:î) (s:Ä) (a:Int) (t:Tok) (c:Int) (u:Tok) (prog:â) (w:Ą) (E:Å->Ä->Prop) (Q:Å->Ä->Prop) (h:Q (.bool (decide (a<c))) s) :
  Û (ã prog w) A (richCompare .Lt (.int a t) (.int c u)) Q E s :=
 (PyProof.Rows.lt_int h:Û (ã prog w) A (Ė .Lt (.int a t) (.int c u)) Q E s)
section
open PySem.SeqAt
open PySem.AutoSeq1 (wpAny_loadPart')
open PySem.MeetsSeq PySem.MeetsSeq2 PySem.MeetsSeq3
end
section
variable {prog:â} {w:Ą} {A:î} {E:Å->Ä->Prop} {s:Ä}
def RO (ht:IsTup s.heap t vs.toArray) (hb:IsTup s.heap b ws.toArray) (hv:vs≠[])
 (h1:ws=[]->Q (.ref t) s) (h2:ws≠[]->Q (.ref s.heap.objs.size) { s with heap:=s.heap.push { cls:=.type "tuple",data:=.seq (vs++ws).toArray } })
 (hsz:vs.length+ws.length<=Ñ):Û (ã prog w) A (ń .Add (.ref t) (.ref b)) Q E s:=by
 obtain⟨⟨cls,X,data,W⟩,Z,V,n,U⟩:=id ht;obtain⟨⟨O,T,data2,S⟩,Y,R,P,hd2⟩:=id hb;simp only at V U R hd2;subst V U R hd2;have e:vs.toArray++ws.toArray=(vs++ws).toArray:=by simp
 by_cases hw:ws=[]
 ·exact concat_meets ⟨_,Z,rfl⟩ ⟨_,Y,rfl⟩ noFill_tuple_add seq_tuple_add aa0 aaN (aaD _ _)
   (tuple_addW1 t b vs.toArray ws.toArray n P X T W S (by simpa using hv) (by simp[hw])) ⟨Z,Y,h1 hw⟩
 ·refine concat_meets ⟨_,Z,rfl⟩ ⟨_,Y,rfl⟩ noFill_tuple_add seq_tuple_add aa0 aaN (aaD _ _)
   (tuple_addW2 t b vs.toArray ws.toArray n P X T W S (by simpa using hv) (by simpa using hw) (by rw[Ù,Ù];exact hsz)) ⟨Z,Y,?_⟩
  rw[e];exact h2 hw
noncomputable def aP (n d:Nat):Option Int->Nat
 |none=>d
 |some v=>if v<0 then (v+(n:Int)).toNat else min v.toNat n
def TY (n d:Nat) (hd:d<=n) (o:Option Int):aP n d o<=n:=by
 cases o with
 |none=>exact hd
 |some v =>
  show (if v<0 then (v+(n:Int)).toNat else min v.toNat n)<=n
  by_cases Z:v<0
  ·rw[Þ Z];omega
  ·rw[ì Z];exact Nat.min_le_right _ _
def Hg (v:Int) (n d:Nat):(if v<0 then max (v+(n:Int)) 0 else min v (n:Int))=((aP n d (some v):Nat):Int):=by
 show (if v<0 then max (v+(n:Int)) 0 else min v (n:Int))=(((if v<0 then (v+(n:Int)).toNat else min v.toNat n):Nat):Int)
 by_cases Z:v<0
 ·simp only[Þ Z];omega
 ·simp only[ì Z];omega
def NQ (lo hi:Option Int) (n:Nat):aaf lo hi 1 (n:Int)=(((aP n 0 lo:Nat):Int),((aP n n hi:Nat):Int)):=by
 have Z:¬ ((1:Int)<0):=by omega
 unfold aaf;simp only[Z,ä];refine Prod.ext ?_ ?_
 ·cases lo with
  |none=>rfl
  |some v=>exact Hg v n 0
 ·cases hi with
  |none=>rfl
  |some v=>exact Hg v n n
def NR (i j:Nat):Ť (i:Int) (j:Int) 1=j-i:=by
 unfold Ť;have Z:(1:Int) > 0:=by omega
 simp only[Z,ô,Int.ediv_one]
 split<;>omega
def Fv (p:IsPart v o) (h:Q o s):Û (ã prog w) A (Builtin.Slice.slicePartIndex v) Q E s:=by
 cases p with
 |none=>exact slicePart_none h
 |int i t=>exact slicePart_int h
def ET {lo hi:Option Int} {n:Nat} {Q:Int×Int×Nat->Ä->Prop} (hs:s.heap.IsSliceOf sl vl vu .none) (pl:IsPart vl lo) (pu:IsPart vu hi)
 (h:Q (((aP n 0 lo:Nat):Int),1,aP n n hi-aP n 0 lo) s):Û (ã prog w) A (abG (.ref sl) (pure (n:Int))) Q E s:=by
 obtain⟨os,Z,X,Y⟩:=id hs;unfold abG Builtin.Slice.sliceFields;refine À (À (ĵ Z Y (x:=vl) rfl (À (ĵ Z Y (x:=vu) rfl (À (ĵ Z Y (x:=.none) rfl (Ã ?_)))))));refine À (slicePart_none ?_)
 show Û _ _ (if ((1:Int)==0)=true then _ else _) _ _ s
 rw[ì (by decide)];refine À (Fv pl (À (Fv pu (À (Ã ?_)))))
 show Û _ _ (match aaf lo hi 1 (n:Int) with | (lo,hi)=>pure (lo,(1:Int),Ť lo hi 1)) _ _ s
 rw[NQ lo hi n];show Û _ _ (pure (((aP n 0 lo:Nat):Int),(1:Int),Ť ((aP n 0 lo:Nat):Int) ((aP n n hi:Nat):Int) 1)) _ _ s;rw[NR];exact Ã h
def P2 (xs:Array Å) (i k:Nat):((Ā k).filterMap λ(m:Nat)=>xs[((i:Int)+(m:Int)*1).toNat]?).toArray=((xs.toList.drop i).take k).toArray:=by
 have e:(λ(m:Nat)=>xs[((i:Int)+(m:Int)*1).toNat]?)=λm=>xs[i+m]?:=by
  funext m;have:((i:Int)+(m:Int)*1).toNat=i+m:=by omega
  rw[this]
 rw[e];have:=pick_run xs i k;rw[List.filterMap_map] at this;have e2:((λx=>xs[x]?) ∘ λx=>i+x)=λm=>xs[i+m]?:=rfl;rw[e2] at this;rw[this]
def L8 {lo hi:Option Int} {Q:Å->Ä->Prop} (ht:IsTup s.heap t items) (hs:s.heap.IsSliceOf sl vl vu .none) (pl:IsPart vl lo) (pu:IsPart vu hi)
 (hw:¬ (aP items.size 0 lo=0/\aP items.size items.size hi=items.size))
 (h:Q (.ref s.heap.objs.size) { s with heap:=s.heap.push { cls:=.type "tuple",data:=.seq ((items.toList.drop (aP items.size 0 lo)).take (aP items.size items.size hi-aP items.size 0 lo)).toArray } })
 (hsz:items.size<=Ñ):Û (ã prog w) A (getItem (.ref t) (.ref sl)) Q E s:=by
 have Z:sizeOk (.seq ((items.toList.drop (aP items.size 0 lo)).take (aP items.size items.size hi-aP items.size 0 lo)).toArray):=by
  show ((items.toList.drop (aP items.size 0 lo)).take (aP items.size items.size hi-aP items.size 0 lo)).toArray.size<=Ñ;rw[Ù,aau,List.length_drop,ò];omega
 have U:aP items.size items.size hi<=items.size:=TY _ _ (ab3 _) hi;obtain⟨os,Y,X,T⟩:=id hs;have W:s.TypeIs (.ref sl) "slice":=⟨os,Y,X⟩;unfold getItem
 try with_reducible refine Ĉ ?_
 first|refine À (Ã ?_)|skip
 refine À (wpAny_sequenceKey ht.typeIs (by decide) ?_);refine À (č (name:=ý "__getitem__") ht.typeIs ę
  (Ċ ę ht.typeIs entry_tuple_getitem ?_ (args_tuple_getitem _ _)))
 show Û _ _ (Ř (.ref t) >>= _) _ _ s;refine À (tupleItemsOf_ ht ?_);refine À (aaE W ?_);rw[Þ (by decide)];refine À (ET hs pl pu ?_);have V:¬ ((((aP items.size 0 lo:Nat):Int)==0&&(1:Int)==1&&(aP items.size items.size hi-aP items.size 0 lo)==items.size)=true):=by
  intro q;rw[Æ,Æ] at q;have S:((aP items.size 0 lo:Nat):Int)=0:=eq_of_beq q.1.1;have R:aP items.size items.size hi-aP items.size 0 lo=items.size:=eq_of_beq q.2;exact hw ⟨by omega,by omega⟩
 show Û _ _ (if (((aP items.size 0 lo:Nat):Int)==0&&(1:Int)==1&&(aP items.size items.size hi-aP items.size 0 lo)==items.size)=true then _ else _) _ _ s
 rw[ì V,P2]
 first
  |exact À (m:=ģ _) (ù (Ã ⟨_,rfl,Ã h⟩) Z)
  |exact À (m:=ģ _) (ù (À (Ã (Ã ⟨_,rfl,Ã h⟩))) Z)
  |exact À (À (m:=ģ _) (ù (Ã (Ã ⟨_,rfl,Ã h⟩)) Z))
  |exact À (À (m:=ģ _) (ù (Ã ⟨_,rfl,Ã h⟩) Z))
end
end HT
namespace L2
open PySem PySem.Spec PyProof.Rows
abbrev TO:=St->Hp->(Option Int->Hp->Prop)->Prop
def PO (X:Cx) (e:Option Ġ) (t:TO):Prop :=
 ∀(Z:List (Ú×Obj)) (s:Ä) (σ:St) (H:Hp) (Q:Option Int->Hp->Prop),Inv X Z σ H s->t σ H Q ->
  Û (ã X.prog X.w) X.A (evalPart e X.env) (λu W=>∃o Y,Inv X Z σ Y W/\IsPart u o/\Q o Y) X.xe s
def RP:TO:=λ_ H Q=>Q none H
def VJ (t:TE):TO:=fun σ H Q=>t σ H λx Z=>∃i,x=.int i/\Q (some i) Z
def intsAre_of:∀{us:List Å},Vals (ns.map V.int) us->aa3 us ns:=by
 induction ns with
 |nil=>intro us r;rw[Ő] at r;cases r;exact .nil
 |cons n ns ih =>
  intro us r;rw[á] at r
  cases r with
  |cons Z Y =>
   obtain⟨t,e⟩:=Z;subst e;exact .cons n t (ih Y)
section
variable {X:Cx} {e:Ġ} {te:TE} {lo hi:Option Ġ} {tl th:TO} {pos p2:Pos}
def RQ:PO X none RP:=by
 intro Z s σ H Q I h;rw[evalPart_none];exact Ã ⟨none,H,I,.none,h⟩
def RR (h:PE X e te):PO X (some e) (VJ te):=by
 intro Z s σ H Q I hw;rw[evalPart_some];refine aH (h Z s σ H _ I hw) λu T ⟨x,Y,W,V,U⟩=>?_;obtain⟨i,rfl,q⟩:=U;obtain⟨t,rfl⟩:=V;exact⟨some i,Y,W,.int i t,q⟩
def uF (X:Cx) (r:V->Option Int->Option Int->Hp->VK->Prop):Prop :=
 ∀(Z:List (Ú×Obj)) (s:Ä) (σ:St) (H:Hp) (x:V) (v Y W:Å) (lo hi:Option Int) (U:Ú) (Q:VK),Inv X Z σ H s->RelV x v->s.heap.IsSliceOf U Y W .none->IsPart Y lo->IsPart W hi->r x lo hi H Q ->
  ∃T id,typeLookup (.type T) "__getitem__"=pure (some (.builtin id))/\s.TypeIs v T/\Û (ã X.prog X.w) X.A (getItem v (.ref U)) (EP X Z σ Q) X.xe s
def Yb (r:V->Option Int->Option Int->Hp->VK->Prop) (te:TE) (tl th:TO):TE:=fun σ H Q=>te σ H λx Z=>tl σ Z λl Y=>th σ Y λu X=>r x l u X Q
def P4 (hr:uF X r) (he:PE X e te) (hl:PO X lo tl) (hu:PO X hi th):PE X (.Subscript e (.Slice lo hi none p2) pos) (Yb r te tl th):=by
 intro Y s σ H Q I h;refine Subscript_ (aH (he Y s σ H _ I h) λv S ⟨x,R,P,O,N⟩=>?_);refine wpAny_Slice (aH (hl Y S σ R _ P N) λW M ⟨l,L,K,J,G⟩=>aH (hu Y M σ L _ K G) λV Z ⟨u,U,F,pu,E⟩=>?_);rw[evalPart_none];refine Ã ?_
 have D:Inv X Y σ U { Z with heap:=Z.heap.push { cls:=.type "slice",data:=.fields #[W,V,.none] } }:=F.kept (t':=Z.toks) λb y q=>Á _ q
 obtain⟨T,id,C,B,z⟩:=hr Y { Z with heap:=Z.heap.push { cls:=.type "slice",data:=.fields #[W,V,.none] } } σ U x v W V l u Z.heap.objs.size Q D O (Heap.IsSliceOf.new ..) J pu E
 show Û (ã X.prog X.w) X.A (subscriptTail e (.Slice lo hi none p2) v (.ref Z.heap.objs.size)) (EP X Y σ Q) X.xe { Z with heap:=Z.heap.push { cls:=.type "slice",data:=.fields #[W,V,.none] } }
 exact tail_any (ops:=[.ref Z.heap.objs.size,v]) B C z (by with_unfolding_all rfl)
noncomputable def jZ (xs:List V) (lo hi:Option Int):List V:=(xs.drop (HT.aP xs.length 0 lo)).take (HT.aP xs.length xs.length hi-HT.aP xs.length 0 lo)
def Fi (xs:List V) (lo hi:Option Int):(jZ xs lo hi).length<=xs.length:=by
 unfold jZ;rw[aau,List.length_drop];omega
def Xc (K:Ē):V->Option Int->Option Int->Hp->VK->Prop:=λx lo hi H Q=>∃a Z,x=.ref a/\bp K H a Z /\
 ¬ (HT.aP Z.length 0 lo=0/\HT.aP Z.length Z.length hi=Z.length)/\∀p,H p=none->Q (.ref p) (upd H p (.tup (jZ Z lo hi)))
def AD:uF X (Xc X.K):=by
 intro R s σ H x v P O lo hi N Q I U hs T pu h;obtain⟨a,Y,rfl,S,hw,q⟩:=h;cases U;obtain⟨its,r,W,V⟩:=I.tuple S;have Z:its.toArray.size=Y.length:=by rw[Ù];exact r.length.symm
 refine⟨"tuple",_,ę.lookup,W.typeIs,?_⟩;refine HT.L8 W hs T pu (by rw[Z];exact hw) ?_ (by rw[Z];exact V);rw[Z];refine⟨.ref s.heap.objs.size,_,I.laid (t':=s.toks) (o:=.tup (jZ Y lo hi)) (λb M q=>Á _ q) (ab3 _) ?_,rfl,q _ (I.aC.fresh (ab3 _))⟩;exact⟨à (Fi Y lo hi) V,_,(r.drop (HT.aP Y.length 0 lo)).take (HT.aP Y.length Y.length hi-HT.aP Y.length 0 lo),IsTup.new _ _⟩
def VL (K:Ē):R2:=λx y H Q=>∃a b Y Z,x=.ref a/\y=.ref b/\bp K H a Y/\bp K H b Z/\Y≠[]/\Y.length+Z.length<=Ñ /\
 (Z=[]->Q (.ref a) H)/\(Z≠[]->∀p,H p=none->Q (.ref p) (upd H p (.tup (Y++Z))))
def Vals.zZ (r:Vals xs us):us=[]↔xs=[]:=by
 cases r with
 |nil=>simp
 |cons _ _=>simp
def RS:bt X (ń .Add) (VL X.K):=by
 intro J s σ H x y v u Q I V U h;obtain⟨a,b,T,S,rfl,rfl,R,P,O,W,N,M⟩:=h;cases V;cases U;obtain⟨its,Y,L,_⟩:=I.tuple R;obtain⟨G,Z,p2,_⟩:=I.tuple P;refine HT.RO L p2 (λz=>O (Y.zZ.mp z)) (λz=>⟨.ref a,H,I,rfl,N (Z.zZ.mp z)⟩) (λz=>?_) (by rw[<- Y.length,<- Z.length];exact W);refine⟨.ref s.heap.objs.size,_,I.laid (t':=s.toks) (o:=.tup (T++S)) (λb F q=>Á _ q) (ab3 _) ?_,rfl,M (λw=>z (Z.zZ.mpr w)) _ (I.aC.fresh (ab3 _))⟩;exact⟨by rw[é];exact W,_,Y.append Z,IsTup.new _ _⟩
end
noncomputable def dY (n:Nat) (i:Int):Option Nat:=if 0<=i then (if i<n then some i.toNat else none) else if -(n:Int)<=i then some (i+n).toNat else none
def dj {α:Type} (xs:List α) (i:Int):Option α:=(dY xs.length i).bind λj=>xs[j]?
def z3 (h:dY n i=some j):seqIndex? i n=some j/\j<n/\-(n:Int)<=i/\i<n:=by
 unfold dY at h;by_cases Y:0<=i
 ·rw[Þ Y] at h
  by_cases Z:i<n
  ·rw[Þ Z] at h
   have e:i.toNat=j:=ab4 h;exact⟨by rw[seqIndex_of Y Z,e],by omega,by omega,Z⟩
  ·rw[ì Z] at h;cases h
 ·rw[ì Y] at h
  by_cases Z:-(n:Int)<=i
  ·rw[Þ Z] at h
   have e:(i+n).toNat=j:=ab4 h;exact⟨by rw[seqIndex_neg (by omega) Z,e],by omega,Z,by omega⟩
  ·rw[ì Z] at h;cases h
def z9 {α:Type} {xs:List α} {i:Int} {v:α} (h:dj xs i=some v):∃j,seqIndex? i xs.length=some j/\xs[j]?=some v/\j<xs.length/\-(xs.length:Int)<=i/\i<xs.length:=by
 unfold dj at h
 cases e:dY xs.length i with
 |none=>rw[e] at h;cases h
 |some j =>
  rw[e] at h;obtain⟨Z,Y,X,W⟩:=z3 e;exact⟨j,Z,h,Y,X,W⟩
def RT {α:Type} {xs:List α} {j:Nat} {v:α} (h:xs[j]?=some v):dj xs (j:Int)=some v:=by
 have Z:j<xs.length:=(È.mp h).1;have e:dY xs.length (j:Int)=some j:=by
  unfold dY;rw[Þ (by omega),Þ (by omega)];simp
 unfold dj;rw[e];exact h
def P5 {α:Type} (xs:List α) (v:α):dj (xs++[v]) (-1)=some v:=by
 have Z:(xs++[v]).length=xs.length+1:=by simp
 have e:dY (xs++[v]).length (-1)=some xs.length:=by
  unfold dY;rw[Z,ì (by decide),Þ (by omega)];congr 1;omega
 unfold dj;rw[e];show (xs++[v])[xs.length]?=some v;simp
def Hh (b:Ġ):Prop:=∀o i,subscripted b false o i=operate [o,i] (getItem o i)
def uG (X:Cx) (r:R2):Prop :=
 ∀(value slice:Ġ) (Z:List (Ú×Obj)) (s:Ä) (σ:St) (H:Hp) (x y:V) (v u:Å) (Q:VK),Inv X Z σ H s->RelV x v->RelV y u->r x y H Q ->
  subscripted slice false v u=operate [v,u] (getItem v u)->Û (ã X.prog X.w) X.A (subscriptTail value slice v u) (EP X Z σ Q) X.xe s
def uH (X:Cx) (id:String) (r:V->List V->Hp->VK->Prop):Prop :=
 ∀(Z:List (Ú×Obj)) (s:Ä) (σ:St) (H:Hp) (x:V) (Y:List V) (v:Å) (W:List Å) (Q:VK),Inv X Z σ H s->RelV x v->Vals Y W->r x Y H Q ->
  Û (ã X.prog X.w) X.A (call (.builtin id) (v::W)) (EP X Z σ Q) X.xe s
section
variable {X:Cx} {a b:Ġ} {ta tb:TE} {pos:Pos}
def VM (hr:uG X r) (ha:PE X a ta) (hb:PE X b tb) (hs:Hh b):PE X (.Subscript a b pos) (uD r ta tb):=by
 intro Z s σ H Q I h;exact Subscript_ (BX ha hb I h λv u Y x y W V U T q=>hr a b Z Y σ W x y v u Q V U T q (hs _ _))
def Xd (K:Ē):R2:=λx y H Q=>∃p Z i v,x=.ref p/\y=.int i/\aZ K H p Z/\dj Z i=some v/\Q v H
def Xe (K:Ē):R2:=λx y H Q=>∃p Z i v,x=.ref p/\y=.int i/\bp K H p Z/\dj Z i=some v/\Q v H
def Xf:R2:=λx y H Q=>∃z i c,x=.str z/\y=.int i/\z.length<=Ñ/\dj z.cps.toList i=some c/\Q (.str ⟨#[c]⟩) H
def Hi:uG X (Xd X.K):=by
 intro value slice V s σ H x y v u Q I S R h hs;obtain⟨p,E,i,z,rfl,rfl,P,O,q⟩:=h;cases S;obtain⟨t,rfl⟩:=R;obtain⟨its,r,Y,D⟩:=I.list P;obtain⟨j,Z,N,C,M,L⟩:=z9 O;obtain⟨w,U,J⟩:=r.get N;have G:=r.length;have B:=ox;have fin:EP X V σ Q w s:=⟨z,H,I,J,q⟩;by_cases T:0<=i
 ·have W:i.toNat=j:=by
   rw[seqIndex_of T L] at Z;exact ab4 Z
  exact item_listR Y.isList T (by omega) (by rw[W];simpa using U) fin hs
 ·have W:(i+(its.toArray.size:Int)).toNat=j:=by
   rw[seqIndex_neg (by omega) M] at Z;rw[Ù,<- G];exact ab4 Z
  exact subscriptTail_builtinR (x:=w) Y.isList.typeIs slot_list_getitem.lookup
   (wpAny_getItem_list_neg (Q:=λr F=>r=w/\EP X V σ Q r F) Y.isList (by omega) (by rw[Ù]<;>omega) (by omega) (by rw[W];simpa using U) ⟨rfl,fin⟩) hs
def TZ:uG X (Xe X.K):=by
 intro value slice Z s σ H x y v u Q I W V h hs;obtain⟨p,L,i,z,rfl,rfl,U,T,q⟩:=h;cases W;obtain⟨t,rfl⟩:=V;obtain⟨its,r,Y,J⟩:=I.tuple U;obtain⟨j,S,R,G,F,E⟩:=z9 T;obtain⟨w,P,O⟩:=r.get R;have N:=r.length;have D:=ox;have fin:EP X Z σ Q w s:=⟨z,H,I,O,q⟩;exact subscriptTail_builtinR (x:=w) Y.typeIs slot_tuple_getitem.lookup
  (getItem_tuple (j:=j) (Q:=λr M=>r=w/\EP X Z σ Q r M) Y (by omega) (by omega) (by rw[Ù,<- N];exact S) (by simpa using P) ⟨rfl,fin⟩) hs
def T4:uG X Xf:=by
 intro value slice P s σ H x y v u Q I Y W h hs;obtain⟨z,i,c,rfl,rfl,O,V,q⟩:=h;obtain⟨t,rfl⟩:=Y;obtain⟨N,rfl⟩:=W;obtain⟨j,Z,U,M,T,S⟩:=z9 V;have R:z.cps.toList.length=z.length:=by simp[Str.length]
 rw[R] at Z T S;have L:=ox;exact tail_any (typeIs_str s z t) slot_str_getitem.lookup (getItem_str (c:=c) (by
  have e1:decide (i < -(2 ^ 63:Int))=false:=ç (by omega);have e2:decide (i ≥ 2 ^ 63)=false:=ç (by omega);rw[e1,e2,Bool.or_false]) (by rw[Z];simpa using U) ⟨.str ⟨#[c]⟩,H,I.tok _,⟨_,rfl⟩,q⟩) hs
def NS (its:List Å) (n j:Nat) (u:Å):Œ (·.setIfInBounds j u) { cls:=.type "list",data:=.seq its.toArray n }={ cls:=.type "list",data:=.seq (its.set j u).toArray n }:=by
 simp[Œ]
theorem Inv.lst {π:List (Ú×Obj)} {σ:St} {H:Hp} {s:Ä} {p:Ú} {xs:List V} (I:Inv X π σ H s) (h:H p=some (.lst xs)) :
  ∃(its:List Å) (n:Nat),Vals xs its/\s.heap.get? p=some { cls:=.type "list",data:=.seq its.toArray n }/\xs.length<=Ñ:=by
 obtain⟨z,its,n,r,e⟩:=I.aC p _ h;exact⟨its,n,r,e,z⟩
def Inv.T5 {π:List (Ú×Obj)} {σ:St} {H:Hp} {s:Ä} {p:Ú} {xs ys:List V} {its its':List Å} {n n':Nat} {f:Obj->Obj} (I:Inv X π σ H s) (h:H p=some (.lst xs))
  (ho:s.heap.get? p=some { cls:=.type "list",data:=.seq its.toArray n }) (hf:f { cls:=.type "list",data:=.seq its.toArray n }={ cls:=.type "list",data:=.seq its'.toArray n' }) (r:Vals ys its') (hz:ys.length<=Ñ) (t:Nat) :
  Inv X π σ (upd H p (.lst ys)) { s with heap:=s.heap.update p f,toks:=t }:=by
 have e:(s.heap.update p f).get? p=some { cls:=.type "list",data:=.seq its'.toArray n' }:=by
  rw[Ĝ f ho (by rw[hf]<;>rfl),hf]
 refine I.write (x:=p) (e:=p) (by rw[h];trivial) (.inl rfl) (λb u Z q=>(ż _ _ (Ź Z)).trans q) ⟨_,e⟩ ?_;exact⟨hz,its',n',r,e⟩
def VN:V->V->V->Hp->(Hp->Prop)->Prop:=λo i v H Q=>∃p Z k j,o=.ref p/\i=.int k/\H p=some (.lst Z)/\dY Z.length k=some j/\Q (upd H p (.lst (Z.set j v)))
def set_list:Ke X VN:=by
 intro N s σ H o i v E D u Q I M L K h;obtain⟨p,J,k,j,rfl,rfl,T,G,q⟩:=h;cases M;obtain⟨t,rfl⟩:=L;obtain⟨its,n,r,Y,F⟩:=I.lst T;obtain⟨Z,C,S,R⟩:=z3 G;have V:=r.length;have B:=ox
 have P:Inv X N σ (upd H p (.lst (J.set j v))) { s with heap:=s.heap.update p (Œ (·.setIfInBounds j u)) } :=
  I.T5 T Y (NS its n j u) (r.set K j) (by rw[Č];exact F) s.toks
 by_cases O:0<=k
 ·have U:k.toNat=j:=by
   rw[seqIndex_of O R] at Z;exact ab4 Z
  exact PySem.W.ki_setAt Y O (by omega) (by rw[Ù,<- V];exact R) (by rw[U];exact⟨_,P,q⟩)
 ·have U:(k+(its.toArray.size:Int)).toNat=j:=by
   rw[seqIndex_neg (by omega) S] at Z;rw[Ù,<- V];exact ab4 Z
  exact PySem.W.ki_setBack Y (by omega) (by rw[Ù,<- V];exact S) (by omega) (by rw[U];exact⟨_,P,q⟩)
def MJ (lo hi:Option Int) (n:Nat):(aa4 lo hi none n).1=((HT.aP n 0 lo:Nat):Int)/\(aa4 lo hi none n).2.1=((HT.aP n n hi:Nat):Int)/\(aa4 lo hi none n).2.2=1:=by
 refine⟨?_,?_,rfl⟩
 ·cases lo with
  |none=>simp[aa4,HT.aP]
  |some i =>
   simp only[aa4,HT.aP,Option.getD_none,show (1:Int) > 0 by decide,ô];by_cases h:i<0
   ·simp only[h,ô]<;>omega
   ·simp only[h,ä]<;>omega
 ·cases hi with
  |none=>simp[aa4,HT.aP]
  |some i =>
   simp only[aa4,HT.aP,Option.getD_none,show (1:Int) > 0 by decide,ô];by_cases h:i<0
   ·simp only[h,ô]<;>omega
   ·simp only[h,ä]<;>omega
def Mu (its:List Å) (lo hi:Option Int):slicePick its.toArray lo hi none=((its.drop (HT.aP its.length 0 lo)).take (HT.aP its.length its.length hi-HT.aP its.length 0 lo)).toArray:=by
 obtain⟨Z,Y,X⟩:=MJ lo hi its.toArray.size;unfold slicePick;rw[Z,Y,X]
 simp only[sliceRange_one,pick_run,Ù]<;>rfl
def Xg (K:Ē):V->Option Int->Option Int->Hp->VK->Prop:=λx lo hi H Q=>∃a Z,x=.ref a/\aZ K H a Z/\∀p,H p=none->Q (.ref p) (upd H p (.lst (jZ Z lo hi)))
def RU:uF X (Xg X.K):=by
 intro R s σ H x v P O lo hi N Q I V hs U pu h;obtain⟨a,Z,rfl,T,q⟩:=h;cases V;obtain⟨its,r,W,S⟩:=I.list T;have Y:=r.length;refine⟨"list",_,slot_list_getitem.lookup,W.isList.typeIs,?_⟩
 refine wpAny_getItem_list_slice W.isList hs U pu .none (by simp) ?_ (by rw[Ù]<;>omega)
 rw[Mu,<- Y];refine⟨.ref s.heap.objs.size,_,I.laid (t':=s.toks) (o:=.lst (jZ Z lo hi)) (λb M q=>Á _ q) (ab3 _) ?_,rfl,q _ (I.aC.fresh (ab3 _))⟩;exact⟨à (Fi Z lo hi) S,_,0,(r.drop (HT.aP Z.length 0 lo)).take (HT.aP Z.length Z.length hi-HT.aP Z.length 0 lo),Í _ rfl⟩
def yS:bY X (.builtin "len") (λxs H Q=>∃p ys,xs=[.ref p]/\(aZ X.K H p ys\/bp X.K H p ys)/\Q (.int ys.length) H):=by
 intro T s σ H xs S Q I r h;obtain⟨p,ys,rfl,hq,q⟩:=h;obtain⟨u,rfl,V⟩:=vals1 r;cases V;have R:=ox
 rcases hq with hq|hq
 ·obtain⟨its,Y,W,U⟩:=I.list hq
  have Z:=Y.length
  exact Calls.call_len_list W.isList (by simp only[Ù]<;>omega) ⟨.int ys.length,H,I.tok _,⟨s.toks+1,by rw[Ù,Z]⟩,q⟩
 ·obtain⟨its,Y,W,U⟩:=I.tuple hq
  have Z:=Y.length
  exact len_tuple W (by simp only[Ù]<;>omega) ⟨.int ys.length,H,I.tok _,⟨s.toks+1,by rw[Ù,Z]⟩,q⟩
def MK:bY X (.builtin "len") (λxs H Q=>∃z,xs=[.str z]/\z.length<=Ñ/\Q (.int z.length) H):=by
 intro Z s σ H xs Y Q I r h;obtain⟨z,rfl,W,q⟩:=h;obtain⟨u,rfl,t,rfl⟩:=vals1 r;have V:=ox;exact len_str (by omega) ⟨.int z.length,H,I.tok _,⟨_,rfl⟩,q⟩
def E4:bY X (.type "list") (λxs H Q=>∃p ys,xs=[.ref p]/\(aZ X.K H p ys\/bp X.K H p ys)/\∀l,H l=none->Q (.ref l) (upd H l (.lst ys))):=by
 intro M s σ H xs J Q I r h;obtain⟨p,ys,rfl,hq,q⟩:=h;obtain⟨u,rfl,L⟩:=vals1 r;cases L;have fin:∀(its:List Å),Vals ys its->ys.length<=Ñ->∀(Z:Ī) (Y:Nat),(∀b N,s.heap.get? b=some N->Z.get? b=some N) ->
   Z.get? s.heap.objs.size=some { cls:=.type "list",dict:=none,data:=.seq its.toArray Y,slots:=#[] }->EP X M σ Q (.ref s.heap.objs.size) { s with heap:=Z }:=λits W V Z Y U e =>
  ⟨.ref s.heap.objs.size,_,I.laid (t':=s.toks) U (ab3 _) (show di X.prog X.w _ Z _ (.lst ys) from ⟨V,its,Y,W,e⟩),rfl,q _ (I.aC.fresh (ab3 _))⟩
 rcases hq with hq|hq
 ·obtain⟨its,W,S,V⟩:=I.list hq
  have T:=W.length;obtain⟨o,R,P,n,O⟩:=S.isList
  exact call_list_seq p (.inl rfl) R P O (λZ Y U e=>fin its W V Z Y U e) (by simp only[Ù]<;>omega)
 ·obtain⟨its,W,S,V⟩:=I.tuple hq
  have T:=W.length;obtain⟨o,R,P,n,O⟩:=S
  exact call_list_seq p (.inr rfl) R P O (λZ Y U e=>fin its W V Z Y U e) (by simp only[Ù]<;>omega)
def EY:bY X (.type "tuple") (λxs H Q=>∃p ys,xs=[.ref p]/\((aZ X.K H p ys/\∀l,H l=none->Q (.ref l) (upd H l (.tup ys)))\/(bp X.K H p ys/\Q (.ref p) H))):=by
 intro U s σ H xs M Q I r h;obtain⟨p,ys,rfl,h⟩:=h;obtain⟨u,rfl,P⟩:=vals1 r;cases P
 rcases h with ⟨Y,q⟩ | ⟨Y,q⟩
 ·obtain⟨its,W,V,T⟩:=I.list Y
  have S:=W.length
  refine call_tuple_list V.isList (λZ O=>?_) (by simp only[Ù]<;>omega)
  have R:Inv X U σ H { s with heap:=Z }:=I.kept (t':=s.toks) O
  have N:Inv X U σ (upd H Z.objs.size (.tup ys)) { s with heap:=Z.push { cls:=.type "tuple",data:=.seq its.toArray } } :=
   R.laid (t':=s.toks) (λb o e=>Á _ e) (ab3 _) (show di X.prog X.w _ _ _ (.tup ys) from ⟨T,its,W,IsTup.new _ _⟩)
  exact⟨.ref Z.objs.size,_,N,rfl,q _ (R.aC.fresh (ab3 _))⟩
 ·obtain⟨its,W,V,T⟩:=I.tuple Y
  exact call_tuple_same V ⟨.ref p,H,I,rfl,q⟩
def K8 (K:Ē) (T:String) (x:V) (H:Hp):Prop:=match x with
 | .str _=>T="str"
 | .int _=>T="int"
 | .ref p=>(T="list"/\∃Y,aZ K H p Y)\/(T="tuple"/\∃o,K.lookup p=some o/\o.cls=.type "tuple"/\o.dict=none) \/
   (T="dict"/\((∃Z,H p=some (.dK Z))\/∃Z,H p=some (.dT Z)))\/(T="set"/\∃S n,H p=some (.set S n))
 |_=>False
def T6 {π:List (Ú×Obj)} {σ:St} {H:Hp} {s:Ä} {T:String} {x:V} {v:Å} (I:Inv X π σ H s) (r:RelV x v) (ty:K8 X.K T x H) :
  s.TypeIs v T/\∀a,v=.ref a->∃ob,s.heap.get? a=some ob/\ob.dict=none:=by
 cases x with
 |str z =>
  obtain⟨t,rfl⟩:=r;cases (show T="str" from ty)
  exact⟨typeIs_str s z t,λ_ e=>nomatch e⟩
 |int i =>
  obtain⟨t,rfl⟩:=r;cases (show T="int" from ty)
  exact⟨typeIs_int s i t,λ_ e=>nomatch e⟩
 |ref p =>
  cases r
  rcases ty with ⟨rfl,P,U⟩ | ⟨rfl,o,Z,R,Y⟩ | ⟨rfl,Z⟩ | ⟨rfl,S,n,Z⟩
  ·obtain⟨its,_,W,_⟩:=I.list U
   refine⟨W.isList.typeIs,λa e=>?_⟩;cases e;obtain⟨o,n,e,c,Y,_⟩:=W;exact⟨o,e,Y⟩
  ·refine⟨⟨o,I.iA p o Z,R⟩,λa e=>?_⟩
   cases e;exact⟨o,I.iA _ o Z,Y⟩
  ·have z:∃o,s.heap.get? p=some o/\o.ExactDict:=by
    rcases Z with ⟨Q,Z⟩ | ⟨Q,Z⟩
    ·obtain⟨_,_,_,_,o,_,_,e,ex,_⟩:=I.aC p _ Z
     exact⟨o,e,ex⟩
    ·obtain⟨_,_,_,_,o,_,_,e,ex,_⟩:=I.aC p _ Z
     exact⟨o,e,ex⟩
   obtain⟨o,e,ex⟩:=z;refine⟨⟨o,e,ex.1⟩,λa e2=>?_⟩;cases e2;exact⟨o,e,ex.2.1⟩
  ·obtain⟨o,_,_,_,e,ex,_⟩:=I.aC p _ Z
   refine⟨⟨o,e,ex.1⟩,λa e2=>?_⟩;cases e2;exact⟨o,e,ex.2.1⟩
 |_=>exact ĕ ty
def Yc (K:Ē) (T:String) (r:V->List V->Hp->VK->Prop) (to:TE) (t:TA):TE:=fun σ H Q=>to σ H λx Z=>K8 K T x Z/\t σ Z λY X=>r x Y X Q
variable {o e:Ġ} {es:List Ġ} {to:TE} {t:TA} {name:Str} {apos aO:Pos} {T id:String} {r:V->List V->Hp->VK->Prop}
def qG (pa:PlainAttrs T) (slot:Slot T name id) (Yd:typeOf (.builtin id)=pure (.type "method_descriptor")) (hm:uH X id r) (ho:PE X o to) (ha:PA X (e::es) t)
  (iL:Ţ o name X.env (ļ o X.env)=ļ o X.env:=by rfl)
  (iS:((Ħ aO (Ë (e::es) X.env)).all (λx=>!x.1)&&(abJ aO (η [] X.env)).all (λx=>x.1.isSome)
   && decide ((e::es).length+([]:List ź).length+(if ([]:List ź).isEmpty then 0 else 1)<30))=true:=by rfl)
  (iM:(apos.endLine==aO.line)=true:=by rfl) (hs:Ë (e::es) X.env=(false,ļ e X.env)::Ë es X.env:=by rfl) (fW:(Ħ aO (Ë es X.env)).any (·.1)=false:=by rfl) :
  PE X (.Call (.Attribute o name apos) (e::es) [] aO) (Yc X.K T r to t):=by
 intro Z s σ H Q I h;refine wpAny_Call_method_late iL iS iM rfl (aH (ho Z s σ H _ I h) λv U ⟨x,S,Y,W,ty,R⟩=>?_);obtain⟨P,O⟩:=T6 Y W ty;refine⟨T,id,pa,slot,Yd,P,O,?_⟩;have V:=ha aO Z U σ S _ Y R;rw[hs] at V |-
 refine Calls.callWith_builtin (by show (false||(Ħ aO (Ë es X.env)).any (·.1))=false;rw[fW]<;>rfl) (Calls.evalArgs_plain ?_)
 exact aH V λN M ⟨L,J,G,F,E⟩=>hm Z M σ J x L v N Q G W F E
end
def K9 (X:Cx) (id:String) (r:V->List V->Hp->VK->Prop):Prop :=
 ∀(Z:List (Ú×Obj)) (s:Ä) (σ:St) (H:Hp) (x:V) (Y:List V) (v:Å) (W:List Å) (Q:VK),Inv X Z σ H s->RelV x v->Vals Y W->r x Y H Q ->
  Û (ã X.prog X.w) X.A (call (.builtin id) (v::W)) (EP X Z σ Q) X.xe s
def Vals.one:∀{x:V} {us:List Å},Vals [x] us->∃u,us=[u]/\RelV x u
 |_,_,.cons r .nil=>⟨_,rfl,r⟩
theorem Vals.eraseIdx:∀{xs:List V} {us:List Å} (i:Nat),Vals xs us->Vals (xs.eraseIdx i) (us.eraseIdx i)
 |_,_,_,.nil=>.nil
 |_,_,0,.cons _ t=>t
 |_,_,i+1,.cons r t=>.cons r (Vals.eraseIdx i t)
theorem Vals.rep (h:Vals xs us):∀k:Nat,Vals (Ò k xs).flatten (Ò k us).flatten
 |0=>.nil
 |k+1=>by
  rw[Ŀ,Ŀ,ŀ,ŀ];exact Vals.append h (Vals.rep h k)
theorem FZ {α:Type}:∀(l:List α) (i:Nat),(l.eraseIdx i).length<=l.length
 | [],_=>ab3 _
 |_::_,0=>aay _
 |_::r,i+1=>Nat.succ_le_succ (FZ r i)
theorem foldl_rep (its:List Å):∀(k:Nat) (acc:List Å),
  List.foldl (λx1 x2=>x1++x2) acc.toArray (Ò k its.toArray)=(acc++(Ò k its).flatten).toArray
 |0,acc=>by simp
 |k+1,acc=>by
  have e:acc.toArray++its.toArray=(acc++its).toArray:=by simp
  have e2:(acc++its)++(Ò k its).flatten=acc++(Ò (k+1) its).flatten:=by
   rw[Ŀ,ŀ,Ł]
  rw[<- e2,<- foldl_rep its k (acc++its),<- e,Ŀ,List.foldl_cons]
section
variable {X:Cx} {π:List (Ú×Obj)} {σ:St} {H:Hp} {s:Ä} {l b:Ú} {xs ys zs:List V}
def Inv.Kj {its its':List Å} {n:Nat} {f:Array Å->Array Å} {t':Nat} (I:Inv X π σ H s) (hH:H l=some (.lst xs))
  (e:s.heap.get? l=some { cls:=.type "list",data:=.seq its.toArray n }) (hf:f its.toArray=its'.toArray) (hv:Vals ys its') (hz:ys.length<=Ñ) :
  Inv X π σ (upd H l (.lst ys)) { s with heap:=s.heap.update l (Œ f),toks:=t' }:=by
 have q:=PySem.IsL.update e f;rw[hf] at q;refine I.write (x:=l) (e:=l) (by rw[hH];exact trivial) (.inl rfl) (λW u Z Y=>(ż s.heap (Œ f) (Ź Z)).trans Y) ⟨_,q⟩ ?_;exact⟨hz,its',_,hv,q⟩
def Inv.Kk (I:Inv X π σ H s) (hv:Vals ys its) (hz:ys.length<=Ñ) :
  Inv X π σ (upd H s.heap.objs.size (.lst ys)) { s with heap:=s.heap.push { cls:=.type "list",data:=.seq its.toArray },toks:=t' } :=
 I.laid (λ_ _ q=>Á _ q) (ab3 _) ⟨hz,its,0,hv,Í _ rfl⟩
theorem Inv.fresh (I:Inv X π σ H s):H s.heap.objs.size=none:=I.aC.fresh (ab3 _)
def Inv.tW (I:Inv X π σ H s) (hH:H l=some (.lst xs)):xs.length<=Ñ/\∃(its:List Å) (n:Nat),Vals xs its/\xs.length=its.length/\s.heap.get? l=some { cls:=.type "list",data:=.seq its.toArray n }:=by
 obtain⟨z,its,n,r,e⟩:=I.aC l _ hH;exact⟨z,its,n,r,r.length,e⟩
def P6 (h:n<=Ñ):aaF n=false:=by
 unfold aaF;exact ç (by omega)
end
section
variable {X:Cx}
def RV:V->List V->Hp->VK->Prop:=λx Y H Q=>∃l Z y,x=.ref l/\Y=[y]/\H l=some (.lst Z)/\Z.length<Ñ/\Q .ao (upd H l (.lst (Z++[y])))
def OK:K9 X "list.append" RV:=by
 intro U s σ H x T v S Q I Y W h;obtain⟨l,R,y,rfl,rfl,Z,P,q⟩:=h;cases Y;obtain⟨u,rfl,V⟩:=W.one;obtain⟨z,its,n,r,O,e⟩:=I.tW Z;refine ŷ F.slot_list_append ⟨_,e,rfl⟩ F.entry_list_append (F.args_list_append_2 _ _) (PySem.list_append l its.toArray n u (by rw[Ù];omega)) ⟨e,?_⟩;refine⟨.ao,_,I.Kj (its':=its++[u]) Z e (by simp) (r.append (.cons V .nil)) ?_,rfl,q⟩;rw[é,List.length_singleton];omega
def T7:V->List V->Hp->VK->Prop:=λx Y H Q=>∃l Z i k y,x=.ref l/\Y=[.int i]/\H l=some (.lst Z)/\-(2 ^ 63)<=i/\i<2 ^ 63/\seqIndex? i Z.length=some k/\Z[k]?=some y/\Q y (upd H l (.lst (Z.eraseIdx k)))
def P7:K9 X "list.pop" T7:=by
 intro M s σ H x L v K Q I Y W h;obtain⟨l,V,i,k,y,rfl,rfl,Z,U,T,S,R,q⟩:=h;cases Y;obtain⟨u,rfl,P⟩:=W.one;obtain⟨t,rfl⟩:=P;obtain⟨z,its,n,r,O,e⟩:=I.tW Z;obtain⟨w,hw,N⟩:=r.get R;refine ŷ F.slot_list_pop ⟨_,e,rfl⟩ F.entry_list_pop (F.args_list_pop_2 _ _)
  (MeetsSeq.list_pop_at l its.toArray n i t k w (fitsIndex_both U T) (by rw[Ù,<- O];exact S) (by rw[<- Ĥ];exact hw) (by rw[Ù];omega)) ⟨e,?_⟩
 refine⟨y,_,I.Kj (its':=its.eraseIdx k) Z e ?_ (r.eraseIdx k) ?_,N,q⟩
 ·show its.toArray.eraseIdxIfInBounds k=(its.eraseIdx k).toArray
  rw[List.eraseIdxIfInBounds_toArray]
 ·have:=FZ V k
  omega
def Xh:R2:=λx y H Q=>∃l b Z zs,x=.ref l/\y=.ref b/\H l=some (.lst Z)/\H b=some (.lst zs)/\Z.length+zs.length<=Ñ/\∀p,H p=none->Q (.ref p) (upd H p (.lst (Z++zs)))
def T8:bt X (ń .Add) Xh:=by
 intro R s σ H x y v u Q I Y W h;obtain⟨l,b,O,zs,rfl,rfl,V,U,N,q⟩:=h;cases Y;cases W;obtain⟨z,its,n,r,M,e⟩:=I.tW V;obtain⟨L,Z,K,T,J,e2⟩:=I.tW U;refine PySem.P.add_list e e2 ?_ (by rw[Ù,Ù];omega);have S:its.toArray++Z.toArray=(its++Z).toArray:=by simp
 rw[S];exact⟨.ref _,_,I.Kk (t':=s.toks) (r.append T) (by rw[é];omega),rfl,q _ I.fresh⟩
def Xi:R2:=λx y H Q=>∃l k Z,x=.ref l/\y=.int k/\H l=some (.lst Z)/\-(2 ^ 63)<=k/\k<2 ^ 63/\Z.length*k.toNat<=Ñ /\
 ∀p,H p=none->Q (.ref p) (upd H p (.lst (Ò k.toNat Z).flatten))
def len_rep {α:Type} (xs:List α) (k:Nat):(Ò k xs).flatten.length=k*xs.length:=by
 induction k with
 |zero=>simp
 |succ k ih=>rw[Ŀ,ŀ,é,ih,Nat.succ_mul,Nat.add_comm]
def T9:bt X (ń .Mult) Xi:=by
 intro D s σ H x y v u Q I S R h;obtain⟨l,k,C,rfl,rfl,P,O,N,V,q⟩:=h;cases S;obtain⟨t,rfl⟩:=R;obtain⟨z,its,n,r,M,e⟩:=I.tW P;have Z:its.toArray.size*k.toNat<=Ñ:=by rw[Ù,<- M];exact V
 have L:¬ its.toArray.size*k.toNat > (2 ^ 63-1) / 8:=by
  have:(Ñ:Nat)<=(2 ^ 63-1) / 8:=by decide
  omega
 have K:¬ (!Builtin.List.listFitsIndex k)=true:=by
  rw[fitsIndex_both O N];exact Õ
 have J:¬ aaF (its.toArray.size*k.toNat)=true:=by
  rw[P6 Z];exact Õ
 have G:List.foldl (λY W=>Y++W) #[] (Ò (if its.toArray.isEmpty=true then 0 else k.toNat) its.toArray)=(Ò k.toNat its).flatten.toArray:=by
  have f0:∀m:Nat,List.foldl (λY W=>Y++W) #[] (Ò m its.toArray)=(Ò m its).flatten.toArray:=λm=>by
   have:=foldl_rep its m [];rw[Ķ] at this;exact this
  rw[f0]
  cases its with
  |nil=>simp
  |cons a B=>rw[ì (by simp)]
 refine wpAny_binaryOp_repeat_ref (T:="list") (U:="int") (by decide) ⟨_,e,rfl⟩ (λE=>typeIs_int E k t) noFill_list_mul F.fills_int_mul abz repeat_list F.slot_int_index.lookup
  (ŷ abz (typeIs_int s k t) F.entry_int_rmul (F.args_int_rmul_2 _ _) (int___rmul___int_list k t l its.toArray n)
   ⟨e,rfl,⟨_,e,rfl⟩,ŷ F.slot_list_mul ⟨_,e,rfl⟩ F.entry_list_mul (F.args_list_mul_2 _ _) (AutoListH.list___mul___list_int_3 l its.toArray n k t K L J) ⟨e,?_⟩⟩)
 rw[G];exact⟨.ref _,_,I.Kk (t':=s.toks) (r.rep k.toNat) (by rw[len_rep,Nat.mul_comm];exact V),rfl,q _ I.fresh⟩
end
section
variable {prog:â} {w:Ą} {A:î} {E:Å->Ä->Prop} {s:Ä}
set_option maxRecDepth 100000 in
end
section
variable {X:Cx}
end
end L2
namespace La
open PySem PySem.W PySem.Calls PyProof.Rows
def Mh:∀(ns:List Int) (vs:List Å),WellAll P h vs (ns.map WData.int)->aa3 vs ns:=by
 intro ns
 induction ns with
 |nil =>
  intro vs w;rw[Ő] at w;cases w;exact .nil
 |cons n ns ih =>
  intro vs w;rw[á] at w
  cases w with
  |cons a b =>
   cases a;exact .cons _ _ (ih _ b)
def OL {l:OpenLaw} {n:Nat} (hn:l.most=some n) {P:Params} {h:Ī} {args:List WData} {vals:List Å}
  (xC:l.row.toRowW.claim.pre args=true) (CK:WellAll P h vals args) :
  ∃a vs ns,vals=[aab a]/\args=[WData.list (ns.map WData.int)]/\h.get? a=some { cls:=.type "list",data:=.seq vs.toArray }/\aa3 vs ns/\ns.length<=n:=by
 have V:WShape.hasAll [] args [.list .int]=true:=(pre_splitW xC).1;have W:l.pre.holds [] { args:=args }=true:=(pre_splitW xC).2;obtain⟨d,r,rfl,U,T⟩:=hasAllW_cons V;obtain rfl:=hasAllW_nil T;obtain⟨L,rfl,S⟩:=hasW_list U;obtain⟨ns,rfl⟩:=items_int S;have Z:ns.length<=n:=by
  unfold OpenLaw.pre at W;have Y:(WTm.not (.lt (.lit (.int (n:Int))) (.len (.arg 0)))).holds [] { args:=[.list (ns.map .int)] }=true:=by
   have Y:=(holds_andW W).1;rw[hn] at Y;exact Y
  have X:=condW_of Y (w_not (w_lt w_lit (w_len_list (w_arg rfl))));rw[É] at X;refine Ű λq=>?_;have R:(n:Int)<((ns.length:Nat):Int):=by omega
  first
   |(rw[Ó R] at X;exact absurd X (by decide))
   |(simp at X;omega)
 cases CK with
 |cons Q O =>
  cases O
  cases Q with
  |list N M=>exact⟨_,_,ns,rfl,rfl,N,Mh ns _ M,Z⟩
def OM (l:OpenLaw) (args:List WData):l.row.toRowW.claim.post args (.bool true) args=true :=
 postW_of (r:=l.row.toRowW) (X:=(true==true))
  (show WShape.has [] (.bool true) .bool=true by first|rfl|decide|simp[WShape.has,WShape.arms,WShape.armsAll])
  (show (WTm.eq .res (.lit (.bool true))).value [] { args:=args,res:=some (.bool true),after:=args }=some (.bool (true==true)) from w_eq_bool (w_res rfl) w_lit) rfl
def Nh {l:OpenLaw} {n:Nat} {q:â} {loose:List Str} {XP:(Str->Option Å)->Ī->Prop} {YP:Ą->Ī->Prop} {d:DefRec}
  (hn:l.most=some n) (uJ:d.params.defaults=[])
  (call:∀(w:Ą) (cM bb:Ä) (mg mb:Str->Option Å) (fa:Ú) (o:Obj) (pm cd doc:Å) (a:Ú) (vs:List Å) (ns:List Int),
   Ground q loose [] XP w cM mg mb bb.heap->YP w bb.heap ->
   bb.heap.get? fa=some o->o.data=.func (docDef d.name d.params d.body d.scope pm cd doc)->bb.heap.CodeRec cd d.name->mg d.name=some (.ref fa) ->
   bb.heap.get? a=some { cls:=.type "list",data:=.seq vs.toArray }->aa3 vs ns->ns.length<=n->bb.gens=#[] ->
   δ (ã l.prog w) callerA (.call (.ref fa) ⟨[.ref a],[]⟩) (λr s'=>r=.ok (.ret (.bool true))/\OldK bb.heap s'.heap/\s'.os=bb.os/\abU s'.gens) bb) :
  WalkO q loose XP YP l.row.toRowW d [] (λf vs=>PySem.call f vs):=by
 intro w cM bb mg mb G Y fa o pm cd doc W kV V U T X S R args vals as Q P O N F;obtain rfl:W=.none:=Dflts.none X uJ;obtain rfl:kV=.none:=Dflts.noKw X;obtain⟨a,vs,ns,rfl,rfl,M,hints,Z⟩:=OL hn Q N;refine enter_call (Ŏ (call w cM bb mg mb fa o pm cd doc a vs ns G Y V (fd_plain U) T S M hints Z R) λr s' L=>?_);obtain⟨rfl,K,J,I⟩:=L
 exact⟨.inl ⟨.bool true,.bool true,[],rfl,λ_=>rfl,.bool true,OM l _,λ_=>⟨List.Pairwise.nil,λ_ H=>(nomatch H)⟩⟩,K,J,I⟩
section
variable {prog:â} {w:Ą} {A:î} {E:Å->Ä->Prop} {s:Ä} {K:Ē}
noncomputable def ledger (h:Ī) (L d:Ú):List (Ú×Obj):=(Ā h.objs.size).filterMap λa=>if a=L\/a=d then none else (h.get? a).map λo=>(a,o)
end
end La
namespace L2
open PySem PySem.Spec PyProof.Rows
theorem F0:∀{vs:List Å} {ns:List Int},aa3 vs ns->Vals (ns.map V.int) vs
 |_,_,.nil=>.nil
 |_,_,.cons n t h=>.cons ⟨t,rfl⟩ (F0 h)
noncomputable abbrev KOf {K:Ē} {h:Ī} (_:K.In h):Ē:=K
noncomputable def oq (s:abM):abR:=match s with
 | .FunctionDef _ a _ _ _ _ _ _ _ _=>a
 |_=>{ posonlyargs:=[],args:=[],vararg:=none,kwonlyargs:=[],kw_defaults:=[],kwarg:=none,defaults:=[] }
noncomputable def ie (s:abM):List abM:=match s with
 | .FunctionDef _ _ b _ _ _ _ _ _ _=>b
 |_=>[]
noncomputable def cG (s:abM):ſ:=match s with
 | .FunctionDef _ _ _ _ _ _ sc _ _ _=>sc
 |_=>{ kind:=.function,names:=[],isGenerator:=false,isCoroutine:=false }
abbrev dg:iX:=λ_ _ _ _ _ _=>False
abbrev E0:XK:=λ_ _ _=>False
def VP:Passes dg X E0:=λ_ _ _ _ _ _ _ h=>h.elim
structure pG (K:Ē) (x qual:Str) (st:abM) (f:Ú) (fd:ĝ):Prop where
 ex:∃(oc:Å) (od:Option Ú) (kV doc pm:Å) (an:Option Ú) (aS ct:Å) (iY:Array (Option Å)),
  fd=ŏ x qual (oq st) (ie st) (cG st) .none kV doc pm an aS ct/\K.lookup f=some ⟨oc,od,.func fd,iY⟩/\aae K aS qual=true
 kp:ı K (.ref f)=true
section
variable {P:â} {w:Ą} {K:Ē} {mg:Str->Option Å} {base:Ī}
def pG.ok {x qual:Str} {st:abM} {f:Ú} {fd:ĝ} {N ps:List Str} {k:Nat} {sp:Sp} (F:pG K x qual st f fd) (S:oo N ps (cG st)) (len:∀vs H Q E,sp vs H Q E->vs.length=ps.length)
  (jW:∀(aS:Å) (A:î) (outer:List Env) (s:Ä) (H:Hp) (vs:List V) (Q:VK) (E:XK),bP k (A.deeper (abY qual (cG st) s.heap.objs.size f aS))->sp vs H Q E ->
   ∃t,cS (gR dg P w K mg base N qual (cG st) f aS A outer s H E).mq (ie st) t/\t { nx:=λ_ H'=>Q .ao H',rt:=Q } (start N vs) H):cR P w K mg base dg (k+1) f fd ps sp:=by
 obtain⟨W,U,kV,doc,pm,an,aS,T,R,rfl,lk,Z⟩:=F.ex;refine Bh lk Z S len λA outer s H vs Q E Y X=>?_;obtain⟨t,h,q⟩:=jW aS A outer s H vs Q E Y X;exact⟨t,h.mq,q⟩
def pG.binds {x qual:Str} {st:abM} {f:Ú} {fd:ĝ} {ps:List Str} (F:pG K x qual st f fd)
  (h:∀(kV doc pm:Å) (an:Option Ú) (aS ct:Å) (us:List Å),us.length=ps.length->bindArgs (ŏ x qual (oq st) (ie st) (cG st) .none kV doc pm an aS ct) ⟨us,[]⟩=pure (ps.zip us)):Binds K fd ps []:=by
 obtain⟨Z,Y,kV,doc,pm,an,aS,ct,X,rfl,lk,W⟩:=F.ex;exact .all (h kV doc pm an aS ct)
def Ih {x qual:Str} {st:abM} {f:Ú} {oc:Å} {od an:Option Ú} {iY:Array (Option Å)} {kV doc pm aS ct:Å} (l:K.lookup f=some ⟨oc,od,.func (ŏ x qual (oq st) (ie st) (cG st) .none kV doc pm an aS ct),iY⟩)
  (c:aae K aS qual=true) (k:ı K (.ref f)=true):pG K x qual st f (ŏ x qual (oq st) (ie st) (cG st) .none kV doc pm an aS ct):=⟨⟨oc,od,kV,doc,pm,an,aS,ct,iY,rfl,l,c⟩,k⟩
end
section
variable {X:Cx}
end
def j3 (H H':Hp):Prop:=∀b o,H b=some o->H' b=some o
def j3.refl (H:Hp):j3 H H:=λ_ _ h=>h
def NT (J:Nat->Ä->Prop)
 (turn:∀n s,J n s->Û (ã P w) A (aac gp) (λr s1=>match r with
   |none=>R (.ok .next) s1
   |some v=>Û (ã P w) A (Ň tg gp v) (λ_ s2=>Û (ã P w) A (abH tg ce v) (λ_ s3 =>
     Û (ã P w) A (forIn tests true λc r=>if r=true then do let ok <- isTrue c ce (ļ c ce);pure (ķ ok) else pure (ķ r)) (λok s4 =>
      if ok=true then Û (ã P w) A (ļ el ce) (λy s5=>Û (ã P w) A (call (.builtin "list.append") [av,y]) (λ_ s6=>∃m,m<n/\J m s6) (λ_ _=>False) s5) (λ_ _=>False) s4
      else ∃m,m<n/\J m s4) (λ_ _=>False) s3) (λ_ _=>False) s2) (λ_ _=>False) s1) (λ_ _=>False) s)
 (n:Nat) (h:J n s):δ (ã P w) A (.compLoop (.ListComp el [⟨tg,src,tests,0⟩] sc ps) 0 gp av ce) R s:=by
 refine codeAny_loop rfl J (λn s X=>?_) n h
 show Û _ A ((compTurn (.ListComp el [⟨tg,src,tests,0⟩] sc ps) 0 gp av ce).onRaise (λx=>do noteFrame x ce;theTreesLotGoes x)) _ _ s
 refine wpAny_noted ?_;rw[compTurn_list];refine À (Š (À (Ĕ (turn n s X) (λr s1 Z=>?_) λ_ _ z=>z.elim)))
 cases r with
 |none=>exact Ã Z
 |some v =>
  refine À (Ĕ Z (λ_ s2 W=>?_) λ_ _ z=>z.elim);refine À (Ĕ W (λ_ s3 V=>À (Ĕ V (λok s4 Y=>?_) λ_ _ z=>z.elim)) λ_ _ z=>z.elim)
  cases ok with
  |false=>exact Ã ⟨rfl,Y⟩
  |true =>
   exact À (À (Ĕ Y (λy s5 U=>À (Ĕ U (λ_ s6 T=>Ã (Ã ⟨rfl,T⟩)) λ_ _ z=>z.elim)) λ_ _ z=>z.elim))
theorem zz (env:Env):∀(l:List (Str×ť)) (acc:List (Str×Ú)),(∀n,(n,ë)∈l->∃c,env.cells.lookup n=some c) ->
  ∃cl,(forIn l acc (λ(p:Str×ť) (cs:List (Str×Ú))=>(do
   if (p.2==ë)=true then do let c <- cellOf env p.1;pure (ķ ((p.1,c)::cs)) else pure (ķ cs):Sem (ForInStep (List (Str×Ú))))))=pure cl /\
   ∀n c,cl.lookup n=some c↔(((n,ë)∈l/\env.cells.lookup n=some c)\/((n,ë)∉l/\acc.lookup n=some c))
 | [],acc,_=>⟨acc,rfl,λn c=>by simp⟩
 |(x,k)::r,acc,h=>by
  rw[aaO]
  cases Y:(k==ë) with
  |false =>
   have U:k≠.free:=by intro e;rw[e] at Y;cases Y
   obtain⟨cl,e,q⟩:=zz env r acc λn X=>h n (Ï _ X);refine⟨cl,?_,λn c=>?_⟩
   ·simp only[Â,ä]
    exact e
   ·rw[q n c]
    have:(n,ë)∈(x,k)::r↔(n,ë)∈r:=by
     constructor
     ·intro Z
      rcases Ô.mp Z with z|z
      ·injection z with _ T
       exact absurd T.symm U
      ·exact z
     ·exact Ï _
    rw[this]
  |true =>
   have S:k=.free:=by cases k<;>first|rfl|cases Y
   subst S;obtain⟨R,W⟩:=h x Ø;obtain⟨cl,e,q⟩:=zz env r ((x,R)::acc) λn X=>h n (Ï _ X);refine⟨cl,?_,λn c=>?_⟩
   ·simp only[ô,cellOf,W]
    exact e
   ·rw[q n c]
    by_cases V:n=x
    ·subst V
     constructor
     ·rintro (⟨_,z⟩ | ⟨_,z⟩)
      ·exact .inl ⟨Ø,z⟩
      ·rw[ğ,ą] at z
       exact .inl ⟨Ø,W.trans z⟩
     ·rintro (⟨_,z⟩ | ⟨z,_⟩)
      ·by_cases Z:(n,ë)∈r
       ·exact .inl ⟨Z,z⟩
       ·refine .inr ⟨Z,?_⟩
        rw[ğ,ą];exact W.symm.trans z
      ·exact absurd Ø z
    ·have:(n,ë)∈(x,ë)::r↔(n,ë)∈r:=by
      constructor
      ·intro Z
       rcases Ô.mp Z with z|z
       ·injection z with Q _
        exact absurd Q V
       ·exact z
      ·exact Ï _
     rw[this,ğ,beq_false_of_ne V]
def Ii (h:∀n,(n,ë)∈sc.names->∃c,env.cells.lookup n=some c) :
  ∃cl,closureFor sc env=pure cl/\∀n c,cl.lookup n=some c↔((n,ë)∈sc.names/\env.cells.lookup n=some c):=by
 obtain⟨cl,e,q⟩:=zz env sc.names [] h;refine⟨cl,?_,λn c=>?_⟩
 ·unfold closureFor
  exact(Ľ (λz:Sem (List (Str×Ú))=>z >>= λr=>pure r) e)
 ·rw[q n c]
  simp
theorem Gx (f:Str->ť->ť) (x:Str):∀l:List (Str×ť),(l.map λp=>(p.1,f p.1 p.2)).lookup x=(l.lookup x).map (f x)
 | []=>rfl
 |(n,k)::r=>by
  rw[á,ğ,ğ]
  cases h:x==n with
  |true =>
   have e:x=n:=by simpa using h
   subst e;rfl
  |false=>exact Gx f x r
def vn (sc:ſ) (env:Env) (x:Str):(relabel sc env).names.lookup x=(sc.names.lookup x).map λk=>if (k==ë&&env.scope.kind==.function&&env.kindOf x==some .cell)=true then NameKind.cell else k:=by
 rw[<- Gx (λx k=>if (k==ë&&env.scope.kind==.function&&env.kindOf x==some .cell)=true then NameKind.cell else k)]
 show List.lookup x (sc.names.map _)=_;congr 1;apply List.map_congr_left;rintro ⟨n,k⟩ _;dsimp only
 split<;>rfl
abbrev dJ (X:Cx) (N:List Str) (sc:ſ) (cl:List (Str×Ú)) (C:Ú) (s:Ä) (H:Hp) (ex:List Ú) (pn:List (Ú×Obj)):Cx where
 prog:=X.prog
 w:=X.w
 K:=X.K
 mg:=X.mg
 base:=X.base
 A:=X.A
 N:=N
 cM:=s
 kQ:=H
 env:=compEnvC sc cl C X.env
 outer:=X.stack
 stack:=X.stack
 ex:=ex
 fn:=λ_=>false
 calm:=X.calm
 pn:=pn
 xe:=λ_ _=>False
structure sE (X:Cx) (sc:ſ) (N:List Str) (nt:Nat) (cap:List Nat):Prop where
 kind:sc.kind=.function
 sF:∀x∈sc.names,x.2≠.cell
 names:∀x∈sc.names,x.2=.local->sc.names.lookup x.1=some .local
 frees:∀x∈sc.names,x.2=.free->sc.names.lookup x.1=some .free/\(X.env.scope.names.lookup x.1=some .cell\/X.env.scope.names.lookup x.1=some .free)
 len:N.length=nt+cap.length
 B1:∀(k:Nat) j,cap[k]?=some j->∃x,X.N[j]?=some x/\N[nt+k]?=some x/\(x,ë)∈sc.names
def kC (nt:Nat) (cap:List Nat) (σ:St):St:=Ò nt none++cap.map λj=>(σ[j]?).getD none
def PF (X:Cx) (tests:List Ġ) (t:TT):Prop :=
 ∀(Z:List (Ú×Obj)) (s:Ä) (σ:St) (H:Hp) (Q:Bool->Hp->Prop),Inv X Z σ H s->t σ H Q ->
  Û (ã X.prog X.w) X.A (forIn tests true λc r=>if r=true then do let ok <- isTrue c X.env (ļ c X.env);pure (ķ ok) else pure (ķ r)) (TP X Z σ Q) X.xe s
def Xm:TT:=λ_ H Q=>Q true H
def Ua:PF X [] Xm:=λ_ _ _ H _ I h=>wpAny_tests_nil ⟨H,I,h⟩
def Ub (h:PT X c t):PF X [c] t:=λZ s σ H Q I hw=>wpAny_tests_one (h Z s σ H Q I hw)
def mv (g:TG) (nt:Nat):Prop:=∀(x:V) (o Z:St) (H:Hp) (R:St->Hp->Prop),o.length=nt->g x (o++Z) H R->g x (o++Z) H fun Y W=>(∃X:St,X.length=nt/\Y=X++Z)/\R Y W
def lV (cap:List Nat) (σ:St):St:=cap.map λj=>(σ[j]?).getD none
def Lc (mk:Ú->List V->HO) (kf:List V->Prop) (J:It) (nt:Nat) (caps:St) (g:TG) (tf:TT) (te:TE) (H:Hp) (Q:VK):Prop:=∃W:Nat->Nat->List V->Hp->Prop,(∃m,W 0 m [] H) /\
 ∀i m Z Y,W i m Z Y->(J.stop i Y/\kf Z/\∀D,Y D=none->Q (.ref D) (upd Y D (mk D Z))) \/
  (J.go i Y/\kf Z/\∃N:List V->Hp->Prop,(∀X U,N X U->∃T,T < m/\W (i+1) T X U) /\
   ∀o x S,o.length=nt->J.pB i Y x S->g x (o++caps) S fun R O=>tf R O λb P=>if b=true then te R P λv M=>N (Z++[v]) M else N Z P)
def CW (J:It) (nt:Nat) (caps:St) (g:TG) (tf:TT) (te:TE) (H:Hp) (Q:VK):Prop:=Lc (λ_ Z=>.lst Z) (λZ=>Z.length<=Ñ) J nt caps g tf te H Q
def mY (wi:TI) (nt:Nat) (cap:List Nat) (g:TG) (tf:TT) (te:TE):TE:=fun σ H Q=>wi σ H λJ Z=>CW J nt (lV cap σ) g tf te Z Q
section
variable {fs ex:List Ú} {H H':Hp} {h h1 h2:Ī} {P:â} {w:Ą}
def Un.adopt {D:Ú} {o:HO} (u:Un fs ex H H' h h1) (hp:h.objs.size<=D) (hn:H' D=none):Un fs ex H (upd H' D o) h h1 where
 keep:=u.keep
 slot:=u.slot
 free:=λb Y q n X=>by rw[aX (ß (Ç (Ì q) hp))];exact u.free b Y q n X
 there:=u.there
 fe:=λb Z q=>by rw[aX (cV (u.fe b Z q) hn)];exact u.fe b Z q
 eD:=λb Y Z q=>by rw[aX (cV (u.eD b Y Z q) hn)];exact u.eD b Y Z q
 ff:=λb W q=>by
  obtain⟨more,e⟩:=u.ff b W q;exact⟨more,by rw[aX (cV e hn)];exact e⟩
def Un.but {C:Ú} (u:Un fs ex H H' h h1) (hp:h.objs.size<=C) (sb:ĩ C h1 h2):Un fs ex H H' h h2:=by
 have ne:∀b Z,h.get? b=some Z->b≠C:=λb Z q=>ß (Ç (Ì q) hp);refine⟨λb Z q n X Y=>(sb.2 b (ne b Z q)).trans (u.keep b Z q n X Y),λb Z q n X Y=>?_,u.free,λb Z q Y=>?_,u.fe,u.eD,u.ff⟩
 ·obtain⟨W,e⟩:=u.slot b Z q n X Y
  exact⟨W,(sb.2 b (ne b Z q)).trans e⟩
 ·obtain⟨V,e⟩:=u.there b Z q Y
  exact⟨V,(sb.2 b (ne b Z q)).trans e⟩
def cq.but (x:cq P w H h1) (hn:H C=none) (sb:ĩ C h1 h2):cq P w H h2:=λa o e =>
 (x a o e).dU (λb u Z q=>(sb.2 b (by
  rintro rfl
  rcases Z with z|z
  ·subst z;rw[hn] at e;cases e
  ·rw[hn] at z;cases z)).trans q) (λ_ q=>q) λ_ _ q=>q
def cq.adopt (x:cq P w H h) (hn:H D=none) (new:di P w (upd H D o) h D o):cq P w (upd H D o) h:=λb u e=>by
 by_cases Z:b=D
 ·subst Z;rw[cu] at e;cases e;exact new
 ·rw[aX Z] at e
  exact(x b u e).dU (λc v _ q=>q) (λc q=>by rw[aX (cV q hn)];exact q) λc Y q=>by rw[aX (cV q hn)];exact q
end
section
variable {X:Cx} {sc:ſ} {N:List Str} {nt:Nat} {cap:List Nat} {cl:List (Str×Ú)} {s:Ä} {h1:Ī} {H:Hp} {σ:St} {π:List (Ú×Obj)} {fp:List Ú} {C:Ú} {t':Nat}
def Inv.block (I:Inv X π σ H s) (S:sE X sc N nt cap) (cP:∀n c,cl.lookup n=some c↔((n,ë)∈sc.names/\X.env.cells.lookup n=some c)) (hf:∀b∈fp,fg X π H b) (fJ:∀b∈fp,b<s.heap.objs.size)
  (hk:∀b o,s.heap.get? b=some o->h1.get? b=some o) (hC:s.heap.objs.size<=C) (nE:∃m,h1.Ns C m):Inv (dJ X N sc cl C s H fp (X.pn++π)) [] (kC nt cap σ) H { s with heap:=h1,toks:=t' }:=by
 have Q:∀b∈b9 X.stack,b∈X.env.locals::X.fs:=I.jO;have g:C∉b9 X.stack:=λz=>by
  rcases Ô.mp (I.jO C z) with e|e
  ·exact absurd (Ç I.lt hC) (by rw[e];exact ñ _)
  ·exact I.tR hC e
 have M:∀x,(relabel sc X.env).names.lookup x=some .cell\/(relabel sc X.env).names.lookup x=some .free->(x,ë)∈sc.names:=λx Z=>by
  rw[vn] at Z
  cases e:sc.names.lookup x with
  |none=>rw[e] at Z;rcases Z with z|z<;>cases z
  |some k =>
   have Y:(x,k)∈sc.names:=by
    obtain⟨f,a,e1,_⟩:=List.lookup_eq_some_iff.mp e;rw[e1];simp
   rw[e] at Z
   cases k with
   |free=>exact Y
   |cell=>exact absurd rfl (S.sF _ Y)
   |_=>exfalso;revert Z;simp
 have L:∀x,(x,ë)∈sc.names->∃c,X.env.cells.lookup x=some c:=λx Z=>I.ok.has x (S.frees _ Z rfl).2;have ok:Cx.Ok (dJ X N sc cl C s H fp (X.pn++π)):=by
  refine⟨I.ok.mod,?_,I.ok.glob,I.ok.blt,hC,?_,?_,?_,I.ok.hd,I.ok.frames,.inl rfl,?_,I.bs,à I.ok.iz I.sz,?_,?_,I.stack,I.sr⟩
  ·exact S.kind
  ·intro x y c Z K
   exact I.ok.inj x y c ((cP x c).mp Z).2 ((cP y c).mp K).2
  ·intro x Z
   have Y:=M x Z;obtain⟨c,e⟩:=L x Y;exact⟨c,(cP x c).mpr ⟨Y,e⟩⟩
  ·intro x c Z
   cases Z
  ·intro b W
   refine⟨ß (Ç (fJ b W) hC),λx c e=>?_⟩;exact(hf b W).2.2.2.2.1 x c ((cP x c).mp e).2
  ·intro b o e W
   rcases(hf b W).2.2.2.1 with z|z
   ·exact I.ok.nq b o e z
   ·exact absurd (Ç (Ì e) (à I.ok.iz z)) (ñ _)
  ·intro b W z
   rcases Ô.mp (Q b z) with e|e
   ·exact(hf b W).2.1 e
   ·exact(hf b W).2.2.1 e
 obtain⟨m,Y⟩:=nE;obtain⟨mX,Yf,J⟩:=I.loc;refine⟨ok,rfl,I.bare,Un.kept hk,⟨m,Y,λi x v e1 e2 e3=>?_⟩,λx c e=>?_,I.aC.fresh hC,λx c e=>I.ip x c ((cP x c).mp e).2,λp G=>?_,I.aC.kept hk,?_⟩
 ·
  have hi:nt<=i:=by
   apply Ű;intro P;have:(kC nt cap σ)[i]?=some none:=by
    unfold kC;rw[Ü (by simpa using P),ĥ,Þ P]
   rw[this] at e2;cases e2
  have V:(cap.map λj=>(σ[j]?).getD none)[i-nt]?=some (some v):=by
   have e:=e2;unfold kC at e;rw[Ă (by simpa using hi)] at e;simpa using e
  rw[í] at V
  cases U:cap[i-nt]? with
  |none=>rw[U] at V;cases V
  |some j =>
   rw[U] at V;have ev:(σ[j]?).getD none=some v:=ab4 V;have F:σ[j]?=some (some v):=by
    cases q:σ[j]? with
    |none=>rw[q] at ev;cases ev
    |some z=>rw[q] at ev;exact Ľ some ev
   obtain⟨y,f1,f2,O⟩:=S.B1 _ _ U;rw[Nat.add_sub_cancel' hi] at f2;have E:y=x:=ab4 (f2.symm.trans e1);subst E;obtain⟨g1,g2⟩:=S.frees _ O rfl;have D:pA X.env.scope y:=.inr g2;obtain⟨u,r,l⟩:=J j y v f1 F D;refine⟨u,r,.inr ⟨?_,?_⟩⟩
   ·show (relabel sc X.env).names.lookup y=some .cell\/(relabel sc X.env).names.lookup y=some .free
    rw[vn,g1];simp only[θ];split
    ·exact .inl rfl
    ·exact .inr rfl
   ·rcases l with ⟨k,_⟩ | ⟨_,c,B,A⟩
    ·exfalso
     have w:X.env.scope.names.lookup y=some .local:=k;dsimp only at g2;rw[w] at g2
     rcases g2 with z|z<;>cases z
    ·obtain⟨T,R,hd⟩:=A
     exact⟨c,(cP y c).mpr ⟨O,B⟩,T,hk _ _ R,hd⟩
 ·obtain⟨v,T,R,hd⟩:=I.cell x c ((cP x c).mp e).2
  exact⟨v,T,hk _ _ R,hd⟩
 ·have t:p∈X.pn++π:=by simpa using G
  obtain⟨e,n,ne,h,d⟩:=I.pin p t;refine⟨hk _ _ e,n,ß (Ç (Ì e) hC),λz=>?_,d⟩
  rcases Ô.mp (Q p.1 z) with q|q
  ·exact ne q
  ·exact h q
 ·unfold kC
  rw[é,ζ,É];exact S.len.symm
end
section
variable {X:Cx}
end
inductive Kn where
 |ao|bl|int|str|tup|lst|bK
 deriving DecidableEq
def nF (K:Ē) (H:Hp):V->Kn->Prop
 | .ao,.ao=>True
 | .bl _,.bl=>True
 | .int _,.int=>True
 | .str _,.str=>True
 | .ref a,.tup=>∃Z,bp K H a Z
 | .ref a,.lst=>∃Z,aZ K H a Z
 | .ref a,.bK=>∃Y,H a=some (.dK Y)
 |_,_=>False
noncomputable def qQ:Kn->String->Bool
 | .int,"int"=>true
 | .bl,"int"=>true
 | .bl,"bool"=>true
 | .str,"str"=>true
 | .tup,"tuple"=>true
 | .lst,"list"=>true
 |_,_=>false
section
variable {X:Cx}
def Inv.qw {π:List (Ú×Obj)} {σ:St} {H:Hp} {s:Ä} {a:Ú} {xs:List V} (I:Inv X π σ H s) (h:bp X.K H a xs):∃o,s.heap.get? a=some o/\o.cls=.type "tuple":=by
 obtain⟨its,r,⟨o,e,c,_⟩,_⟩:=I.tuple h;exact⟨o,e,c⟩
def Inv.qx {π:List (Ú×Obj)} {σ:St} {H:Hp} {s:Ä} {a:Ú} {xs:List V} (I:Inv X π σ H s) (h:aZ X.K H a xs):∃o,s.heap.get? a=some o/\o.cls=.type "list":=by
 obtain⟨its,r,⟨o,n,e,c,_⟩,_⟩:=I.list h;exact⟨o,e,c⟩
def Inv.qy {π:List (Ú×Obj)} {σ:St} {H:Hp} {s:Ä} {a:Ú} {aB:List (Key×V)} (I:Inv X π σ H s) (h:H a=some (.dK aB)):∃o,s.heap.get? a=some o/\o.cls=.type "dict":=by
 obtain⟨_,_,W,_,p⟩:=(show di X.prog X.w H s.heap a (.dK aB) from I.aC a _ h);obtain⟨o,U,T,Z,Y,_⟩:=p;exact⟨o,Z,Y.1⟩
def ML:bY X (.builtin "isinstance") (λxs H Q=>∃x k,xs=[x,.ty "int"]/\nF X.K H x k/\Q (.bl (qQ k "int")) H):=by
 intro T s σ H xs S Q I r h;obtain⟨x,k,rfl,Z,q⟩:=h;obtain⟨u,c,rfl,Y,rc⟩:=vals2 r;cases rc
 cases k with
 |ao =>
  cases x with
  |ao =>
   cases Y;exact IsiPair.NoneType_int ⟨.bl false,H,I.tok _,rfl,q⟩
  |_=>exact Z.elim
 |bl =>
  cases x with
  |bl b =>
   cases Y;exact IsiPair.bool_int ⟨.bl true,H,I,rfl,q⟩
  |_=>exact Z.elim
 |int =>
  cases x with
  |int i =>
   obtain⟨t,rfl⟩:=Y;exact IsiPair.int_int ⟨.bl true,H,I,rfl,q⟩
  |_=>exact Z.elim
 |str =>
  cases x with
  |str y =>
   obtain⟨t,rfl⟩:=Y;exact IsiPair.str_int ⟨.bl false,H,I.tok _,rfl,q⟩
  |_=>exact Z.elim
 |tup =>
  cases x with
  |ref a =>
   cases Y;obtain⟨z,W⟩:=Z;obtain⟨o,V,U⟩:=I.qw W;exact IsiPair.tuple_int V U ⟨.bl false,H,I.tok _,rfl,q⟩
  |_=>exact Z.elim
 |lst =>
  cases x with
  |ref a =>
   cases Y;obtain⟨z,W⟩:=Z;obtain⟨o,V,U⟩:=I.qx W;exact IsiPair.list_int V U ⟨.bl false,H,I.tok _,rfl,q⟩
  |_=>exact Z.elim
 |bK =>
  cases x with
  |ref a =>
   cases Y;obtain⟨z,W⟩:=Z;obtain⟨o,V,U⟩:=I.qy W;exact IsiPair.dict_int V U ⟨.bl false,H,I.tok _,rfl,q⟩
  |_=>exact Z.elim
def Mv:bY X (.builtin "isinstance") (λxs H Q=>∃x k,xs=[x,.ty "bool"]/\nF X.K H x k/\Q (.bl (qQ k "bool")) H):=by
 intro T s σ H xs S Q I r h;obtain⟨x,k,rfl,Z,q⟩:=h;obtain⟨u,c,rfl,Y,rc⟩:=vals2 r;cases rc
 cases k with
 |ao =>
  cases x with
  |ao =>
   cases Y;exact IsiPair.NoneType_bool ⟨.bl false,H,I.tok _,rfl,q⟩
  |_=>exact Z.elim
 |bl =>
  cases x with
  |bl b =>
   cases Y;exact IsiPair.bool_bool ⟨.bl true,H,I,rfl,q⟩
  |_=>exact Z.elim
 |int =>
  cases x with
  |int i =>
   obtain⟨t,rfl⟩:=Y;exact IsiPair.int_bool ⟨.bl false,H,I.tok _,rfl,q⟩
  |_=>exact Z.elim
 |str =>
  cases x with
  |str y =>
   obtain⟨t,rfl⟩:=Y;exact IsiPair.str_bool ⟨.bl false,H,I.tok _,rfl,q⟩
  |_=>exact Z.elim
 |tup =>
  cases x with
  |ref a =>
   cases Y;obtain⟨z,W⟩:=Z;obtain⟨o,V,U⟩:=I.qw W;exact IsiPair.tuple_bool V U ⟨.bl false,H,I.tok _,rfl,q⟩
  |_=>exact Z.elim
 |lst =>
  cases x with
  |ref a =>
   cases Y;obtain⟨z,W⟩:=Z;obtain⟨o,V,U⟩:=I.qx W;exact IsiPair.list_bool V U ⟨.bl false,H,I.tok _,rfl,q⟩
  |_=>exact Z.elim
 |bK =>
  cases x with
  |ref a =>
   cases Y;obtain⟨z,W⟩:=Z;obtain⟨o,V,U⟩:=I.qy W;exact IsiPair.dict_bool V U ⟨.bl false,H,I.tok _,rfl,q⟩
  |_=>exact Z.elim
def MM:bY X (.builtin "isinstance") (λxs H Q=>∃x k,xs=[x,.ty "str"]/\nF X.K H x k/\Q (.bl (qQ k "str")) H):=by
 intro T s σ H xs S Q I r h;obtain⟨x,k,rfl,Z,q⟩:=h;obtain⟨u,c,rfl,Y,rc⟩:=vals2 r;cases rc
 cases k with
 |ao =>
  cases x with
  |ao =>
   cases Y;exact IsiPair.NoneType_str ⟨.bl false,H,I.tok _,rfl,q⟩
  |_=>exact Z.elim
 |bl =>
  cases x with
  |bl b =>
   cases Y;exact IsiPair.bool_str ⟨.bl false,H,I.tok _,rfl,q⟩
  |_=>exact Z.elim
 |int =>
  cases x with
  |int i =>
   obtain⟨t,rfl⟩:=Y;exact IsiPair.int_str ⟨.bl false,H,I.tok _,rfl,q⟩
  |_=>exact Z.elim
 |str =>
  cases x with
  |str y =>
   obtain⟨t,rfl⟩:=Y;exact IsiPair.str_str ⟨.bl true,H,I,rfl,q⟩
  |_=>exact Z.elim
 |tup =>
  cases x with
  |ref a =>
   cases Y;obtain⟨z,W⟩:=Z;obtain⟨o,V,U⟩:=I.qw W;exact IsiPair.tuple_str V U ⟨.bl false,H,I.tok _,rfl,q⟩
  |_=>exact Z.elim
 |lst =>
  cases x with
  |ref a =>
   cases Y;obtain⟨z,W⟩:=Z;obtain⟨o,V,U⟩:=I.qx W;exact IsiPair.list_str V U ⟨.bl false,H,I.tok _,rfl,q⟩
  |_=>exact Z.elim
 |bK =>
  cases x with
  |ref a =>
   cases Y;obtain⟨z,W⟩:=Z;obtain⟨o,V,U⟩:=I.qy W;exact IsiPair.dict_str V U ⟨.bl false,H,I.tok _,rfl,q⟩
  |_=>exact Z.elim
def Ml:bY X (.builtin "isinstance") (λxs H Q=>∃x k,xs=[x,.ty "tuple"]/\nF X.K H x k/\Q (.bl (qQ k "tuple")) H):=by
 intro T s σ H xs S Q I r h;obtain⟨x,k,rfl,Z,q⟩:=h;obtain⟨u,c,rfl,Y,rc⟩:=vals2 r;cases rc
 cases k with
 |ao =>
  cases x with
  |ao =>
   cases Y;exact IsiPair.NoneType_tuple ⟨.bl false,H,I.tok _,rfl,q⟩
  |_=>exact Z.elim
 |bl =>
  cases x with
  |bl b =>
   cases Y;exact IsiPair.bool_tuple ⟨.bl false,H,I.tok _,rfl,q⟩
  |_=>exact Z.elim
 |int =>
  cases x with
  |int i =>
   obtain⟨t,rfl⟩:=Y;exact IsiPair.int_tuple ⟨.bl false,H,I.tok _,rfl,q⟩
  |_=>exact Z.elim
 |str =>
  cases x with
  |str y =>
   obtain⟨t,rfl⟩:=Y;exact IsiPair.str_tuple ⟨.bl false,H,I.tok _,rfl,q⟩
  |_=>exact Z.elim
 |tup =>
  cases x with
  |ref a =>
   cases Y;obtain⟨z,W⟩:=Z;obtain⟨o,V,U⟩:=I.qw W;exact IsiPair.tuple_tuple V U ⟨.bl true,H,I,rfl,q⟩
  |_=>exact Z.elim
 |lst =>
  cases x with
  |ref a =>
   cases Y;obtain⟨z,W⟩:=Z;obtain⟨o,V,U⟩:=I.qx W;exact IsiPair.list_tuple V U ⟨.bl false,H,I.tok _,rfl,q⟩
  |_=>exact Z.elim
 |bK =>
  cases x with
  |ref a =>
   cases Y;obtain⟨z,W⟩:=Z;obtain⟨o,V,U⟩:=I.qy W;exact IsiPair.dict_tuple V U ⟨.bl false,H,I.tok _,rfl,q⟩
  |_=>exact Z.elim
def Mw:bY X (.builtin "isinstance") (λxs H Q=>∃x k,xs=[x,.ty "list"]/\nF X.K H x k/\Q (.bl (qQ k "list")) H):=by
 intro T s σ H xs S Q I r h;obtain⟨x,k,rfl,Z,q⟩:=h;obtain⟨u,c,rfl,Y,rc⟩:=vals2 r;cases rc
 cases k with
 |ao =>
  cases x with
  |ao =>
   cases Y;exact IsiPair.NoneType_list ⟨.bl false,H,I.tok _,rfl,q⟩
  |_=>exact Z.elim
 |bl =>
  cases x with
  |bl b =>
   cases Y;exact IsiPair.bool_list ⟨.bl false,H,I.tok _,rfl,q⟩
  |_=>exact Z.elim
 |int =>
  cases x with
  |int i =>
   obtain⟨t,rfl⟩:=Y;exact IsiPair.int_list ⟨.bl false,H,I.tok _,rfl,q⟩
  |_=>exact Z.elim
 |str =>
  cases x with
  |str y =>
   obtain⟨t,rfl⟩:=Y;exact IsiPair.str_list ⟨.bl false,H,I.tok _,rfl,q⟩
  |_=>exact Z.elim
 |tup =>
  cases x with
  |ref a =>
   cases Y;obtain⟨z,W⟩:=Z;obtain⟨o,V,U⟩:=I.qw W;exact IsiPair.tuple_list V U ⟨.bl false,H,I.tok _,rfl,q⟩
  |_=>exact Z.elim
 |lst =>
  cases x with
  |ref a =>
   cases Y;obtain⟨z,W⟩:=Z;obtain⟨o,V,U⟩:=I.qx W;exact IsiPair.list_list V U ⟨.bl true,H,I,rfl,q⟩
  |_=>exact Z.elim
 |bK =>
  cases x with
  |ref a =>
   cases Y;obtain⟨z,W⟩:=Z;obtain⟨o,V,U⟩:=I.qy W;exact IsiPair.dict_list V U ⟨.bl false,H,I.tok _,rfl,q⟩
  |_=>exact Z.elim
end
def qH (p:Ú) (Ts:List String):Ī->Prop:=λh=>h.get? p=some { cls:=.type "tuple",data:=.seq (Ts.map ο).toArray }
theorem Hj:∀{Ts:List String} {us:List Å},Vals (Ts.map V.ty) us->us=Ts.map ο
 | [],_,.nil=>rfl
 |_::r,_,.cons h t=>by
  cases h;rw[Hj t];rfl
def Uc (t:TA):TE:=fun σ H Q=>t σ H λZ Y=>∃X:List String,Z=X.map V.ty/\Z.length<=Ñ/\∀p,Y p=none->Q (.ref p) (upd Y p (.ext (qH p X)))
section
variable {X:Cx} {es:List Ġ} {t:TA} {pos:Pos}
def P8 {x1} (h:PA X es t):PE X (.Tuple es x1 pos) (Uc t):=by
 intro V s σ H Q I U;refine wpAny_Tuple_spliced (aH (h pos V s σ H _ I U) λP Z ⟨O,Y,W,r,T,e,z,q⟩=>⟨by rw[<- r.length];exact z,?_⟩);subst e;have S:=Hj r;subst S;have R:Y Z.heap.objs.size=none:=W.aC.fresh (ab3 _);refine⟨.ref Z.heap.objs.size,upd Y Z.heap.objs.size (.ext (qH Z.heap.objs.size T)),W.laid (t':=Z.toks) (λb u e=>Á _ e) (ab3 _) ?_,rfl,q _ R⟩;refine⟨Í _ rfl,⟨_,Í _ rfl⟩,λN M e k=>k _ e⟩
def Ud {K:Ē} {π:List (Ú×Obj)} {σ:St} {H:Hp} {s:Ä} {x:V} {u:Å} {k:Kn} (I:Inv X π σ H s) (hk:nF X.K H x k) (r:RelV x u) :
  ∃Tx vs,AnswersAll (λs=>s.TypeIs u Tx) u [.type "tuple",.type "list"] vs/\s.TypeIs u Tx/\vs.any id=(decide (k=.tup)||decide (k=.lst)):=by
 cases k with
 |ao =>
  cases x with
  |ao=>cases r;exact⟨"NoneType",[false,false],.cons (.of_false_none (by decide +kernel) Ŝ F.sub_NoneType_tuple) (.cons (.of_false_none (by decide +kernel) ũ F.sub_NoneType_list) .nil),rfl,rfl⟩
  |_=>exact hk.elim
 |bl =>
  cases x with
  |bl b=>cases r;exact⟨"bool",[false,false],.cons (.of_false_bool (by decide +kernel) Ŝ F.sub_bool_tuple) (.cons (.of_false_bool (by decide +kernel) ũ F.sub_bool_list) .nil),rfl,rfl⟩
  |_=>exact hk.elim
 |int =>
  cases x with
  |int b=>obtain⟨t,rfl⟩:=r;exact⟨"int",[false,false],.cons (.of_false_int (by decide +kernel) Ŝ F.sub_int_tuple) (.cons (.of_false_int (by decide +kernel) ũ F.sub_int_list) .nil),rfl,rfl⟩
  |_=>exact hk.elim
 |str =>
  cases x with
  |str b=>obtain⟨t,rfl⟩:=r;exact⟨"str",[false,false],.cons (.of_false_str (by decide +kernel) Ŝ F.sub_str_tuple) (.cons (.of_false_str (by decide +kernel) ũ F.sub_str_list) .nil),rfl,rfl⟩
  |_=>exact hk.elim
 |tup =>
  cases x with
  |ref a =>
   cases r;obtain⟨z,Z⟩:=hk;exact⟨"tuple",[true,false],.cons (.of_true Ŝ F.sub_tuple_tuple) (.cons (.of_false_tuple (by decide +kernel) ũ F.sub_tuple_list) .nil),I.qw Z,rfl⟩
  |_=>exact hk.elim
 |lst =>
  cases x with
  |ref a =>
   cases r;obtain⟨z,Z⟩:=hk;exact⟨"list",[false,true],.cons (.of_false_list (by decide +kernel) Ŝ F.sub_list_tuple) (.cons (.of_true ũ F.sub_list_list) .nil),I.qx Z,rfl⟩
  |_=>exact hk.elim
 |bK =>
  cases x with
  |ref a =>
   cases r;obtain⟨z,Z⟩:=hk;exact⟨"dict",[false,false],.cons (.of_false_dict (by decide +kernel) Ŝ F.sub_dict_tuple) (.cons (.of_false_dict (by decide +kernel) ũ F.sub_dict_list) .nil),I.qy Z,rfl⟩
  |_=>exact hk.elim
def Gy {bs:List Bool} (r:Vals (bs.map V.bl) its):TruthOf X.prog X.w A (λi v=>its.toArray[i]?=some v) (λi=>bs.getD i false):=by
 intro i v s Q E T S;have Z:its[i]?=some v:=by simpa using T
 have hi:i<its.length:=(È.mp Z).1;have Y:i<bs.length:=by
  have e:=r.length;rw[É] at e;omega
 have R:(bs.map V.bl)[i]?=some (.bl (bs[i])):=by rw[í,Ð Y];rfl
 obtain⟨u,W,P⟩:=Vals.get r R;rw[Z] at W;cases W;cases P;have e:bs.getD i false=bs[i]:=by simp[Ū,Ð Y]
 have U:Q (bs.getD i false) s:=S;rw[e] at U;exact ő U
def range_all (bs:List Bool):(Ā bs.length).all (λi=>bs.getD i false)=bs.all id:=by
 rw[ĳ,æ,æ];constructor
 ·intro h b Z
  obtain⟨i,hi,e⟩:=aaz Z;have:=h i (ú.mpr hi);simpa [Ū,Ð hi,e] using this
 ·intro h i hi
  have hi:=ú.mp hi;have:=h _ (abn hi);simpa [Ū,Ð hi] using this
def range_any (bs:List Bool):(Ā bs.length).any (λi=>bs.getD i false)=bs.any id:=by
 rw[ĳ,ŝ,ŝ];constructor
 ·rintro ⟨i,hi,h⟩
  have hi:=ú.mp hi;exact⟨bs[i],abn hi,by simpa [Ū,Ð hi] using h⟩
 ·rintro ⟨b,Z,h⟩
  obtain⟨i,hi,e⟩:=aaz Z;exact⟨i,ú.mpr hi,by simpa [Ū,Ð hi,e] using h⟩
def P9 (hc:X.calm=true):bY X (.builtin "all") (λxs H Q=>∃(p:Ú) (bs:List Bool),xs=[.ref p]/\aZ X.K H p (bs.map V.bl)/\Q (.bl (bs.all id)) H):=by
 intro O s σ H xs N Q I r h;obtain⟨p,bs,rfl,W,q⟩:=h;obtain⟨u,rfl,U⟩:=vals1 r;cases U;obtain⟨its,Y,Z,M⟩:=I.list W;have T:its.toArray.size=bs.length:=by
  have e:=Y.length;rw[É] at e;simpa using e.symm
 have S:X.A.in1.handled=none:=I.ok.hd hc;refine call_all_walk (Ũ Z.isList ?_);have old:p≠s.heap.objs.size:=ß (by obtain⟨o,n,e,_⟩:=Z;exact Ì e);refine⟨s.heap.objs.size,[s.heap.objs.size,p],[s.heap.objs.size],its.toArray.size,_,_,λi=>bs.getD i false,rfl,Walks.list S s.heap.objs.size p old its.toArray,⟨⟨_,Í _ rfl,rfl,rfl⟩,Z.isList.at λo e=>Á _ e⟩,Gy Y,λL R P=>?_⟩;rw[T,range_all];exact⟨.bl _,H,I.kept (t':=R) λb o e=>P b o (by simpa using ß (Ì e)) (Á _ e),rfl,q⟩
def Qa (hc:X.calm=true):bY X (.builtin "any") (λxs H Q=>∃(p:Ú) (bs:List Bool),xs=[.ref p]/\aZ X.K H p (bs.map V.bl)/\Q (.bl (bs.any id)) H):=by
 intro O s σ H xs N Q I r h;obtain⟨p,bs,rfl,W,q⟩:=h;obtain⟨u,rfl,U⟩:=vals1 r;cases U;obtain⟨its,Y,Z,M⟩:=I.list W;have T:its.toArray.size=bs.length:=by
  have e:=Y.length;rw[É] at e;simpa using e.symm
 have S:X.A.in1.handled=none:=I.ok.hd hc;refine call_any_walk (Ũ Z.isList ?_);have old:p≠s.heap.objs.size:=ß (by obtain⟨o,n,e,_⟩:=Z;exact Ì e);refine⟨s.heap.objs.size,[s.heap.objs.size,p],[s.heap.objs.size],its.toArray.size,_,_,λi=>bs.getD i false,rfl,Walks.list S s.heap.objs.size p old its.toArray,⟨⟨_,Í _ rfl,rfl,rfl⟩,Z.isList.at λo e=>Á _ e⟩,Gy Y,λL R P=>?_⟩;rw[T,range_any];exact⟨.bl _,H,I.kept (t':=R) λb o e=>P b o (by simpa using ß (Ì e)) (Á _ e),rfl,q⟩
end
def tX:Key->aaG
 | .inl i=>.int i
 | .inr x=>.str x
mutual
def DV (K:Ē) (Z:Ú->Prop) (H:Hp):aaG->V->Prop
 | .none,v=>v=.ao
 | .bool b,v=>v=.bl b
 | .int i,v=>v=.int i
 | .str x,v=>v=.str x
 | .tuple X,v=>∃a Y,v=.ref a/\bp K H a Y/\ak K Z H X Y
 | .list X,v=>∃a Y,v=.ref a/\¬ Z a/\H a=some (.lst Y)/\ak K Z H X Y
 | .dict U,v=>∃a W,v=.ref a/\¬ Z a/\H a=some (.dK W)/\∃l:List (Key×Int),W=l.map (λp=>(p.1,V.int p.2))/\U=l.map λp=>(tX p.1,PyData.int p.2)
def ak (K:Ē) (Z:Ú->Prop) (H:Hp):List aaG->List V->Prop
 | [],Y=>Y=[]
 |d::X,Y=>∃v r,Y=v::r/\DV K Z H d v/\ak K Z H X r
end
structure Kl (K:Ē) (Z:Ú->Prop) (H H':Hp):Prop where
 tup:∀b xs,bp K H b xs->bp K H' b xs
 lst:∀b xs,¬ Z b->H b=some (.lst xs)->H' b=some (.lst xs)
 bK:∀b es,¬ Z b->H b=some (.dK es)->H' b=some (.dK es)
mutual
theorem DV.dU {K:Ē} {Z:Ú->Prop} {H H':Hp} (S:Kl K Z H H'):∀{d:aaG} {v:V},DV K Z H d v->DV K Z H' d v
 | .none,_,h=>h
 | .bool _,_,h=>h
 | .int _,_,h=>h
 | .str _,_,h=>h
 | .tuple T,v,h=>by
  simp only[DV] at h |-;obtain⟨a,Y,e,X,r⟩:=h;exact⟨a,Y,e,S.tup a Y X,ak.dU S r⟩
 | .list T,v,h=>by
  simp only[DV] at h |-;obtain⟨a,Y,e,W,X,r⟩:=h;exact⟨a,Y,e,W,S.lst a Y W X,ak.dU S r⟩
 | .dict R,v,h=>by
  simp only[DV] at h |-;obtain⟨a,U,e,W,X,r⟩:=h;exact⟨a,U,e,W,S.bK a U W X,r⟩
theorem ak.dU {K:Ē} {Z:Ú->Prop} {H H':Hp} (S:Kl K Z H H'):∀{ds:List aaG} {vs:List V},ak K Z H ds vs->ak K Z H' ds vs
 | [],_,h=>h
 |d::ds,vs,h=>by
  simp only[ak] at h |-;obtain⟨v,r,e,Y,X⟩:=h;exact⟨v,r,e,DV.dU S Y,ak.dU S X⟩
end
mutual
theorem DV.more {K:Ē} {Z:Ú->Prop} {H:Hp} {p:Ú} (hp:H p=none):∀{d:aaG} {v:V},DV K Z H d v->DV K (λa=>Z a\/a=p) H d v
 | .none,_,h=>h
 | .bool _,_,h=>h
 | .int _,_,h=>h
 | .str _,_,h=>h
 | .tuple U,v,h=>by
  simp only[DV] at h |-;obtain⟨a,X,e,Y,r⟩:=h;exact⟨a,X,e,Y,ak.more hp r⟩
 | .list U,v,h=>by
  simp only[DV] at h |-;obtain⟨a,X,e,W,Y,r⟩:=h;exact⟨a,X,e,(λz=>z.elim W λe=>by subst e;rw[hp] at Y;cases Y),Y,ak.more hp r⟩
 | .dict S,v,h=>by
  simp only[DV] at h |-;obtain⟨a,T,e,W,Y,r⟩:=h;exact⟨a,T,e,(λz=>z.elim W λe=>by subst e;rw[hp] at Y;cases Y),Y,r⟩
theorem ak.more {K:Ē} {Z:Ú->Prop} {H:Hp} {p:Ú} (hp:H p=none):∀{ds:List aaG} {vs:List V},ak K Z H ds vs->ak K (λa=>Z a\/a=p) H ds vs
 | [],_,h=>h
 |d::ds,vs,h=>by
  simp only[ak] at h |-;obtain⟨v,r,e,Y,X⟩:=h;exact⟨v,r,e,DV.more hp Y,ak.more hp X⟩
end
mutual
theorem DV.less {K:Ē} {Z Z':Ú->Prop} {H:Hp} (gM:∀a,Z' a->Z a):∀{d:aaG} {v:V},DV K Z H d v->DV K Z' H d v
 | .none,_,h=>h
 | .bool _,_,h=>h
 | .int _,_,h=>h
 | .str _,_,h=>h
 | .tuple U,v,h=>by
  simp only[DV] at h |-;obtain⟨a,X,e,Y,r⟩:=h;exact⟨a,X,e,Y,ak.less gM r⟩
 | .list U,v,h=>by
  simp only[DV] at h |-;obtain⟨a,X,e,W,Y,r⟩:=h;exact⟨a,X,e,λz=>W (gM _ z),Y,ak.less gM r⟩
 | .dict S,v,h=>by
  simp only[DV] at h |-;obtain⟨a,T,e,W,Y,r⟩:=h;exact⟨a,T,e,λz=>W (gM _ z),Y,r⟩
theorem ak.less {K:Ē} {Z Z':Ú->Prop} {H:Hp} (gM:∀a,Z' a->Z a):∀{ds:List aaG} {vs:List V},ak K Z H ds vs->ak K Z' H ds vs
 | [],_,h=>h
 |d::ds,vs,h=>by
  simp only[ak] at h |-;obtain⟨v,r,e,Y,X⟩:=h;exact⟨v,r,e,DV.less gM Y,ak.less gM X⟩
end
section
variable {X:Cx} {π:List (Ú×Obj)} {σ:St} {H:Hp} {s:Ä} {Z:Ú->Prop}
theorem yV:∀{l:List (Key×Int)} {vs:List (Key×Å)} {es:List DictEntry},KV (l.map λp=>(p.1,V.int p.2)) vs->Pairs (wb P w) es vs ->
  ReadsAll h (es.map (·.key)) ((l.map λp=>(tX p.1,PyData.int p.2)).map (·.1)) []/\ReadsAll h (es.map (·.val)) ((l.map λp=>(tX p.1,PyData.int p.2)).map (·.2)) []
 | [],_,_,.nil,.nil=>⟨.nil,.nil⟩
 |(k,i)::l,_,_,.cons (b:=q) r t,.cons (e:=e) U T S=>by
  obtain⟨a1,a2⟩:=yV (h:=h) t S;obtain⟨Z,X,Y⟩:=r;have Z:k=q.1:=Z;have Y:q.2=abw i X:=Y;refine⟨?_,?_⟩
  ·have W:Be q.1 e.key=true:=U
   rw[<- Z] at W;have:Reads h e.key (tX k) []:=by
    rcases kz W with ⟨j,u,e1,e2⟩ | ⟨x,u,e1,e2⟩
    ·rw[e1,e2];exact .int j u
    ·rw[e1,e2];exact .str x u
   exact ReadsAll.cons (as:=[]) (bs:=[]) this a1
  ·have:Reads h e.val (.int i) []:=by rw[T,Y];exact .int i X
   exact ReadsAll.cons (as:=[]) (bs:=[]) this a2
mutual
theorem DV.reads (I:Inv X π σ H s):∀{d:aaG} {v:V} {u:Å},DV X.K Z H d v->RelV v u->∃as,Reads s.heap u d as
 | .none,v,u,h,r=>by
  have e:v=.ao:=h;subst e;cases r;exact⟨[],.none⟩
 | .bool b,v,u,h,r=>by
  have e:v=.bl b:=h;subst e;cases r;exact⟨[],.bool b⟩
 | .int i,v,u,h,r=>by
  have e:v=.int i:=h;subst e;obtain⟨t,rfl⟩:=r;exact⟨[],.int i t⟩
 | .str x,v,u,h,r=>by
  have e:v=.str x:=h;subst e;obtain⟨t,rfl⟩:=r;exact⟨[],.str x t⟩
 | .tuple R,v,u,h,r=>by
  simp only[DV] at h;obtain⟨a,Q,e,Y,W⟩:=h;subst e;cases r;obtain⟨its,U,⟨o,e,c,n,T⟩,_⟩:=I.tuple Y;obtain⟨as,S⟩:=ak.reads I W U;exact⟨as,.tuple e c T (by simpa using S)⟩
 | .list R,v,u,h,r=>by
  simp only[DV] at h;obtain⟨a,Q,e,_,Y,W⟩:=h;subst e;cases r;obtain⟨its,U,⟨o,n,e,c,_,T⟩,_⟩:=I.list (aZ.of Y);obtain⟨as,S⟩:=ak.reads I W U;exact⟨a::as,.list e c T (by simpa using S)⟩
 | .dict L,v,u,h,r=>by
  simp only[DV] at h;obtain⟨a,J,e,_,Y,l,e1,e2⟩:=h;subst e e1 e2;cases r;obtain⟨_,_,G,P,o,F,E,g1,g2,g3,_,O,_⟩:=(show di X.prog X.w H s.heap a (.dK _) from I.aC a _ Y);obtain⟨N,M⟩:=yV (h:=s.heap) P O;exact⟨a::[]++[],.dict g1 g2.1 g3 N M⟩
theorem ak.reads (I:Inv X π σ H s):∀{ds:List aaG} {vs:List V} {us:List Å},ak X.K Z H ds vs->Vals vs us->∃as,ReadsAll s.heap us ds as
 | [],vs,us,h,r=>by
  have e:vs=[]:=h;subst e;cases r;exact⟨[],.nil⟩
 |d::ds,vs,us,h,r=>by
  obtain⟨v,S,e,Y,W⟩:=h;subst e
  cases r with
  |cons U T =>
   obtain⟨as,a1⟩:=DV.reads I Y U;obtain⟨bs,a2⟩:=ak.reads I W T;exact⟨as++bs,.cons a1 a2⟩
end
def Km (K:Ē) (neg:Bool):R2:=λx y H Q=>∃(d e:aaG) (Z:Ú->Prop),DV K Z H d x/\DV K Z H e y/\d.canLay0=true/\e.canLay0=true/\min d.depth e.depth<=100/\Q (.bl (if neg then !PyData.eqv d e else ġ d e)) H
def Ue (hr:bP k X.A):bt X (Ė .Eq) (Km X.K false):=by
 intro O s σ H x y v u Q I Y W h;obtain⟨d,e,Z,V,U,T,S,N,q⟩:=h;obtain⟨as,R⟩:=V.reads I Y;obtain⟨bs,P⟩:=U.reads I W;exact SeqAt.eqOverData _ _ _ _ _ _ _ _ _ _ _ _ R P T S (by have:=hr.un;omega) ⟨.bl _,H,I,rfl,q⟩
def Ug (hr:bP k X.A):bt X (Ė .NotEq) (Km X.K true):=by
 intro O s σ H x y v u Q I Y W h;obtain⟨d,e,Z,V,U,T,S,N,q⟩:=h;obtain⟨as,R⟩:=V.reads I Y;obtain⟨bs,P⟩:=U.reads I W;exact SeqAt.neOverData _ _ _ _ _ _ _ _ _ _ _ _ R P T S (by have:=hr.un;omega) ⟨.bl _,H,I,rfl,q⟩
end
end L2
namespace HT
open PySem PySem.Spec PyProof.Rows
section
variable {prog:â} {w:Ą} {A:î} {E:Å->Ä->Prop} {s:Ä}
def F1 (ht:IsTup s.heap t items) (h:Q true s):Û (ã prog w) A (aaa (.ref t)) Q E s:=by
 unfold aaa;exact À (aaE ht.typeIs (Ã h))
def Mm {lo hi:Option Int} {Q:Å->Ä->Prop} (ht:IsTup s.heap t items) (hs:s.heap.IsSliceOf sl vl vu .none) (pl:IsPart vl lo) (pu:IsPart vu hi)
 (hw:aP items.size 0 lo=0/\aP items.size items.size hi=items.size) (h:Q (.ref t) s):Û (ã prog w) A (getItem (.ref t) (.ref sl)) Q E s:=by
 obtain⟨os,Z,Y,U⟩:=id hs;have X:s.TypeIs (.ref sl) "slice":=⟨os,Z,Y⟩;unfold getItem
 try with_reducible refine Ĉ ?_
 first|refine À (Ã ?_)|skip
 refine À (wpAny_sequenceKey ht.typeIs (by decide) ?_);refine À (č (name:=ý "__getitem__") ht.typeIs ę
  (Ċ ę ht.typeIs entry_tuple_getitem ?_ (args_tuple_getitem _ _)))
 show Û _ _ (Ř (.ref t) >>= _) _ _ s;refine À (tupleItemsOf_ ht ?_);refine À (aaE X ?_);rw[Þ (by decide)];refine À (ET hs pl pu ?_);obtain⟨W,V⟩:=hw
 show Û _ _ (if (((aP items.size 0 lo:Nat):Int)==0&&(1:Int)==1&&(aP items.size items.size hi-aP items.size 0 lo)==items.size)=true then _ else _) _ _ s
 rw[W,V,Þ (by simp)]
 first
  |exact À (F1 ht (by simp only[ô];exact À (ś (Ã ⟨_,rfl,Ã h⟩))))
  |exact À (F1 ht (by simp only[ô];exact À (ś (À (Ã (Ã ⟨_,rfl,Ã h⟩))))))
end
end HT
namespace L2
open PySem PySem.Spec PyProof.Rows
def j3.Yg {K:Ē} {H H':Hp} {a:Ú} {xs:List V} (e:j3 H H') (h:bp K H a xs):bp K H' a xs:=by
 rcases h with (h | ⟨o,h⟩)|h
 ·exact .inl (.inl (e _ _ h))
 ·exact .inl (.inr ⟨o,e _ _ h⟩)
 ·exact .inr h
theorem j3.upd (hn:H p=none):j3 H (upd H p o):=λb u e=>by rw[aX (cV e hn)];exact e
def nr (K:Ē) (H:Hp) (ys:List V) (Q:VK):Prop:=∀a Z,j3 H Z->bp K Z a ys->Q (.ref a) Z
def nr.here {K:Ē} {H:Hp} {ys:List V} {Q:VK} {a:Ú} (h:nr K H ys Q) (hs:bp K H a ys):Q (.ref a) H:=h a H (j3.refl H) hs
def nr.new {K:Ē} {H:Hp} {ys:List V} {Q:VK} {p:Ú} (h:nr K H ys Q) (hn:H p=none):Q (.ref p) (L2.upd H p (.tup ys)):=h p _ (j3.upd hn) (bp.of cu)
section
variable {X:Cx} {e:Ġ} {te:TE} {pos p2 p3 p4:Pos}
def Qb {lo hi:Option Int} (h:HT.aP xs.length 0 lo=0/\HT.aP xs.length xs.length hi=xs.length):jZ xs lo hi=xs:=by
 unfold jZ;rw[h.1,h.2];simp
def Xn (K:Ē):V->Option Int->Option Int->Hp->VK->Prop:=λx lo hi H Q=>∃a Z,x=.ref a/\bp K H a Z/\nr K H (jZ Z lo hi) Q
def RW:uF X (Xn X.K):=by
 intro S s σ H x v R P lo hi O Q I V hs U pu h;obtain⟨a,Z,rfl,W,q⟩:=h;by_cases hw:HT.aP Z.length 0 lo=0/\HT.aP Z.length Z.length hi=Z.length
 ·cases V
  obtain⟨its,r,T,M⟩:=I.tuple W;have Y:its.toArray.size=Z.length:=by rw[Ù];exact r.length.symm
  rw[Qb hw] at q;exact⟨"tuple",_,ę.lookup,T.typeIs,HT.Mm T hs U pu (by rw[Y];exact hw) ⟨.ref a,H,I,rfl,q.here W⟩⟩
 ·exact AD S s σ H _ v R P lo hi O Q I V hs U pu ⟨a,Z,rfl,W,hw,λp N=>q.new N⟩
def VQ (K:Ē):R2:=λx y H Q=>∃a b Z Y,x=.ref a/\y=.ref b/\bp K H a Z/\bp K H b Y/\Z.length+Y.length<=Ñ/\nr K H (Z++Y) Q
def RX:bt X (ń .Add) (VQ X.K):=by
 intro M s σ H x y v u Q I W V h;obtain⟨a,b,U,L,rfl,rfl,Z,Y,J,q⟩:=h;by_cases T:U=[]
 ·subst T
  cases W;cases V;obtain⟨its,G,F,_⟩:=I.tuple Z;obtain⟨E,t,p2,_⟩:=I.tuple Y;cases G;obtain⟨⟨cls,D,data,C⟩,S,R,n,P⟩:=id F;obtain⟨⟨r,B,data2,A⟩,O,N,z,hd2⟩:=id p2;simp only at R P N hd2;subst R P N hd2;exact concat_meets ⟨_,S,rfl⟩ ⟨_,O,rfl⟩ noFill_tuple_add seq_tuple_add aa0 aaN (aaD _ _)
   (tuple_addW0 a b _ E.toArray n z D B C A (by simp)) ⟨S,O,⟨.ref b,H,I,rfl,q.here Y⟩⟩
 ·refine RS M s σ H _ _ v u Q I W V ⟨a,b,U,L,rfl,rfl,Z,Y,T,J,λe=>?_,λ_ p w=>q.new w⟩
  subst e;rw[þ] at q;exact q.here Z
end
end L2
namespace HZ
open PySem PySem.Spec PyProof.Rows
structure kg (P:â) (w:Ą) (A:î) (i l:Ú) (tn:Nat->Ī->Prop) (val:Nat->Option Å):Prop where
 keep:∀k h h',tn k h->(∀o,h.get? i=some o->h'.get? i=some o)->(∀o,h.get? l=some o->h'.get? l=some o)->tn k h'
 item:∀k (s:Ä) (Q:Å->Ä->Prop) (E:Å->Ä->Prop) x,tn k s.heap->val k=some x->(∀h',tn (k+1) h'->ĩ i s.heap h'->Q x { s with heap:=h' })->Û (ã P w) A (Ć (.ref i)) Q E s
 stop:∀k (s:Ä) (Q:Å->Ä->Prop) (E:Å->Ä->Prop),tn k s.heap->val k=none->(∀h' e,aaA i s.heap h'->(∃o,h'.get? e=some o/\o.cls=.type "StopIteration")->E (.ref e) { s with heap:=h' })->Û (ã P w) A (Ć (.ref i)) Q E s
 obj:∀k h,tn k h->∃o,h.get? i=some o/\∀v,o.data≠.cell v
section
variable {P:â} {w:Ą} {A:î} {E:Å->Ä->Prop} {s:Ä}
def NU (g:s.heap.IsTupleIter it t k) (gt:s.heap.IsTuple t its) (gx:its[k]?=some x)
 (q:∀h',h'.IsTupleIter it t (k+1)->ĩ it s.heap h'->Q x { s with heap:=h' }):Û (ã P w) A (Ć (.ref it)) Q E s:=by
 obtain⟨o,go,Y,Z⟩:=id g;obtain⟨ol,X,_,nl,W⟩:=gt;unfold Ć;refine À (č (name:=ý "__next__") g.typeIs ř
  (Ċ ř g.typeIs F.entry_tuple_iterator_next ?_ (F.args_tuple_iterator_next_1 _)))
 show Û _ _ (field (.ref it) 0 >>= _) _ _ _;refine À (ĵ go Z (x:=.ref t) rfl ?_)
 show Û _ _ (if (aab t==Value.none)=true then _ else _) _ _ _
 rw[ì (λz:(aab t==Value.none)=true=>Õ z)];show Û _ _ (field (.ref it) 1 >>= _) _ _ _;refine À (ĵ go Z (x:=.int k 0) rfl ?_);show Û _ _ (seqItems? (.ref t) >>= _) _ _ _;refine À (ī X W ?_);simp only[ł,gx];refine À (Ÿ go Z (by simp) (Ã ⟨x,rfl,Ã (q _ ?_ (Ğ ..))⟩));exact⟨_,Ĝ _ go (ň (ď Z _)),(aa5 ..).trans Y,by rw[ď Z];simp[ω]⟩
def Mn (gh:A.handled=none) (g:s.heap.IsTupleIter it t k) (gt:s.heap.IsTuple t its) (gx:its[k]?=none)
 (q:∀h' e,aaA it s.heap h'->(∃o,h'.get? e=some o/\o.cls=.type "StopIteration")->E (.ref e) { s with heap:=h' }):Û (ã P w) A (Ć (.ref it)) Q E s:=by
 obtain⟨o,go,W,Z⟩:=id g;obtain⟨ol,Y,_,nl,X⟩:=gt;unfold Ć;refine À (č (name:=ý "__next__") g.typeIs ř
  (Ċ ř g.typeIs F.entry_tuple_iterator_next ?_ (F.args_tuple_iterator_next_1 _)))
 show Û _ _ (field (.ref it) 0 >>= _) _ _ _;refine À (ĵ go Z (x:=.ref t) rfl ?_)
 show Û _ _ (if (aab t==Value.none)=true then _ else _) _ _ _
 rw[ì (λz:(aab t==Value.none)=true=>Õ z)];show Û _ _ (field (.ref it) 1 >>= _) _ _ _;refine À (ĵ go Z (x:=.int k 0) rfl ?_);show Û _ _ (seqItems? (.ref t) >>= _) _ _ _;refine À (ī Y X ?_);simp only[ł,gx];refine À (ś (À (Ÿ go Z (by simp) ?_)));show Û _ _ (newExc (.type "StopIteration") [] >>= _) _ _ (_:Ä);refine À ?_;simp only[newExc,newTuple];refine À (ù ?_ (by size_fits))
 refine À (m:=firstArgMember _ _) (wpAny_of_eq (a:=Value.none) (by first|rfl | (unfold firstArgMember;rfl)) ?_)
 refine ù ?_ (by size_fits);simp only[raiseNew];refine À (wpAny_handled ?_)
 first|rw[gh]|rw[show A.in1.handled=none from gh]
 refine À (Ã (wpAny_throw ?_));exact q _ _ (((Ğ ..).extBut.push _).push _) ⟨_,Í _ rfl,rfl⟩
def RY (gh:A.handled=none) (i l:Ú) (its:Array Å):kg P w A i l (λk h=>h.IsTupleIter i l k/\h.IsTuple l its) (λk=>its[k]?) where
 keep:=λk h Y Z U T=>⟨Z.1.at U,by obtain⟨o,e,r⟩:=Z.2;exact⟨o,T o e,r⟩⟩
 item:=λk s Q E x Z e q=>NU Z.1 Z.2 e λY g X=>by
  by_cases W:l=i
  ·exfalso
   subst W;obtain⟨o,e1,S,_⟩:=Z.1;obtain⟨R,e2,V,_⟩:=Z.2;rw[e1] at e2;cases e2;rw[S] at V;simp at V
  ·obtain⟨o,e2,r⟩:=Z.2
   exact q Y ⟨g,o,(X.2 l W).trans e2,r⟩ X
 stop:=λk s Q E Z e q=>Mn gh Z.1 Z.2 e q
 obj:=λk h Z=>by
  obtain⟨o,e,_,d⟩:=Z.1;exact⟨o,e,λv z=>by rw[d] at z;cases z⟩
def RZ (gh:A.handled=none) (i l:Ú) (its:Array Å):kg P w A i l (λk h=>h.IsListIter i l k/\h.IsList l its) (λk=>its[k]?) where
 keep:=λk h Y Z U T=>⟨Z.1.at U,Z.2.at T⟩
 item:=λk s Q E x Z e q=>wpAny_nextOf_list_item Z.1 Z.2 e λY g X=>by
  by_cases W:l=i
  ·exfalso
   subst W;obtain⟨o,e1,S,_⟩:=Z.1;obtain⟨R,e2,V,_⟩:=Z.2;rw[e1] at e2;cases e2;rw[S] at V;simp at V
  ·exact q Y ⟨g,Z.2.at λo e2=>(X.2 l W).trans e2⟩ X
 stop:=λk s Q E Z e q=>wpAny_nextOf_list_end gh Z.1 Z.2 e q
 obj:=λk h Z=>by
  obtain⟨o,e,_,d⟩:=Z.1;exact⟨o,e,λv z=>by rw[d] at z;cases z⟩
structure Apart (z ti to j1 j2 m1 m2:Ú):Prop where
 a1:ti≠z
 a2:to≠z
 a3:j1≠z
 a4:j2≠z
 a5:ti≠to
 a6:ti≠j1
 a7:ti≠j2
 a8:to≠j1
 a9:to≠j2
 b0:j1≠j2
 b1:m1≠z
 b2:m1≠to
 b3:m1≠j1
 b4:m1≠j2
 b5:m2≠z
 b6:m2≠to
 b7:m2≠j1
 b8:m2≠j2
def Qc {t1 t2:Nat->Ī->Prop} {v1 v2:Nat->Option Å} {k:Nat} {Q:Å->Ä->Prop} (D:Apart z ti to j1 j2 m1 m2) (S1:kg P w A j1 m1 t1 v1) (S2:kg P w A j2 m2 t2 v2)
 (gz:IsZip s.heap z ti to .none) (gi:aag s.heap ti (.ref j1) (.ref j2)) (go:aag s.heap to a b) (h1:t1 k s.heap) (h2:t2 k s.heap) (hx:v1 k=some x) (hy:v2 k=some y)
 (q:∀h',IsZip h' z ti to (ω s.heap.objs.size)->aag h' to x y->t1 (k+1) h'->t2 (k+1) h'->aag h' s.heap.objs.size x y->h'.objs.size=s.heap.objs.size+1 ->
 (∀c o,c≠z->c≠to->c≠j1->c≠j2->s.heap.get? c=some o->h'.get? c=some o)->Q (.ref s.heap.objs.size) { s with heap:=h' }) :
  Û (ã P w) A (ū.«zip.__next__» ⟨[.ref z],[]⟩) (λfin s'=>∃v,fin=.done (.ret v)/\Q v s') E s:=by
 show Û _ _ (field (.ref z) 2 >>= _) _ _ (_:Ä);refine À (ĵ gz rfl (x:=.bool false) rfl ?_);show Û _ _ (field (.ref z) 3 >>= _) _ _ (_:Ä);refine À (ĵ gz rfl (x:=.ref ti) rfl ?_);refine À (ī gi rfl ?_);show Û _ _ (į (.ref z) >>= _) _ _ (_:Ä);refine À ?_;unfold į;refine À (ĵ gz rfl (x:=.none) rfl (Ã ?_));simp only[ô];refine À (ś ?_);refine À (ĵ gz rfl (x:=.ref to) rfl ?_);refine À (ţ gz (by simp) λp N Y=>?_)
 replace N:IsZip p z ti to .ellipsis:=N
 refine À ?_;simp only[List.zipIdx_cons,List.zipIdx_nil,aaO,List.forIn_nil];refine À (À (wpAny_onRaise ?_));show Û _ _ (Ć (.ref j1) >>= _) _ _ (_:Ä);refine À (S1.item k _ _ _ x (S1.keep k _ _ h1 (λo e=>Y.extBut _ _ D.a3 e) (λo e=>Y.extBut _ _ D.b1 e)) hx λn m V=>Ã ?_);have G:aag n to a b:=V.extBut _ _ D.a8 (Y.extBut _ _ D.a2 go);refine À (ī G rfl ?_);refine À (wpAny_updateSeq_pair G λl M X=>?_)
 replace M:aag l to x b:=M
 refine À (wpAny_letGo (Ã ?_));refine À (À (wpAny_onRaise ?_));show Û _ _ (Ć (.ref j2) >>= _) _ _ (_:Ä);refine À (S2.item k _ _ _ y (S2.keep k _ _ h2 (λo e=>X.extBut _ _ D.a9.symm (V.extBut _ _ D.b0.symm (Y.extBut _ _ D.a4 e))) (λo e=>X.extBut _ _ D.b6 (V.extBut _ _ D.b7 (Y.extBut _ _ D.b5 e)))) hy λj i U=>Ã ?_);have F:aag j to x b:=U.extBut _ _ D.a9 M;refine À (ī F rfl ?_);refine À (wpAny_updateSeq_pair F λZ S s5=>?_)
 replace S:aag Z to x y:=S
 refine À (wpAny_letGo (Ã (Ã ?_)));refine À (ī S rfl ?_);refine À (wpAny_newTuple ?_);have C:Z.objs.size=s.heap.objs.size:=by rw[s5.1,U.1,X.1,V.1,Y.1]
 have B:IsZip Z z ti to .ellipsis:=s5.extBut _ _ D.a2.symm (U.extBut _ _ D.a4.symm (X.extBut _ _ D.a2.symm (V.extBut _ _ D.a3.symm N)));have h:∀c o,c≠z->c≠to->c≠j1->c≠j2->s.heap.get? c=some o->Z.get? c=some o:=λc o W R L K e=>s5.extBut _ _ R (U.extBut _ _ K (X.extBut _ _ R (V.extBut _ _ L (Y.extBut _ _ W e))));have g:t1 (k+1) Z:=S1.keep _ _ _ m (λo e=>s5.extBut _ _ D.a8.symm (U.extBut _ _ D.b0 (X.extBut _ _ D.a8.symm e))) (λo e=>s5.extBut _ _ D.b2 (U.extBut _ _ D.b4 (X.extBut _ _ D.b2 e)));have f:t2 (k+1) Z:=S2.keep _ _ _ i (λo e=>s5.extBut _ _ D.a9.symm e) (λo e=>s5.extBut _ _ D.b6 e);have u:z<Z.objs.size:=Ì B;show Û _ _ (aah (.ref z) (.ref Z.objs.size) >>= _) _ _ (_:Ä);refine À ?_;unfold aah;have d:IsZip (Z.push { cls:=.type "tuple",data:=.seq #[x,y] }) z ti to .ellipsis:=Á _ B;refine À (ţ d (by simp) λp7 J I=>?_)
 replace J:IsZip p7 z ti to (ω Z.objs.size):=J
 refine ţ J (by simp) λT O H=>?_
 replace O:IsZip T z ti to (ω Z.objs.size):=O
 have up:∀c o,c≠z->Z.get? c=some o->T.get? c=some o:=λc o W e=>H.extBut _ _ W (I.extBut _ _ W (Á _ e));have t:aag T Z.objs.size x y:=H.extBut _ _ (š u) (I.extBut _ _ (š u) (Í _ rfl));have r:T.objs.size=Z.objs.size+1:=by rw[H.1,I.1,ĉ]
 rw[C] at O t r;refine Ã ⟨_,rfl,?_⟩;show Q (.ref Z.objs.size) _;rw[C];exact q T O (up _ _ D.a2 S) (S1.keep _ _ _ g (λo e=>up _ o D.a3 e) (λo e=>up _ o D.b1 e)) (S2.keep _ _ _ f (λo e=>up _ o D.a4 e) (λo e=>up _ o D.b5 e)) t r λc o W R L K e=>up c o W (h c o W R L K e)
def R0 (D:Apart z ti to j1 j2 m1 m2) (S1:kg P w A j1 m1 t1 v1) (S2:kg P w A j2 m2 t2 v2)
 (gz:IsZip s.heap z ti to .none) (gi:aag s.heap ti (.ref j1) (.ref j2)) (go:aag s.heap to a b) (h1:t1 k s.heap) (h2:t2 k s.heap) (B4:v1 k=none\/v2 k=none)
 (q:∀h' e,(∀c o,c≠z->c≠to->c≠j1->c≠j2->s.heap.get? c=some o->h'.get? c=some o)->(∃o,h'.get? e=some o/\o.cls=.type "StopIteration")->E (.ref e) { s with heap:=h' }) :
  Û (ã P w) A (ū.«zip.__next__» ⟨[.ref z],[]⟩) Q E s:=by
 show Û _ _ (field (.ref z) 2 >>= _) _ _ (_:Ä);refine À (ĵ gz rfl (x:=.bool false) rfl ?_);show Û _ _ (field (.ref z) 3 >>= _) _ _ (_:Ä);refine À (ĵ gz rfl (x:=.ref ti) rfl ?_);refine À (ī gi rfl ?_);show Û _ _ (į (.ref z) >>= _) _ _ (_:Ä);refine À ?_;unfold į;refine À (ĵ gz rfl (x:=.none) rfl (Ã ?_));simp only[ô];refine À (ś ?_);refine À (ĵ gz rfl (x:=.ref to) rfl ?_);refine À (ţ gz (by simp) λN V Y=>?_)
 replace V:IsZip N z ti to .ellipsis:=V
 refine À ?_;simp only[List.zipIdx_cons,List.zipIdx_nil,aaO,List.forIn_nil];refine À (À (wpAny_onRaise ?_));show Û _ _ (Ć (.ref j1) >>= _) _ _ (_:Ä);have M:t1 k N:=S1.keep k _ _ h1 (λo e=>Y.extBut _ _ D.a3 e) (λo e=>Y.extBut _ _ D.b1 e)
 cases U:v1 k with
 |none =>
  refine À (S1.stop k _ _ _ M U λT e Z S=>?_);obtain⟨R,g1,g2⟩:=S;have L:IsZip T z ti to .ellipsis:=Z _ _ D.a3.symm V;have ne:e≠z:=λu=>by subst u;rw[L] at g1;cases g1;simp at g2
  refine ţ L (by simp) λK _ X=>q K e (λc o W _ O _ u=>X.extBut _ _ W (Z _ _ O (Y.extBut _ _ W u))) ⟨R,X.extBut _ _ ne g1,g2⟩
 |some x =>
  have G:v2 k=none:=by
   rcases B4 with h|h
   ·rw[U] at h;cases h
   ·exact h
  refine À (S1.item k _ _ _ x M U λT v Z=>Ã ?_);have J:aag T to a b:=Z.extBut _ _ D.a8 (Y.extBut _ _ D.a2 go);refine À (ī J rfl ?_);refine À (wpAny_updateSeq_pair J λK t X=>?_);refine À (wpAny_letGo (Ã ?_));refine À (À (wpAny_onRaise ?_));show Û _ _ (Ć (.ref j2) >>= _) _ _ (_:Ä);refine À (S2.stop k _ _ _ (S2.keep k _ _ h2 (λo e=>X.extBut _ _ D.a9.symm (Z.extBut _ _ D.b0.symm (Y.extBut _ _ D.a4 e))) (λo e=>X.extBut _ _ D.b6 (Z.extBut _ _ D.b7 (Y.extBut _ _ D.b5 e)))) G λF e I S=>?_);obtain⟨R,g1,g2⟩:=S;have H:IsZip F z ti to .ellipsis:=I _ _ D.a4.symm (X.extBut _ _ D.a2.symm (Z.extBut _ _ D.a3.symm V));have ne:e≠z:=λu=>by subst u;rw[H] at g1;cases g1;simp at g2
  refine ţ H (by simp) λC _ s5=>q C e (λc o W B O y u=>s5.extBut _ _ W (I _ _ y (X.extBut _ _ B (Z.extBut _ _ O (Y.extBut _ _ W u))))) ⟨R,s5.extBut _ _ ne g1,g2⟩
def next_item (D:Apart z ti to j1 j2 m1 m2) (S1:kg P w A.in1 j1 m1 t1 v1) (S2:kg P w A.in1 j2 m2 t2 v2)
 (gz:IsZip s.heap z ti to .none) (gi:aag s.heap ti (.ref j1) (.ref j2)) (go:aag s.heap to a b) (h1:t1 k s.heap) (h2:t2 k s.heap) (hx:v1 k=some x) (hy:v2 k=some y)
 (q:∀h',IsZip h' z ti to (ω s.heap.objs.size)->aag h' to x y->t1 (k+1) h'->t2 (k+1) h'->aag h' s.heap.objs.size x y->h'.objs.size=s.heap.objs.size+1 ->
 (∀c o,c≠z->c≠to->c≠j1->c≠j2->s.heap.get? c=some o->h'.get? c=some o)->Q (some (.ref s.heap.objs.size)) { s with heap:=h' }):Û (ã P w) A (aac (.ref z)) Q E s:=by
 have Z:s.TypeIs (.ref z) "zip":=⟨_,gz,rfl⟩;unfold aac;exact À (ŭ (č (name:=ý "__next__") Z abA
  (Ċ abA Z F.entry_zip_next (Qc D S1 S2 gz gi go h1 h2 hx hy λh' a1 a2 Y X W V U=>Ã (q h' a1 a2 Y X W V U)) (F.args_zip_next_1 _))))
def next_end (D:Apart z ti to j1 j2 m1 m2) (S1:kg P w A.in1 j1 m1 t1 v1) (S2:kg P w A.in1 j2 m2 t2 v2)
 (gz:IsZip s.heap z ti to .none) (gi:aag s.heap ti (.ref j1) (.ref j2)) (go:aag s.heap to a b) (h1:t1 k s.heap) (h2:t2 k s.heap) (B4:v1 k=none\/v2 k=none)
 (q:∀h',(∀c o,c≠z->c≠to->c≠j1->c≠j2->s.heap.get? c=some o->h'.get? c=some o)->Q none { s with heap:=h' }):Û (ã P w) A (aac (.ref z)) Q E s:=by
 have Z:s.TypeIs (.ref z) "zip":=⟨_,gz,rfl⟩;unfold aac;refine À (ŭ (č (name:=ý "__next__") Z abA
  (Ċ abA Z F.entry_zip_next (R0 D S1 S2 gz gi go h1 h2 B4 λh' e Y X=>?_) (F.args_zip_next_1 _))))
 obtain⟨o,W,V⟩:=X;exact À (abo (T:="StopIteration") (b:=true) ⟨o,W,V⟩ isSubtype_stop (Ã (q _ Y)))
end
end HZ
namespace L2
open PySem PySem.Spec PyProof.Rows
def Uh {X:Cx} {π:List (Ú×Obj)} {σ:St} {H:Hp} {s:Ä} {a b:Ú} {xs:List V} (I:Inv X π σ H s) (h:bp X.K H a xs) (f:fg X π H b):a≠b:=by
 rintro rfl;obtain⟨f0,_,_,Y,_⟩:=f
 rcases h with (h | ⟨o,h⟩) | ⟨o,its,n,W,_⟩
 ·rw[f0] at h;cases h
 ·rw[f0] at h;cases h
 ·have Z:=I.mod.ka a o W
  rcases Y with z|z
  ·exact I.ok.nq a o Z z
  ·exact absurd (Ç (Ì Z) (à I.ok.iz z)) (ñ _)
def Ui {X:Cx} {π:List (Ú×Obj)} {σ:St} {H:Hp} {s:Ä} {a b:Ú} {xs:List V} (I:Inv X π σ H s) (h:aZ X.K H a xs) (f:fg X π H b):a≠b:=by
 rintro rfl;obtain⟨f0,_,_,Y,_⟩:=f
 rcases h with (h | ⟨o,h⟩) | ⟨o,its,n,W,_⟩
 ·rw[f0] at h;cases h
 ·rw[f0] at h;cases h
 ·have Z:=I.mod.ka a o W
  rcases Y with z|z
  ·exact I.ok.nq a o Z z
  ·exact absurd (Ç (Ì Z) (à I.ok.iz z)) (ñ _)
def Inv.F2 {X:Cx} {π:List (Ú×Obj)} {σ:St} {H:Hp} {s:Ä} {h':Ī} {t':Nat} {ch:List Ú} (I:Inv X π σ H s) (k:∀b o,b∉ch->s.heap.get? b=some o->h'.get? b=some o) (hf:∀b∈ch,fg X π H b) :
  Inv X π σ H { s with heap:=h',toks:=t' }:=by
 have Y:∀b u,H b=some u->b∉ch:=λb u e z=>by rw[(hf b z).1] at e;cases e
 refine I.step (g':=s.gens) (d':=s.drawn) (ch:=ch) (λb W=>?_) (λb o _ _ Z e _=>k b o Z e) (λb o _ _ Z e _=>⟨o.slots,k b o Z e⟩) (λ_ _ _ _ n=>n) (λb o Z e=>⟨o,k b o Z e⟩) (λ_ _ e=>e) (λ_ _ _ e=>e)
  (λb P e=>⟨#[],by rw[e];simp⟩) (λm V=>?_) (λb u e=>?_) I.bare
 ·obtain⟨_,f1,_,U,f4,T⟩:=hf b W
  exact⟨U,f1,f4,T⟩
 ·obtain⟨o,S,R,Q,r⟩:=V
  exact⟨o,S,R,k _ o (λz=>(hf _ z).2.1 rfl) Q,r⟩
 ·refine(I.aC b u e).dU (λc v Z q=>k c v ?_ q) (λ_ q=>q) λ_ _ q=>q
  rcases Z with z|z
  ·rw[z];exact Y b u e
  ·exact Y c _ z
def Inv.ON {X:Cx} {π:List (Ú×Obj)} {σ:St} {H:Hp} {s:Ä} {h':Ī} {t':Nat} {ch:List Ú} {p:Ú} {u:HO} (I:Inv X π σ H s) (k:∀b o,b∉ch->s.heap.get? b=some o->h'.get? b=some o) (hf:∀b∈ch,fg X π H b)
  (hp:s.heap.objs.size<=p) (new:di X.prog X.w (upd H p u) h' p u):Inv X π σ (upd H p u) { s with heap:=h',toks:=t' }:=by
 have Y:H p=none:=I.aC.fresh hp;have aC:cq X.prog X.w (upd H p u) h':=(I.F2 (t':=t') k hf).aC.adopt Y new;refine I.step (g':=s.gens) (d':=s.drawn) (ch:=ch) (λb W=>?_) (λb o _ _ Z e _=>k b o Z e) (λb o _ _ Z e _=>⟨o.slots,k b o Z e⟩) (λb o _ e n=>?_) (λb o Z e=>⟨o,k b o Z e⟩) (λc P e=>by rw[aX (cV e Y)];exact e) (λc o v e=>by rw[aX (cV e Y)];exact e)
  (λc O e=>⟨#[],by rw[aX (cV e Y),e];simp⟩) (λm V=>?_) aC I.bare
 ·obtain⟨_,f1,_,U,f4,T⟩:=hf b W
  exact⟨U,f1,f4,T⟩
 ·rw[aX (ß (Ç (Ì e) hp))]
  exact n
 ·obtain⟨o,S,R,Q,r⟩:=V
  exact⟨o,S,R,k _ o (λz=>(hf _ z).2.1 rfl) Q,r⟩
@[reducible] def i4:Bool->Ē->Hp->Ú->List V->Prop
 |true=>bp
 |false=>aZ
@[reducible] def kh:Bool->Ī->Ú->Array Å->Prop
 |true=>Heap.IsTuple
 |false=>Heap.IsList
@[reducible] def mw:Bool->Ī->Ú->Ú->Nat->Prop
 |true=>Heap.IsTupleIter
 |false=>Heap.IsListIter
def Inv.qR {X:Cx} {π:List (Ú×Obj)} {σ:St} {H:Hp} {s:Ä} {a:Ú} {xs:List V} (I:Inv X π σ H s):∀{k},i4 k X.K H a xs->∃its,Vals xs its/\kh k s.heap a its.toArray
 |true,h=>by obtain⟨i,r,p,_⟩:=I.tuple h;exact⟨i,r,p⟩
 |false,h=>by obtain⟨i,r,p,_⟩:=I.list h;exact⟨i,r,p.isList⟩
def Inv.Gz {X:Cx} {π:List (Ú×Obj)} {σ:St} {H:Hp} {s:Ä} {a:Ú} {xs ys:List V} (I:Inv X π σ H s):∀{k},i4 k X.K H a xs->i4 k X.K H a ys->xs=ys
 |true,h,g=>I.FR h g
 |false,h,g=>I.Gs h g
def wI {X:Cx} {π:List (Ú×Obj)} {σ:St} {H:Hp} {s:Ä} {a b:Ú} {xs:List V} (I:Inv X π σ H s):∀{k},i4 k X.K H a xs->fg X π H b->a≠b
 |true,h,f=>Uh I h f
 |false,h,f=>Ui I h f
def xD (gh:A.handled=none) (i l:Ú) (its:Array Å):∀k,HZ.kg P w A i l (λn h=>mw k h i l n/\kh k h l its) (λn=>its[n]?)
 |true=>HZ.RY gh i l its
 |false=>HZ.RZ gh i l its
def wJ (k:∀o,h.get? i=some o->h'.get? i=some o):∀{b},mw b h i l n->mw b h' i l n
 |true,x=>x.at k
 |false,x=>x.at k
def wg:∀{b},mw b h i l n->∃o,h.get? i=some o/\∀v,o.data≠.cell v
 |true,x=>by obtain⟨o,e,_,d⟩:=x;exact⟨o,e,λv q=>by rw[d] at q;cases q⟩
 |false,x=>by obtain⟨o,e,_,d⟩:=x;exact⟨o,e,λv q=>by rw[d] at q;cases q⟩
def tY (k l:Bool) (K:Ē) (a b:Ú):It :=
 ⟨λi H=>∃Z Y x y,i4 k K H a Z/\i4 l K H b Y/\Z[i]?=some x/\Y[i]?=some y,λi H v X=>∃p x y,H p=none/\v=.ref p/\X=upd H p (.tup [x,y])/\∀Z Y,i4 k K H a Z->i4 l K H b Y->Z[i]?=some x/\Y[i]?=some y,
  λi H=>∃Z Y,i4 k K H a Z/\i4 l K H b Y/\(Z.length<=i\/Y.length<=i)⟩
abbrev Xo:=tY true true
abbrev Xp:=tY false false
structure VR (it:Nat->Ī->Prop) (iC:Nat->Ī->Prop) (z ti to j1 j2:Ú) (i:Nat) (h:Ī):Prop where
 z:IsZip h z ti to .none
 ti:aag h ti (.ref j1) (.ref j2)
 to:∃u v,aag h to u v
 h1:it i h
 h2:iC i h
structure Ko (z ti to j1 j2:Ú):Prop where
 a1:ti≠z
 a2:to≠z
 a3:j1≠z
 a4:j2≠z
 a5:ti≠to
 a6:ti≠j1
 a7:ti≠j2
 a8:to≠j1
 a9:to≠j2
 b0:j1≠j2
def OO {k1 k2:Bool} {P:â} {w:Ą} {K:Ē} {elts:List Ġ} {kk:Nat} {pos:Pos} (a b z ti to j1 j2:Ú) (F:Ko z ti to j1 j2) :
  Turn P w K (.Tuple elts kk pos) (tY k1 k2 K a b) [z,ti,to,j1,j2] z (VR (λi h=>mw k1 h j1 a i) (λi h=>mw k2 h j2 b i) z ti to j1 j2) where
 mem:=by simp
 obj:=λi h Z c S=>by
  have M:c=z\/c=ti\/c=to\/c=j1\/c=j2:=by simpa using S
  rcases M with rfl|rfl|rfl|rfl|rfl
  ·exact⟨_,Z.z,λv q=>nomatch q⟩
  ·exact⟨_,Z.ti,λv q=>nomatch q⟩
  ·obtain⟨u,v,q⟩:=Z.to;exact⟨_,q,λv q=>nomatch q⟩
  ·exact wg Z.h1
  ·exact wg Z.h2
 keep:=λi h l Z k=>⟨k z (by simp) _ Z.z,k ti (by simp) _ Z.ti,by obtain⟨u,v,q⟩:=Z.to;exact⟨u,v,k to (by simp) _ q⟩,wJ (λo e=>k j1 (by simp) o e) Z.h1,wJ (λo e=>k j2 (by simp) o e) Z.h2⟩
 item:=by
  intro X L hw J S i j s σ H E I Y Z G;subst L hw J;obtain⟨f,d,x,y,V,U,ex,g⟩:=G;obtain⟨C,B,t⟩:=I.qR V;obtain⟨r,p,n⟩:=I.qR U;obtain⟨u,eu,ru⟩:=B.get ex;obtain⟨v,ev,rv⟩:=p.get g;have ne:∀c∈[z,ti,to,j1,j2],a≠c/\b≠c:=λc W=>⟨wI I V (Y c W),wI I U (Y c W)⟩;have D:HZ.Apart z ti to j1 j2 a b:=⟨F.a1,F.a2,F.a3,F.a4,F.a5,F.a6,F.a7,F.a8,F.a9,F.b0,(ne z (by simp)).1,(ne to (by simp)).1,(ne j1 (by simp)).1,(ne j2 (by simp)).1,(ne z (by simp)).2,(ne to (by simp)).2,(ne j1 (by simp)).2,(ne j2 (by simp)).2⟩;obtain⟨w1,w2,O⟩:=Z.to;have R:X.A.in1.handled=none:=I.ok.hd S;refine HZ.next_item D (xD R j1 a C.toArray k1) (xD R j2 b r.toArray k2) Z.z Z.ti O ⟨Z.h1,t⟩ ⟨Z.h2,n⟩ (by simpa using eu) (by simpa using ev) λl c1 c2 c3 c4 c5 c6 N=>⟨_,rfl,?_⟩;refine wpAny_letOwnedTupleGo_zip c1 λh2 d1 T=>?_;have hn:H s.heap.objs.size=none:=I.aC.fresh (ab3 _);have Yj:z<s.heap.objs.size:=Ì Z.z;have tZ:IsTup h2 s.heap.objs.size #[u,v]:=⟨_,T.extBut _ _ (š Yj) c5,rfl,_,rfl⟩
  have I2:Inv X j σ (upd H s.heap.objs.size (.tup [x,y])) { s with heap:=h2,toks:=s.toks }:=I.ON (ch:=[z,ti,to,j1,j2]) (λc o m e=>by
   have q:c≠z/\c≠ti/\c≠to/\c≠j1/\c≠j2:=by simpa using m
   exact T.extBut c o q.1 (N c o q.1 q.2.2.1 q.2.2.2.1 q.2.2.2.2 e)) Y (ab3 _) ⟨by show 2<=Ñ;decide,[u,v],.cons ru (.cons rv .nil),tZ⟩
  refine⟨.ref s.heap.objs.size,_,I2,rfl,⟨_,x,y,hn,rfl,rfl,λyl ym q1 q2=>?_⟩,?_,λc W=>?_⟩
  ·rw[I.Gz q1 V,I.Gz q2 U];exact⟨ex,g⟩
  ·refine⟨d1,T.extBut _ _ F.a1 (N _ _ F.a1 F.a5 F.a6 F.a7 Z.ti),⟨_,_,T.extBut _ _ F.a2 c2⟩,wJ (λo e=>T.extBut _ _ F.a3 e) c3.1,wJ (λo e=>T.extBut _ _ F.a4 e) c4.1⟩
  ·rw[aX]
   ·exact(Y c W).1
   ·intro e
    obtain⟨o,eo⟩:∃o,s.heap.get? c=some o:=by
     have M:c=z\/c=ti\/c=to\/c=j1\/c=j2:=by simpa using W
     rcases M with q|q|q|q|q
     ·rw[q];exact⟨_,Z.z⟩
     ·rw[q];exact⟨_,Z.ti⟩
     ·rw[q];exact⟨_,O⟩
     ·rw[q];obtain⟨o,e,_⟩:=wg Z.h1;exact⟨o,e⟩
     ·rw[q];obtain⟨o,e,_⟩:=wg Z.h2;exact⟨o,e⟩
    exact absurd (Ì eo) (by rw[e];exact ñ _)
 done:=by
  intro X L hw J S i j s σ H E I Y Z G;subst L hw J;obtain⟨f,d,V,U,hle⟩:=G;obtain⟨C,B,t⟩:=I.qR V;obtain⟨r,p,n⟩:=I.qR U;have ne:∀c∈[z,ti,to,j1,j2],a≠c/\b≠c:=λc W=>⟨wI I V (Y c W),wI I U (Y c W)⟩;have D:HZ.Apart z ti to j1 j2 a b:=⟨F.a1,F.a2,F.a3,F.a4,F.a5,F.a6,F.a7,F.a8,F.a9,F.b0,(ne z (by simp)).1,(ne to (by simp)).1,(ne j1 (by simp)).1,(ne j2 (by simp)).1,(ne z (by simp)).2,(ne to (by simp)).2,(ne j1 (by simp)).2,(ne j2 (by simp)).2⟩;obtain⟨w1,w2,O⟩:=Z.to;have R:X.A.in1.handled=none:=I.ok.hd S;have l1:=B.length;have l2:=p.length;refine HZ.next_end D (xD R j1 a C.toArray k1) (xD R j2 b r.toArray k2) Z.z Z.ti O ⟨Z.h1,t⟩ ⟨Z.h2,n⟩ ?_ λl N=>⟨rfl,I.F2 (t':=s.toks) (ch:=[z,ti,to,j1,j2]) (λc o m e=>by
   have q:c≠z/\c≠ti/\c≠to/\c≠j1/\c≠j2:=by simpa using m
   exact N c o q.1 q.2.2.1 q.2.2.2.1 q.2.2.2.2 e) Y⟩
  rcases hle with q|q
  ·left;simp;omega
  ·right;simp;omega
 self:=λA i s Q E Z h=>wpAny_pyIter_zip Z.z h
end L2
namespace HZ
open PySem PySem.Spec PyProof.Rows L2
@[reducible] noncomputable def uN:Bool->String
 |true=>"tuple_iterator"
 |false=>"list_iterator"
abbrev y1 (k:Bool) (h:Ī) (m1:Ú):Ī:=h.push { cls:=.type (uN k),data:=.fields #[.ref m1,.int 0 0] }
abbrev y2 (k l:Bool) (h:Ī) (m1 m2:Ú):Ī:=(y1 k h m1).push { cls:=.type (uN l),data:=.fields #[.ref m2,.int 0 0] }
abbrev y3 (k l:Bool) (h:Ī) (m1 m2:Ú):Ī:=(y2 k l h m1 m2).push { cls:=.type "tuple",data:=.seq #[.ref h.objs.size,.ref (y1 k h m1).objs.size] }
abbrev y4 (k l:Bool) (h:Ī) (m1 m2:Ú):Ī:=(y3 k l h m1 m2).push { cls:=.type "tuple",data:=.seq #[.none,.none] }
abbrev y5 (k l:Bool) (h:Ī) (m1 m2:Ú):Ī:=(y4 k l h m1 m2).push { cls:=.type "zip",data:=.fields #[.none,.bool false,.bool false,.ref (y2 k l h m1 m2).objs.size,.ref (y3 k l h m1 m2).objs.size] }
def Jl:∀{k},kh k s.heap m xs->Q (.ref s.heap.objs.size) { s with heap:=s.heap.push { cls:=.type (uN k),data:=.fields #[.ref m,.int 0 0] } }->Û (ã P w) A (pyIter (.ref m)) Q E s
 |true,h,q=>wpAny_pyIter_tuple h q
 |false,h,q=>Ũ h q
def Qd (o:Obj):∀{k},kh k h m xs->kh k (h.push o) m xs
 |true,x=>Heap.IsTuple.push x o
 |false,x=>Heap.IsList.push x o
def R1 (k l:Bool) (m1 m2:Ú) (xs ys:Array Å) :
  Meets (ū.«zip.__new__» ⟨[.type "zip",.ref m1,.ref m2],[]⟩) (λ_ R s=>kh k s.heap m1 xs/\kh l s.heap m2 ys/\R (.ok (.ret (.ref (y4 k l s.heap m1 m2).objs.size))) { s with heap:=y5 k l s.heap m1 m2 }) :=
 .of_wp λprog w A R s h=>by
  obtain⟨Z,g,d,Y,os⟩:=s;obtain⟨X,W,h⟩:=h;have U:=sub_zip;have V:kh k (Shared.heap ⟨Z,g,d,Y,os⟩) m1 xs:=X;have L2:kh l (Shared.heap ⟨Z.push { cls:=.type (uN k),data:=.fields #[.ref m1,.int 0 0] },g,d,Y,os⟩) m2 ys:=Qd _ W
  wp_walk using Jl V,Jl L2
  exact⟨_,rfl,h⟩
section
variable {P:â} {w:Ą} {A:î} {E:Å->Ä->Prop} {s:Ä}
def Hk:∀{k},h.get? i=some { cls:=.type (uN k),data:=.fields #[.ref m,.int 0 0] }->mw k h i m 0
 |true,e=>⟨_,e,rfl,rfl⟩
 |false,e=>⟨_,e,rfl,rfl⟩
def OP (h1:kh k s.heap m1 xs) (h2:kh l s.heap m2 ys)
 (h:∀h',IsZip h' (s.heap.objs.size+4) (s.heap.objs.size+2) (s.heap.objs.size+3) .none->aag h' (s.heap.objs.size+2) (.ref s.heap.objs.size) (.ref (s.heap.objs.size+1)) ->
   aag h' (s.heap.objs.size+3) .none .none->mw k h' s.heap.objs.size m1 0->mw l h' (s.heap.objs.size+1) m2 0->h'.objs.size=s.heap.objs.size+5 ->
 (∀c o,s.heap.get? c=some o->h'.get? c=some o)->Q (.ref (s.heap.objs.size+4)) { s with heap:=h' }):Û (ã P w) A (call (.type "zip") [.ref m1,.ref m2]) Q E s:=by
 refine callType_new F.called_zip (by decide) (F.typeCall_zip_2 _ _) (F.newCall_zip_2 _ _) (λobj=>F.args_object_init_3 obj _ _) F.entry_zip_new (R1 k l m1 m2 xs ys) ⟨h1,h2,?_⟩;have e1:(y1 k s.heap m1).objs.size=s.heap.objs.size+1:=ĉ ..;have e2:(y2 k l s.heap m1 m2).objs.size=s.heap.objs.size+2:=by rw[ĉ,e1]
 have Z:(y3 k l s.heap m1 m2).objs.size=s.heap.objs.size+3:=by rw[ĉ,e2]
 have Y:(y4 k l s.heap m1 m2).objs.size=s.heap.objs.size+4:=by rw[ĉ,Z]
 have V:(y5 k l s.heap m1 m2).objs.size=s.heap.objs.size+5:=by rw[ĉ,Y]
 have X:(y5 k l s.heap m1 m2).get? (y4 k l s.heap m1 m2).objs.size=some _:=Í _ rfl;have W:(y5 k l s.heap m1 m2).get? (y3 k l s.heap m1 m2).objs.size=some _:=Á _ (Í _ rfl);have g3:(y5 k l s.heap m1 m2).get? (y2 k l s.heap m1 m2).objs.size=some _:=Á _ (Á _ (Í _ rfl));have g2:(y5 k l s.heap m1 m2).get? (y1 k s.heap m1).objs.size=some _:=Á _ (Á _ (Á _ (Í _ rfl)));have g1:(y5 k l s.heap m1 m2).get? s.heap.objs.size=some _:=Á _ (Á _ (Á _ (Á _ (Í _ rfl))));show _/\_;rw[e2,Z,Y] at X;rw[e1,e2] at g3;rw[Z] at W;rw[e1] at g2;rw[Y];exact⟨⟨_,X,rfl⟩,h _ X g3 W (Hk g1) (Hk g2) V λc o q=>Á _ (Á _ (Á _ (Á _ (Á _ q))))⟩
end
end HZ
namespace L2
open PySem PySem.Spec PyProof.Rows
def Qe (n:Nat):Ko (n+4) (n+2) (n+3) n (n+1):=by constructor<;>(show (_:Nat)≠_)<;>omega
section
variable {X:Cx} {elts:List Ġ} {kk:Nat} {tp:Pos}
def Bj (k l:Bool) (K:Ē) (ta:TA):TI:=fun σ H R=>ta σ H λY Z=>∃a b X W,Y=[.ref a,.ref b]/\i4 k K Z a X/\i4 l K Z b W/\R (tY k l K a b) Z
noncomputable abbrev VS:=Bj true true
noncomputable abbrev VT:=Bj false false
def OQ:û "zip"=some (.type "zip"):=by decide +kernel
def Uj {π:List (Ú×Obj)} {σ:St} {H:Hp} {s:Ä} (I:Inv X π σ H s):∀b∈[s.heap.objs.size+4,s.heap.objs.size+2,s.heap.objs.size+3,s.heap.objs.size,s.heap.objs.size+1],fg X π H b:=λb Y=>by
 have Z:s.heap.objs.size<=b:=by
  have q:b=s.heap.objs.size+4\/b=s.heap.objs.size+2\/b=s.heap.objs.size+3\/b=s.heap.objs.size\/b=s.heap.objs.size+1:=by simpa using Y
  omega
 exact I.tV Z (I.aC.fresh Z)
def Hl {k l:Bool} {a b:Ġ} {ta:TA} {p pos:Pos} (hg:Gl X "zip") (hm:X.mg "zip"=none) (ha:PA X [a,b] ta) (hs:Ë [a,b] X.env=[(false,ļ a X.env),(false,ļ b X.env)]:=by rfl) (cX:Ë [b] X.env=[(false,ļ b X.env)]:=by rfl) :
  PI X (.Tuple elts kk tp) (.Call (.Name "zip" p) [a,b] [] pos) (Bj k l X.K ta):=by
 intro V s σ H R I h;refine Call_ (qv I hg hm OQ (Ŕ (aH (ha pos V s σ H _ I h) λz Z ⟨y,U,Y,T,S⟩=>?_) (by rw[hs,cX]) (by rw[cX];rfl)));obtain⟨a,b,xs,ys,e,Q,P,q⟩:=S;subst e;obtain⟨u,v,rfl,O,N⟩:=vals2 T;cases O;cases N;obtain⟨M,_,L⟩:=Y.qR Q;obtain⟨J,_,G⟩:=Y.qR P;refine HZ.OP (xs:=M.toArray) (ys:=J.toArray) L G λF W E D C B x A=>?_
 refine wpAny_pyIter_zip (s:={ Z with heap:=F }) W ?_
 exact⟨_,[Z.heap.objs.size+4,Z.heap.objs.size+2,Z.heap.objs.size+3,Z.heap.objs.size,Z.heap.objs.size+1],_,_,U,rfl,Y.kept (t':=Z.toks) A,OO a b _ _ _ _ _ (Qe _),⟨W,E,⟨_,_,D⟩,C,B⟩,Uj Y,q⟩
def Ab {a b:Ġ} {ta:TA} {p pos:Pos} (hg:Gl X "zip") (hm:X.mg "zip"=none) (ha:PA X [a,b] ta) (hs:Ë [a,b] X.env=[(false,ļ a X.env),(false,ļ b X.env)]:=by rfl) (cX:Ë [b] X.env=[(false,ļ b X.env)]:=by rfl) :
  PI X (.Tuple elts kk tp) (.Call (.Name "zip" p) [a,b] [] pos) (VS X.K ta):=Hl hg hm ha hs cX
def R3 {a b:Ġ} {ta:TA} {p pos:Pos} (hg:Gl X "zip") (hm:X.mg "zip"=none) (ha:PA X [a,b] ta) (hs:Ë [a,b] X.env=[(false,ļ a X.env),(false,ļ b X.env)]:=by rfl) (cX:Ë [b] X.env=[(false,ļ b X.env)]:=by rfl) :
  PI X (.Tuple elts kk tp) (.Call (.Name "zip" p) [a,b] [] pos) (VT X.K ta):=Hl hg hm ha hs cX
end
end L2
namespace PySem
section
variable {P:â} {w:Ą} {A:î} {E:Å->Ä->Prop} {s:Ä}
end
end PySem
namespace L2
open PySem PySem.Spec PyProof.Rows
def map_getD (ns:List Int):(Ā ns.length).map (λi=>ns.getD i 0)=ns:=by
 apply χ;intro i;rw[í];by_cases h:i<ns.length
 ·rw[abB h,Ð h]
  simp[Ū,Ð h]
 ·rw[İ (by simpa using h),İ (by omega)]
  rfl
section
variable {X:Cx}
end
section
variable {κ:Type} [DecidableEq κ]
end
section
variable {P:â} {w:Ą} {H:Hp} {h:Ī} {a:Ú}
end
section
variable {X:Cx} {π:List (Ú×Obj)} {σ:St} {H:Hp} {s:Ä} {a:Ú} {y v:V} {u r:Å} {o:Option V} {A:î} {E:Å->Ä->Prop}
end
section
variable {X:Cx} {π:List (Ú×Obj)} {σ:St} {H:Hp} {s:Ä} {a:Ú} {aB:List (Key×V)} {k:Key} {u:Å} {A:î} {E:Å->Ä->Prop}
end
section
variable {X:Cx} {o i e value:Ġ} {pos pos' oZ:Pos} {td ty tv:TE}
end
section
variable {X:Cx} {pos:Pos}
end
structure M1 (X:Cx) (o:Ġ) (m:Str) (apos:Pos) (e:Ġ) (aO:Pos):Prop where
 base:Ţ o m X.env (ļ o X.env)=ļ o X.env
 lE:((Ħ aO (Ë [e] X.env)).all (λx=>!x.1)&&(abJ aO (η [] X.env)).all (λx=>x.1.isSome)
  && decide (([e]:List Ġ).length+([]:List ź).length+(if ([]:List ź).isEmpty then 0 else 1)<30))=true
 line:(apos.endLine==aO.line)=true
 trees:Ħ aO (Ë [e] X.env)=[(false,ļ e X.env)]
structure M2 (X:Cx) (o:Ġ) (m:Str) (apos:Pos) (e f:Ġ) (aO:Pos):Prop where
 base:Ţ o m X.env (ļ o X.env)=ļ o X.env
 lE:((Ħ aO (Ë [e,f] X.env)).all (λx=>!x.1)&&(abJ aO (η [] X.env)).all (λx=>x.1.isSome)
  && decide (([e,f]:List Ġ).length+([]:List ź).length+(if ([]:List ź).isEmpty then 0 else 1)<30))=true
 line:(apos.endLine==aO.line)=true
 trees:Ħ aO (Ë [e,f] X.env)=[(false,ļ e X.env),(false,ļ f X.env)]
section
variable {X:Cx} {π:List (Ú×Obj)} {σ:St} {H:Hp} {s:Ä} {a:Ú} {y d:V} {u r:Å} {o:Option V} {A:î} {E:Å->Ä->Prop}
end
section
variable {X:Cx} {o e f:Ġ} {apos aO:Pos} {td ty tx:TE}
end
section
variable {X:Cx} {π:List (Ú×Obj)} {σ:St} {H:Hp} {s:Ä} {a:Ú} {aB:List (Key×V)} {A:î} {E:Å->Ä->Prop}
end
section
variable {X:Cx} {π:List (Ú×Obj)} {σ:St} {H:Hp} {s:Ä} {a:Ú} {y:V} {u:Å} {A:î} {E:Å->Ä->Prop}
end
section
variable {K:Ē} {caps:St} {H:Hp} {tf:TT} {te:TE} {Q:VK}
end
noncomputable def Ij (sc:ſ) (on:List (Str×ť)) (oN N:List Str) (nt:Nat) (cap:List Nat):Bool :=
 decide (sc.kind=.function)&&sc.names.all (λx=>decide (x.2≠.cell))&&sc.names.all (λx=>decide (x.2=.local->sc.names.lookup x.1=some .local)) &&
 sc.names.all (λx=>decide (x.2=.free->sc.names.lookup x.1=some .free/\(on.lookup x.1=some .cell\/on.lookup x.1=some .free)))&&decide (N.length=nt+cap.length) &&
 (Ā cap.length).all (λk=>match cap[k]? with
  |some j=>match oN[j]? with
   |some x=>decide (N[nt+k]?=some x)&&decide ((x,ë)∈sc.names)
   |none=>false
  |none=>true)
def Jm (h:Ij sc X.env.scope.names X.N N nt cap=true):sE X sc N nt cap:=by
 unfold Ij at h;simp only[Æ,æ,Ê] at h;obtain⟨⟨⟨⟨⟨Z,Y⟩,W⟩,V⟩,U⟩,T⟩:=h;refine⟨Z,Y,W,λx S e=>V x S e,U,λk j e=>?_⟩;have R:k<cap.length:=(È.mp e).1;have:=T k (ú.mpr R);rw[e] at this;dsimp only at this
 cases ex:X.N[j]? with
 |none=>rw[ex] at this;cases this
 |some x =>
  rw[ex] at this;simp only[Æ,Ê] at this;exact⟨x,rfl,this.1,this.2⟩
end L2
namespace TS
open PySem
abbrev j4 (l:List Nat):Prop:=l.Pairwise (· < ·)
def Qf (xs:Array Nat) (k d:Nat):xs.getD k d=xs.toList.getD k d:=by
 cases xs with
 |mk l =>
  by_cases h:k<l.length
  ·simp[abS,Ū,h]
  ·simp[abS,Ū,h]
def wj (h:j4 l) (mx:a<b) (hb:b<l.length):l.getD a 0<l.getD b 0:=by
 have:=List.pairwise_iff_getElem.mp h a b (by omega) hb mx;simpa [Ū,Ð hb,Ð (show a<l.length by omega)] using this
def Qg (l:List Nat) (hk:k<l.length) (d e:Nat):l.getD k d=l.getD k e:=by
 simp[Ū,Ð hk]
theorem Ad (xs:Array Nat) (j:Nat) (hr:j4 xs.toList):∀(fuel lo hi:Nat),hi-lo<=fuel->lo<=hi->hi<=xs.toList.length->(∀k,k<lo->xs.toList.getD k 0<j)->(∀k,hi<=k->k<xs.toList.length->j<=xs.toList.getD k 0) ->
  aa6 xs j fuel lo hi<=xs.toList.length/\(∀k,k<aa6 xs j fuel lo hi->xs.toList.getD k 0<j)/\(∀k,aa6 xs j fuel lo hi<=k->k<xs.toList.length->j<=xs.toList.getD k 0)
 |0,lo,hi,S,R,Z,Y,X=>by
  have e:lo=hi:=by omega
  subst e;exact⟨Z,Y,X⟩
 |fuel+1,lo,hi,S,R,Z,Y,X=>by
  unfold aa6;by_cases U:lo<hi
  ·rw[Þ U]
   dsimp only;have T:(lo+hi) / 2<xs.toList.length:=by omega
   rw[Qf,Qg _ T j 0];by_cases W:xs.toList.getD ((lo+hi) / 2) 0<j
   ·rw[Þ W]
    refine Ad xs j hr fuel _ _ (by omega) (by omega) Z (λk Q=>?_) X;by_cases V:k=(lo+hi) / 2
    ·rw[V];exact W
    ·exact Nat.lt_trans (wj hr (by omega) T) W
   ·rw[ì W]
    refine Ad xs j hr fuel _ _ (by omega) (by omega) (by omega) Y (λk Q V=>?_);by_cases P:k=(lo+hi) / 2
    ·rw[P];omega
    ·have:=wj hr (show (lo+hi) / 2<k by omega) V
     omega
  ·rw[ì U]
   have e:lo=hi:=by omega
   subst e;exact⟨Z,Y,X⟩
def Fx (xs:Array Nat) (j:Nat) (hr:j4 xs.toList):Ď xs j<=xs.toList.length/\(∀k,k<Ď xs j->xs.toList.getD k 0<j)/\(∀k,Ď xs j<=k->k<xs.toList.length->j<=xs.toList.getD k 0):=by
 unfold Ď;exact Ad xs j hr xs.size 0 xs.size (by omega) (ē _) (by simp) (λk Z=>by omega) (λk Z Y=>by simp at Y;omega)
def Ni {l:List Nat} {p j:Nat} (h:∀k,k<p->l.getD k 0<j):∀x∈l.take p,x<j:=by
 intro x Y;obtain⟨k,X,e⟩:=aaz Y;have Z:k<p/\k<l.length:=by rw[aau] at X;omega
 have:=h k Z.1;rw[List.getElem_take] at e;rw[<- e];simpa [Ū,Ð Z.2] using this
def Nj {l:List Nat} {p j:Nat} (h:∀k,p<=k->k<l.length->j<=l.getD k 0):∀x∈l.drop p,j<=x:=by
 intro x Y;obtain⟨k,X,e⟩:=aaz Y;have Z:p+k<l.length:=by rw[List.length_drop] at X;omega
 have:=h (p+k) (by omega) Z;rw[List.getElem_drop] at e;rw[<- e];simpa [Ū,Ð Z] using this
def Qh {xs:Array Nat} {j:Nat} (hr:j4 xs.toList) (hn:xs[Ď xs j]?≠some j):j4 (SetTable.insertAt xs (Ď xs j) j).toList:=by
 obtain⟨T,V,U⟩:=Fx xs j hr;rw[SetTable.toList_insertAt];have a1:=Ni V;have a2:∀x∈xs.toList.drop (Ď xs j),j<x:=by
  intro x hx;have Y:=Nj U;have X:j4 (xs.toList.drop (Ď xs j)):=abi (List.drop_sublist _ _) hr
  cases Z:xs.toList.drop (Ď xs j) with
  |nil=>rw[Z] at hx;cases hx
  |cons y r =>
   rw[Z] at X hx Y;have hy:j≠y:=by
    intro e;apply hn;have:(xs.toList.drop (Ď xs j))[0]?=some y:=by rw[Z];rfl
    rw[List.getElem?_drop] at this;have e2:xs.toList[Ď xs j]?=some y:=by simpa using this
    rw[<- Ĥ,e2,e]
   have W:j<y:=Nat.lt_of_le_of_ne (Y y Ø) hy
   rcases Ô.mp hx with e|hx
   ·rw[e];exact W
   ·exact Nat.lt_trans W ((ó.mp X).1 x hx)
 first
  |(refine List.pairwise_append.mpr ⟨abi (List.take_sublist _ _) hr,ó.mpr ⟨a2,abi (List.drop_sublist _ _) hr⟩,λx hx y hy=>?_⟩
    rcases Ô.mp hy with e|hy
    ·rw[e];exact a1 x hx
    ·exact Nat.lt_trans (a1 x hx) (a2 y hy))
  |trace_state
theorem Ae (t:SetTable) (h:Int):∀(fuel:Nat) (p:SetTable.Probe) (j:Nat) (dm:Option Nat),(∀d,p.dummy=some d->t.slot d=.dummy)->abT t (λ_=>h+1) h fuel p=some (.empty j dm)->t.slot j=.empty/\∀d,dm=some d->t.slot d=.dummy
 |0,p,j,dm,Y,e=>by simp[abT] at e
 |fuel+1,p,j,dm,Y,e=>by
  unfold abT at e
  cases hs:t.slot p.j with
  |empty =>
   rw[hs] at e;simp at e;rw[<- e.1,<- e.2];exact⟨hs,Y⟩
  |dummy =>
   rw[hs] at e;refine Ae t h fuel _ j dm (λd Z=>?_) e;unfold SetTable.advance at Z;split at Z
   ·simp at Z;rw[<- Z];exact hs
   ·simp at Z;rw[<- Z];exact hs
  |live i =>
   rw[hs] at e;have X:(h+1==h)=false:=by simp;omega
   simp only[X,Â,ä] at e;refine Ae t h fuel _ j dm (λd Z=>?_) e;unfold SetTable.advance at Z;split at Z
   ·exact Y d Z
   ·exact Y d Z
def F5 {t:SetTable} {j:Nat} (h:t.slot j=.empty\/t.slot j=.dummy):t.place[Ď t.place j]?≠some j:=by
 intro e;have:t.slot j=.live (Ď t.place j):=by
  unfold SetTable.slot;simp[e]
 rw[this] at h
 rcases h with h|h<;>cases h
def OR {t:SetTable} {h:Int} {j:Nat} {b:Bool} (e:t.freeSlot h=some (j,b)):t.place[Ď t.place j]?≠some j:=by
 unfold SetTable.freeSlot SetTable.probe at e;split at e
 ·rename_i Y Z X
  have k:=Ae t h _ _ Y Z (λd W=>by simp[SetTable.probeStart] at W) X;simp at e;rw[<- e.1]
  cases Z with
  |none=>exact F5 (.inl k.1)
  |some d=>exact F5 (.inr (k.2 d rfl))
 ·cases e
structure iq (led:Bool) (t:SetTable):Prop where
 led:t.led=led
 rise:t.plain=true->j4 t.place.toList
def vq (h:iq led t) (n:Nat):iq led (t.standIn n):=⟨h.led,λz=>by simp[SetTable.standIn] at z⟩
def NV {led:Bool} {t:SetTable} (h:iq led t) (es:Array (Int×Å)) (hs:Int) (x:Å):iq led (layNew t es hs x).2.1:=by
 unfold layNew;split
 ·rename_i slot Y e
  dsimp only;unfold SetTable.orStandIn;have Z:iq led (t.put slot).1:=⟨h.led,λz=>Qh (h.rise z) (OR e)⟩;split
  ·exact Z
  ·exact vq Z _
 ·exact vq h _
def Qi {mask finger moves:Nat} {led plain:Bool} {hs:Array Int} {o:Array Nat} (e:SetTable.laid mask finger moves led plain hs=some (t,o)):iq led t/\t.plain=plain:=by
 unfold SetTable.laid at e
 cases X:SetTable.layClean mask hs with
 |none=>rw[X] at e;simp at e
 |some owner =>
  rw[X] at e;simp at e;obtain⟨e1,e2⟩:=e;subst e1;refine⟨⟨rfl,λ_=>?_⟩,rfl⟩;show j4 (abj _).toList;simp only[List.map_filterMap];refine List.pairwise_filterMap.mpr ?_;refine List.Pairwise.imp (R:=(· < ·)) ?_ (List.pairwise_lt_range);intro a b U x Z y Y
  cases W:(owner[a]?.getD none) with
  |none=>rw[W] at Z;simp at Z
  |some q =>
   cases V:(owner[b]?.getD none) with
   |none=>rw[V] at Y;simp at Y
   |some r =>
    rw[W] at Z;rw[V] at Y;simp at Z Y;omega
def OS (h:iq led t) (es:Array (Int×Å)) (n:Nat):iq led (relayAll t es n).2.1:=by
 unfold relayAll;split
 ·rename_i Z o e
  dsimp only;split
  ·unfold SetTable.relaid at e
   have k:=Qi e;exact⟨k.1.led.trans h.led,k.1.rise⟩
  ·exact vq h _
 ·exact vq h _
def OT (led:Bool):iq led (.fresh 0 0 led):=⟨rfl,λ_=>List.Pairwise.nil⟩
open PySem.Spec PyProof.Rows
section
variable {P:â} {w:Ą} {A:î} {E:Å->Ä->Prop} {s:Ä} {led:Bool}
def gg (P:â) (w:Ą) (led:Bool) (h:Ī) (a:Ú) (S:Int->Bool) (n:Nat):Prop :=
 ∃o Z Y t,h.get? a=some o/\o.ExactSet/\o.data=.set Z Y t/\ElemsOf (ŗ P w) Z.toList/\(∀k,S k=true↔∃e∈Z.toList,(ŗ P w).is k e.2=true)/\Z.size<aai/\t.fits Z.size=true/\Z.size=n/\iq led t
def gg.at (x:gg P w led h a S n) (k:∀o,h.get? a=some o->h'.get? a=some o):gg P w led h' a S n:=by
 obtain⟨o,Z,Y,t,X,r⟩:=x;exact⟨o,Z,Y,t,k o X,r⟩
def gg.congr (x:gg P w led h a S n) (e:∀k,S k=S' k) (en:n=n'):gg P w led h a S' n':=by
 obtain rfl:S=S':=funext e;subst en;exact x
def Af {a:Ú} {u:Obj} {es gW:Array (Int×Å)} {ep:Nat} {t t':SetTable} {h:Ī} (hu:h.get? a=some u) (hx:u.ExactSet) (hd:u.data=.set es ep t) {S:Int->Bool}
  (c1:ElemsOf (ŗ P w) gW.toList) (c2:∀k,S k=true↔∃e∈gW.toList,(ŗ P w).is k e.2=true) (c3:gW.size<aai) (c4:t'.fits gW.size=true) (c5:iq led t') :
  (h.update a (Obj.putSet gW t')).get? a=some { u with data:=.set gW (ep+1) t' }/\gg P w led (h.update a (Obj.putSet gW t')) a S gW.size:=by
 have g:=(SetOf_store (knd:=ŗ P w) hu hx hd c1 c2 c3 c4).1;exact⟨g,_,gW,ep+1,t',g,hx,rfl,c1,c2,c3,c4,rfl,c5⟩
def R4 {a:Ú} {S:Int->Bool} {n:Nat} {k:Int} {tk:Tok} {Q:Bool->Ä->Prop} (hS:gg P w led s.heap a S n) (VU:n+1<aai)
  (h:∀h',ĩ a s.heap h'->gg P w led h' a (λj=>S j||decide (j=k)) (if S k then n else n+1)->Q (!S k) { s with heap:=h' }) :
  Û (ã P w) A (setAddHashed a (.int k tk) ((ŗ P w).hash k)) Q E s:=by
 obtain⟨u,W,d,t,R,H,O,G,F,m,B,y,i⟩:=hS;have ky:(ŗ P w).is k (.int k tk)=true:=intKind_is _ _ _ _;have sc:(abw k tk).scannable=true:=rfl;have uO:W.size+1<aai:=by rw[y];exact VU
 unfold setAddHashed setAddHashedIn;refine Ĉ ?_;refine À (Ŭ R O B ?_);dsimp only;rw[byScan_of sc m G,Þ rfl];unfold setAddByScan;refine À (À (ś ?_));refine À (wpAny_setScan_of ky R O B G ?_)
 cases g:W.toList.findIdx? (λe=>(ŗ P w).is k e.2) with
 |some j =>
  dsimp only;obtain⟨c,pj,_⟩:=List.findIdx?_eq_some_iff_getElem.mp g;have K:S k=true:=(F k).mpr ⟨W.toList[j],abn c,pj⟩;have q:=h s.heap (Heap.SameBut.refl a s.heap) ⟨u,W,d,t,R,H,O,G,λj'=>by
   rw[aaP,Ê,<- F j'];exact⟨λz=>z.elim id λe=>by rw[e];exact K,aa1⟩,m,B,by rw[K];exact y,i⟩
  rw[K] at q;exact Ã (Ã q)
 |none =>
  dsimp only;have K:S k=false:=by
   rw[<- ű,F k];rintro ⟨e,X,pe⟩;have z:=List.findIdx?_eq_none_iff.mp g e X;rw[pe] at z;cases z
  have way:∀(b:Bool) {x:Ä} {v:Unit->Ä->Prop},v () x->Û (ã P w) A (match b with|true=>rule "set.scan.the-table-gave-way"|false=>pure ()) v E x :=
   λb x v q=>by cases b<;>first|exact Ã q|exact ś q
  have pm:=layNew_perm t W ((ŗ P w).hash k) (.int k tk);have r:=layNew_fits t W ((ŗ P w).hash k) (.int k tk);have D:=NV i W ((ŗ P w).hash k) (.int k tk);generalize layNew t W ((ŗ P w).hash k) (.int k tk)=L at pm r D |-;obtain⟨Z,t1,aak,aap⟩:=L;dsimp only at pm r D |-;rw[aa7] at pm;have p:ElemsOf (ŗ P w) Z.toList:=(G.push ky sc).perm pm;have o:∀j,(S j||decide (j=k))=true↔∃e∈Z.toList,(ŗ P w).is j e.2=true:=mem_push_iff ky F pm;have z1:Z.size=n+1:=by
   have l:=pm.length_eq;rw[é,ò,ò,y] at l;exact l
  have V:Z.size<aai:=by omega
  refine À (way _ ?_);obtain⟨g1,f⟩:=Af (S:=λj=>S j||decide (j=k)) R H O p o V r D;have C:=Ğ s.heap a (Obj.putSet Z t1)
  have fin:∀h',ĩ a s.heap h'->gg P w led h' a (λj=>S j||decide (j=k)) Z.size->Q true { s with heap:=h' }:=λh' sb T=>by
   have q:=h h' sb;rw[K] at q;rw[z1] at T;exact q T
  have Y:=relayAll_perm t1 Z (abf Z.size);have N:=relayAll_fits t1 Z (abf Z.size);have M:=OS D Z (abf Z.size);have hv:hashByValue 8 (abw k tk)=pure true:=rfl;split
  ·refine À ?_
   rw[hv];refine Ã ?_;simp only[ô];refine À (aa8 R O ?_ (ψ V));split
   ·generalize relayAll t1 Z (abf Z.size)=L2 at Y N M |-
    obtain⟨J,t2,VV⟩:=L2;dsimp only at Y N M |-;have U:J.size=Z.size:=by
     have l:=Y.length_eq;rwa [ò,ò] at l
    have f2:∀j,(S j||decide (j=k))=true↔∃e∈J.toList,(ŗ P w).is j e.2=true:=λj=>(o j).trans ⟨λ⟨e,X,q⟩=>⟨e,Y.mem_iff.mpr X,q⟩,λ⟨e,X,q⟩=>⟨e,Y.mem_iff.mp X,q⟩⟩;refine À (way _ ?_);refine À (aa8 g1 rfl ?_ (ψ (by rw[U];exact V)));obtain⟨g2,I⟩:=Af (S:=λj=>S j||decide (j=k)) (led:=led) g1 H rfl (p.perm Y) f2 (by rw[U];exact V) N M;rw[U] at I;exact Ã (Ã (fin _ (C.trans (Ğ _ a _)) I))
   ·exact Ã (Ã (fin _ C f))
  ·refine À (Ã ?_)
   simp only[ô];refine À (aa8 R O ?_ (ψ V));split
   ·generalize relayAll t1 Z (abf Z.size)=L2 at Y N M |-
    obtain⟨J,t2,VV⟩:=L2;dsimp only at Y N M |-;have U:J.size=Z.size:=by
     have l:=Y.length_eq;rwa [ò,ò] at l
    have f2:∀j,(S j||decide (j=k))=true↔∃e∈J.toList,(ŗ P w).is j e.2=true:=λj=>(o j).trans ⟨λ⟨e,X,q⟩=>⟨e,Y.mem_iff.mpr X,q⟩,λ⟨e,X,q⟩=>⟨e,Y.mem_iff.mp X,q⟩⟩;refine À (way _ ?_);refine À (aa8 g1 rfl ?_ (ψ (by rw[U];exact V)));obtain⟨g2,I⟩:=Af (S:=λj=>S j||decide (j=k)) (led:=led) g1 H rfl (p.perm Y) f2 (by rw[U];exact V) N M;rw[U] at I;exact Ã (Ã (fin _ (C.trans (Ğ _ a _)) I))
   ·exact Ã (Ã (fin _ C f))
end
def Mo:entryFor table "set.__iter__"=some ū.«frozenset.__iter__»:=entryFor_alias (id':="frozenset.__iter__") (by kernel_rfl) rfl (by decide +kernel) (by kernel_rfl)
def jG:Slot "set_iterator" "__next__" "set_iterator.__next__" :=
 .of (owner:="set_iterator") (n:="__next__") (by rw[typeLookup_type,builtinLookup_eq_fast];kernel_rfl) (by decide +kernel) (by decide +kernel) (by decide +kernel)
  (by first|exact .inl (by decide +kernel)|exact .inr (by decide +kernel)) (by rw[isSubtype_type];kernel_rfl)
def vj:entryFor table "set_iterator.__next__"=some ū.«set_iterator.__next__»:=entryFor_of_tree (by kernel_rfl)
def vo (a:Å):argsOk "set_iterator.__next__" ⟨[a],[]⟩:=by unfold argsOk;kernel_rfl
def E5:Slot "set_iterator" "__iter__" "set_iterator.__iter__" :=
 .of (owner:="set_iterator") (n:="__iter__") (by rw[typeLookup_type,builtinLookup_eq_fast];kernel_rfl) (by decide +kernel) (by decide +kernel) (by decide +kernel)
  (by first|exact .inl (by decide +kernel)|exact .inr (by decide +kernel)) (by rw[isSubtype_type];kernel_rfl)
def iT (h:Ī) (I a:Ú) (first:Å) (i n ep:Nat):Prop:=∃o,h.get? I=some o/\o.cls=.type "set_iterator"/\o.data=.fields #[first,.int i 0,.ref a,.int n 0,.int ep 0]
section
variable {P:â} {w:Ą} {A:î} {E:Å->Ä->Prop} {s:Ä}
def Hm {slot i n ep nx:Nat} {es:Array (Int×Å)} {Q:Option Å->Ä->Prop} (hit:iT s.heap I a (.int slot 0) i n ep)
 (hu:s.heap.get? a=some u) (hd:u.data=.set es ep t) (hf:t.fits es.size=true) (hn:es.size=n)
 (hs:∀(A':î) (Q':Option (Å×Nat)->Ä->Prop) (E':Å->Ä->Prop),Q' (some (x,nx)) s->Û (ã P w) A' (setNext a slot i ep) Q' E' s)
 (hQ:∀h',iT h' I a (.int nx 0) (i+1) n ep->ĩ I s.heap h'->Q (some x) { s with heap:=h' }):Û (ã P w) A (aac (.ref I)) Q E s:=by
 obtain⟨o,Y,X,Z⟩:=id hit;have W:s.TypeIs (.ref I) "set_iterator":=⟨o,Y,X⟩;unfold aac;refine À (ŭ (č (name:=ý "__next__") W jG
  (Ċ jG W vj ?_ (vo _))))
 unfold ū.«set_iterator.__next__» slotArgs;simp only[aav,å,Â,↓reduceIte,bind_assoc,đ,Đ];refine À (Ã ?_);refine À (wpAny_fieldsOf Y Z ?_);dsimp only;refine À (Ů hu hd hf ?_);rw[hn];simp only[Đ,Â,↓reduceIte,ł];refine À (hs _ _ _ ?_);dsimp only;refine À (Ÿ Y Z (by simp) ?_);refine À (Ÿ (Ĝ _ Y (ň (ď Z _))) (ď Z _) (by simp) ?_);refine Ã ⟨x,rfl,Ã (hQ _ ⟨_,Ĝ _ (Ĝ _ Y (ň (ď Z _))) (ň (ď (ď Z _) _)),(aa5 ..).trans ((aa5 ..).trans X),?_⟩ ((Ğ ..).trans (Ğ ..)))⟩;rw[ď (ď Z _)];simp[ω]
def NW (hm:m≠0) (h:Q (w.draws src (s.drawn.get src) % m) { s with drawn:=s.drawn.bump src }):Û (ã P w) A (choose src m) Q E s:=fun Y p Z=>by
 unfold choose;rw[Sem.wp_choose];exact⟨hm,h⟩
def F6 (hh:A.handled=none) (ho:s.heap.get? I=some o) (dZ:o.data=.fields vs) (h2:2<vs.size)
 (hQ:∀h',aaA I s.heap h'->Q none { s with heap:=h' }) :
  Û (ã P w) A.in1 (setField (.ref I) 2 .none >>= λ_=>newExc (.type "StopIteration") [] >>= λe=>(raiseNew e:Sem Fin)) (λfin s'=>∃v,fin=Fin.done (Flow.ret v)/\Û (ã P w) A (pure (some v)) Q E s')
   (λe s'=>Û (ã P w) A (isInstance e (ο "StopIteration") >>= λb=>if b=true then pure none else throw e) Q E s') s:=by
 refine À (Ÿ ho dZ h2 ?_);refine À ?_;simp only[newExc,newTuple];refine À (ù ?_ (by size_fits))
 refine À (m:=firstArgMember _ _) (wpAny_of_eq (a:=Value.none) (by first|rfl | (simp only[firstArgMember];rfl)) ?_)
 refine ù ?_ (by size_fits);simp only[raiseNew];refine À (wpAny_handled ?_)
 first|rw[show A.in1.handled=none from hh]|rw[hh]
 refine À (Ã (wpAny_throw ?_));refine À (abo (T:="StopIteration") (b:=true) ⟨_,Í _ rfl,rfl⟩ isSubtype_stop ?_);exact Ã (hQ _ (((Ğ ..).extBut.push _).push _))
def Ik {slot i n ep:Nat} {es:Array (Int×Å)} {Q:Option Å->Ä->Prop} (hh:A.handled=none) (hit:iT s.heap I a (.int slot 0) i n ep)
 (hu:s.heap.get? a=some u) (hd:u.data=.set es ep t) (hf:t.fits es.size=true) (hn:es.size=n)
 (hs:∀(A':î) (Q':Option (Å×Nat)->Ä->Prop) (E':Å->Ä->Prop),Q' none s->Û (ã P w) A' (setNext a slot i ep) Q' E' s)
 (hQ:∀h',aaA I s.heap h'->Q none { s with heap:=h' }):Û (ã P w) A (aac (.ref I)) Q E s:=by
 obtain⟨o,Z,W,Y⟩:=id hit;have X:s.TypeIs (.ref I) "set_iterator":=⟨o,Z,W⟩;unfold aac;refine À (ŭ (č (name:=ý "__next__") X jG
  (Ċ jG X vj ?_ (vo _))))
 unfold ū.«set_iterator.__next__» slotArgs;simp only[aav,å,Â,↓reduceIte,bind_assoc,đ,Đ];refine À (Ã ?_);refine À (wpAny_fieldsOf Z Y ?_);dsimp only;refine À (Ů hu hd hf ?_);rw[hn];simp only[Đ,Â,↓reduceIte,ł];refine À (hs _ _ _ ?_);dsimp only;exact F6 hh Z Y (by simp) hQ
def Qj {i n ep pl:Nat} {es:Array (Int×Å)} {x:Int×Å} {Q:Option Å->Ä->Prop} (hit:iT s.heap I a (.ref tp) i n ep)
 (hu:s.heap.get? a=some u) (hd:u.data=.set es ep t) (hf:t.fits es.size=true) (hn:es.size=n) (uQ:s.heap.IsTuple tp places) (bw:places[i]?=some (.int pl tk)) (hx:es[pl]?=some x)
 (hQ:∀h',iT h' I a (.ref tp) (i+1) n ep->ĩ I s.heap h'->Q (some x.2) { s with heap:=h' }):Û (ã P w) A (aac (.ref I)) Q E s:=by
 obtain⟨o,Z,X,Y⟩:=id hit;obtain⟨op,V,T,np,U⟩:=uQ;have W:s.TypeIs (.ref I) "set_iterator":=⟨o,Z,X⟩;unfold aac;refine À (ŭ (č (name:=ý "__next__") W jG
  (Ċ jG W vj ?_ (vo _))))
 unfold ū.«set_iterator.__next__» slotArgs;simp only[aav,å,Â,↓reduceIte,bind_assoc,đ,Đ];refine À (Ã ?_);refine À (wpAny_fieldsOf Z Y ?_);dsimp only;refine À (Ů hu hd hf ?_);rw[hn];simp only[Đ,Â,↓reduceIte,ł];refine À (ī V U ?_);dsimp only;rw[bw];dsimp only;unfold setNextDrawn;refine À (À (Ŭ hu hd hf ?_));dsimp only;simp only[Đ,Â,↓reduceIte,ł];rw[hx];dsimp only;refine Ã ?_;refine À (Ÿ Z Y (by simp) ?_);refine Ã ⟨x.2,rfl,Ã (hQ _ ⟨_,Ĝ _ Z (ň (ď Y _)),(aa5 ..).trans X,?_⟩ (Ğ ..))⟩;rw[ď Y];simp[ω]
def R5 (hh:A.handled=none) (hit:iT s.heap I a (.ref tp) i n ep)
 (hu:s.heap.get? a=some u) (hd:u.data=.set es ep t) (hf:t.fits es.size=true) (hn:es.size=n) (uQ:s.heap.IsTuple tp places) (bw:places[i]?=none)
 (hQ:∀h',aaA I s.heap h'->Q none { s with heap:=h' }):Û (ã P w) A (aac (.ref I)) Q E s:=by
 obtain⟨o,Z,W,Y⟩:=id hit;obtain⟨op,V,T,np,U⟩:=uQ;have X:s.TypeIs (.ref I) "set_iterator":=⟨o,Z,W⟩;unfold aac;refine À (ŭ (č (name:=ý "__next__") X jG
  (Ċ jG X vj ?_ (vo _))))
 unfold ū.«set_iterator.__next__» slotArgs;simp only[aav,å,Â,↓reduceIte,bind_assoc,đ,Đ];refine À (Ã ?_);refine À (wpAny_fieldsOf Z Y ?_);dsimp only;refine À (Ů hu hd hf ?_);rw[hn];simp only[Đ,Â,↓reduceIte,ł];refine À (ī V U ?_);dsimp only;rw[bw];dsimp only;refine À (Ÿ Z Y (by simp) ?_)
 exact F6 (s:={ s with heap:=_ }) hh (Ĝ _ Z (ň (ď Y _))) (ď Y _) (by simp) λh' e=>hQ h' (Heap.ExtBut.trans (Ğ ..).extBut e)
end
def Mx:entryFor table "set_iterator.__iter__"=some ū.«dict_keyiterator.__iter__»:=entryFor_alias (id':="dict_keyiterator.__iter__") (by kernel_rfl) rfl (by decide +kernel) (by kernel_rfl)
def MN (a:Å):argsOk "set_iterator.__iter__" ⟨[a],[]⟩:=by unfold argsOk;kernel_rfl
section
variable {P:â} {w:Ą} {A:î} {E:Å->Ä->Prop} {s:Ä}
def Ag (hit:iT s.heap I a f i n ep) (h:Q (.ref I) s):Û (ã P w) A (pyIter (.ref I)) Q E s:=by
 obtain⟨o,Y,X,W⟩:=id hit;have Z:s.TypeIs (.ref I) "set_iterator":=⟨o,Y,X⟩;refine wpAny_pyIter_slot Z E5 (Ċ E5 Z Mx ?_ (MN _));show Û _ _ (ret (.ref I)) _ _ s;exact Ã ⟨_,rfl,"set_iterator",_,Z,jG.lookup,h⟩
def iT.at (x:iT h I a f i n ep) (k:∀o,h.get? I=some o->h'.get? I=some o):iT h' I a f i n ep:=by
 obtain⟨o,Z,r⟩:=x;exact⟨o,k o Z,r⟩
def F7 (hV:w.params.followText "set-order"=true) (hu:s.heap.get? a=some u) (hd:u.data=.set es ep t) (hf:t.fits es.size=true)
 (h:Q' (((Ų (w.params.setOrder a ep) es)[i]?).map λe=>(e.2,slot)) s):Û (ã P w) A (setNext a slot i ep) Q' E s:=by
 unfold setNext;refine À (Ŭ hu hd hf ?_);dsimp only;unfold setsByText;refine À (À (Ş (Ã ?_)))
 show Û _ _ (if w.params.followText "set-order"=true then _ else _) _ _ _
 rw[Þ hV];simp only[Đ,Â,↓reduceIte];unfold setWalk;refine À (À (Ŭ hu hd hf ?_));dsimp only;unfold setsByText;refine À (À (Ş (Ã ?_)))
 show Û _ _ (if w.params.followText "set-order"=true then _ else _) _ _ _
 rw[Þ hV];refine À (Ş (Ã ?_));exact Ã h
def qb (hr:j4 xs.toList) (hi:i<=xs.toList.length) (h1:∀k,k<i->xs.toList.getD k 0<slot) (h2:∀k,i<=k->k<xs.toList.length->slot<=xs.toList.getD k 0):Ď xs slot=i:=by
 obtain⟨V,a1,a2⟩:=Fx xs slot hr;by_cases Z:Ď xs slot<i
 ·have Y:=a2 _ (ab3 _) (by omega)
  have X:=h1 _ Z;omega
 ·by_cases W:i<Ď xs slot
  ·have Y:=a1 i W
   have X:=h2 i (ab3 _) (by omega);omega
  ·omega
def Fy (hV:w.params.followText "set-order"=false) (hu:s.heap.get? a=some u) (hd:u.data=.set es ep t) (hf:t.fits es.size=true)
 (hl:t.led=true) (hp:t.plain=true\/es.size<=1) (hb:Ď t.place slot=i)
 (h:Q' (match es[i]?,t.place[i]? with|some (_,x),some j=>some (x,j+1) | _,_=>none) s):Û (ã P w) A (setNext a slot i ep) Q' E s:=by
 unfold setNext;refine À (Ŭ hu hd hf ?_);dsimp only;unfold setsByText;refine À (À (Ş (Ã ?_)))
 show Û _ _ (if w.params.followText "set-order"=true then _ else _) _ _ _
 rw[ì (by rw[hV];decide)];split
 ·rename_i Y
  have Z:(!t.plain&&decide (es.size > 1))=true:=Y
  rcases hp with hp|hp
  ·rw[hp] at Z;cases Z
  ·simp at Z;omega
 ·refine À ?_
  show Û _ _ (if (!t.led&&!es.isEmpty)=true then _ else _) _ _ _
  rw[hl];simp only[å,Bool.false_and,Â,↓reduceIte];refine Ã ?_;rw[hb];exact Ã h
def zc (sb:ĩ I s.heap h'):Moved [I] (λa b=>b=a) s { s with heap:=h' }:=⟨λb o Z e=>by rw[sb.2 b (λz=>Z (by simp[z]))];exact e,rfl,rfl,rfl,ab3 _⟩
def zg (sb:aaA I s.heap h'):Moved [I] (λa b=>b=a) s { s with heap:=h' }:=⟨λb o Z e=>sb b o (λz=>Z (by simp[z])) e,rfl,rfl,rfl,ab3 _⟩
end
def NX (hh:A.handled=none) (fR:a≠I) (hV:w.params.followText "set-order"=true) (hd:u.data=.set es ep t) (hf:t.fits es.size=true) (hsz:(Ų (w.params.setOrder a ep) es).size=es.size) :
  WalksS P w A I [I,a] [I] (λa b=>b=a) es.size (λi v=>((Ų (w.params.setOrder a ep) es).map (·.2))[i]?=some v) (λi s=>iT s.heap I a (.int 0 0) i es.size ep/\s.heap.get? a=some u) where
 sub:=λb W=>by simp at W;simp[W]
 grefl:=λ_=>rfl
 gtrans:=λ_ _ _ T S=>S.trans T
 frame:=λi s V L Z _ U=>⟨Z.1.at λo e=>U I (by simp) o e,U a (by simp) _ Z.2⟩
 item:=λi s Q E hi Z Y=>by
  have R:i<(Ų (w.params.setOrder a ep) es).size:=by rw[hsz];exact hi
  have ex:(Ų (w.params.setOrder a ep) es)[i]?=some (Ų (w.params.setOrder a ep) es)[i]:=by simp[R]
  refine Hm (nx:=0) (x:=(Ų (w.params.setOrder a ep) es)[i].2) (slot:=0) Z.1 Z.2 hd hf rfl (λO N M q=>F7 hV Z.2 hd hf (by rw[ex];exact q)) λV it X=>?_;exact Y _ _ (by simp[ex]) ⟨it,by rw[X.2 a fR];exact Z.2⟩ (zc X)
 done:=λs Q E Z Y=>by
  refine Ik (slot:=0) hh Z.1 Z.2 hd hf rfl (λO N M q=>F7 hV Z.2 hd hf (by
   rw[show (Ų (w.params.setOrder a ep) es)[es.size]?=none by simp[hsz]];exact q)) λV X=>Y _ (zg X)
 self:=λi s Q E Z Y=>Ag Z.1 Y
def Nk (hh:A.handled=none) (fR:a≠I) (hV:w.params.followText "set-order"=false) (hd:u.data=.set es ep t) (hf:t.fits es.size=true) (hl:t.led=true) (hp:t.plain=true\/es.size<=1) (hr:j4 t.place.toList) :
  WalksS P w A I [I,a] [I] (λa b=>b=a) es.size (λi v=>(es.map (·.2))[i]?=some v) (λi s=>∃slot:Nat,iT s.heap I a (.int slot 0) i es.size ep/\s.heap.get? a=some u/\i<=es.size/\(∀k,k<i->t.place.toList.getD k 0<slot)/\∀k,i<=k->k<t.place.toList.length->slot<=t.place.toList.getD k 0) where
 sub:=λb N=>by simp at N;simp[N]
 grefl:=λ_=>rfl
 gtrans:=λ_ _ _ L K=>K.trans L
 frame:=λi s M B Y _ V=>by
  obtain⟨slot,X,Z,T⟩:=Y;exact⟨slot,X.at λo e=>V I (by simp) o e,V a (by simp) _ Z,T⟩
 item:=λi s Q E hi Y W=>by
  obtain⟨slot,X,Z,T,S,R⟩:=Y;have J:t.place.toList.length=es.size:=by
   simp only[SetTable.fits,Æ,beq_iff_eq,Ê] at hf;simpa using hf.1
  have O:i<t.place.toList.length:=by omega
  have e1:es[i]?=some es[i]:=by simp[hi]
  have e2:t.place[i]?=some (t.place.toList.getD i 0):=by
   rw[<- Ĥ,Ð O];simp[Ū,Ð O]
  refine Hm (nx:=t.place.toList.getD i 0+1) (x:=es[i].2) (slot:=slot) X Z hd hf rfl (λH G F q=>Fy hV Z hd hf hl hp (qb hr (by omega) S R) (by rw[e1,e2];exact q)) λM it U=>?_;refine W _ _ (by simp[e1]) ⟨_,it,by rw[U.2 a fR];exact Z,hi,λk V=>?_,λk V D=>?_⟩ (zc U)
  ·by_cases C:k=i
   ·rw[C];omega
   ·have:=wj hr (show k<i by omega) O
    omega
  ·have:=wj hr (show i<k by omega) D
   omega
 done:=λs Q E Y W=>by
  obtain⟨slot,X,Z,T,S,R⟩:=Y;have J:t.place.toList.length=es.size:=by
   simp only[SetTable.fits,Æ,beq_iff_eq,Ê] at hf;simpa using hf.1
  refine Ik (slot:=slot) hh X Z hd hf rfl (λH G F q=>Fy hV Z hd hf hl hp (qb hr (by omega) S R) (by
   rw[show es[es.size]?=none by simp];exact q)) λM U=>W _ (zg U)
 self:=λi s Q E Y W=>by
  obtain⟨slot,X,_⟩:=Y;exact Ag X W
def Nl (hh:A.handled=none) (fR:a≠I) (Yo:tp≠I) (hd:u.data=.set es ep t) (hf:t.fits es.size=true) (pl:List Nat) (bw:pl.length=es.size) (nK:∀x∈pl,x<es.size) :
  WalksS P w A I [I,a,tp] [I] (λa b=>b=a) es.size (λi v=>(pl.map λk=>(es.getD k (0,Value.none)).2)[i]?=some v) (λi s=>iT s.heap I a (.ref tp) i es.size ep/\s.heap.get? a=some u/\s.heap.IsTuple tp (pl.map λ(k:Nat)=>ω k).toArray) where
 sub:=λb U=>by simp at U;simp[U]
 grefl:=λ_=>rfl
 gtrans:=λ_ _ _ R O=>O.trans R
 frame:=λi s T tk Z _ Y=>⟨Z.1.at λo e=>Y I (by simp) o e,Y a (by simp) _ Z.2.1,let ⟨o,V,r⟩:=Z.2.2;⟨o,Y tp (by simp) o V,r⟩⟩
 item:=λi s Q E hi Z X=>by
  have S:i<pl.length:=by omega
  have e1:pl[i]?=some pl[i]:=Ð S;have Y:=nK _ (abn S);refine Qj (pl:=pl[i]) (x:=es.getD pl[i] (0,Value.none)) (tk:=0) Z.1 Z.2.1 hd hf rfl Z.2.2 (by simp[e1,ω]) (by simp[Y,abS]) λT it W=>?_
  refine X _ _ (by simp[e1]) ⟨it,by rw[W.2 a fR];exact Z.2.1,let ⟨o,V,r⟩:=Z.2.2;⟨o,by rw[W.2 tp Yo];exact V,r⟩⟩ (zc W)
 done:=λs Q E Z X=>R5 hh Z.1 Z.2.1 hd hf rfl Z.2.2 (by simp[bw]) λT W=>X _ (zg W)
 self:=λi s Q E Z X=>Ag Z.1 X
noncomputable def eR (w:Ą):Bool:=!(w.params.followText "set-order")
section
variable {P:â} {w:Ą} {A:î} {E:Å->Ä->Prop} {s:Ä}
def Qk (a:Å)
 (hq:Q₁ (.ref s.heap.objs.size) { s with heap:=s.heap.push { cls:=.type "set",dict:=none,data:=.set #[] 0 (.fresh 0 0 (eR w)) } }) :
  δ (ã P w) A (.call (.builtin "set.__new__") ⟨[.type "set",a],[]⟩) (wants Q₁ E) s:=by
 refine abC ?_;show Û _ A.in1 (abp "set.__new__" ⟨[.type "set",a],[]⟩ >>= λ_=>again (.builtin "set.__new__" ⟨[.type "set",a],[]⟩)) _ _ s;refine À ?_;refine wpAny_of_eq (F.newCall_set_1 a) ?_;refine Ã ⟨aaQ F.plain_set_new _,ĸ F.entry_set_new ?_⟩;rw[ħ F.plain_set_new _];unfold ū.«set.__new__» Builtin.Frozenset.newClass;have ss:=sub_set_self;obtain⟨Z,Y,X,W,V⟩:=s;dsimp only
 wp_walk
 refine Ş (Ã ?_);dsimp only;simp only[newObj];refine À (wpAny_alloc ?_);exact Ã (Ã hq)
end
section
variable {P:â} {w:Ą} {A:î} {R:Result->Ä->Prop} {I:Ú} {fp wr:List Ú} {G:Array GenState->Array GenState->Prop} {n:Nat} {Pv:Nat->Å->Prop} {St:Nat->Ä->Prop} {led:Bool}
def Ql (val:Nat->Int) {i n:Nat} (h:i<=n):(ō val i).length<=(ō val n).length:=by
 induction h with
 |refl=>exact ab3 _
 |step _ ih =>
  refine à ih ?_;rw[firstMet_succ,step_length]
  split<;>omega
def Qm (W:WalksS P w A.in1 I fp wr G n Pv St) (S:Ú) (uR:S∉fp)
  (val:Nat->Int) (Xr:∀i v,Pv i v->∃t,v=.int (val i) t) (hb:(ō val n).length+1<aai) :
  ∀(k i:Nat) (s:Ä),n-i=k->i<=n->St i s ->
   gg P w led s.heap S (λj=>(ō val i).any (·==j)) (ō val i).length ->
   (∀s',Moved (S::wr) G s s'->gg P w led s'.heap S (λj=>(ō val n).any (·==j)) (ō val n).length->R (.ok (.ret .none)) s') ->
   δ (ã P w) A (.builtin "set.update.loop" ⟨[.ref S,.ref I],[]⟩) R s:=by
 have nw:S∉wr:=λz=>uR (W.sub _ z);have sw:∀b∈wr,b∈S::wr:=λb z=>Ï _ z;intro k
 induction k with
 |zero =>
  intro i s U hi Z T Y;obtain rfl:i=n:=by omega
  refine ĸ F.entry_set_update_loop ?_;rw[ħ aaR _];show Û _ A.in1 (aac (.ref I) >>= _) _ _ s;refine À (W.done s _ _ Z λs' m=>?_);show Û _ A.in1 (ret Value.none) _ _ s';exact Ã (Y s' (m.mono sw) (T.at λo e=>m.heap S o nw e))
 |succ k ih =>
  intro i s U hi Z T Y;have lt:i<n:=by omega
  refine ĸ F.entry_set_update_loop ?_;rw[ħ aaR _];show Û _ A.in1 (aac (.ref I) >>= _) _ _ s;refine À (W.item i s _ _ lt Z λv s' pv Q m=>?_);obtain⟨t,rfl⟩:=Xr i v pv;have O:=T.at (h':=s'.heap) λo e=>m.heap S o nw e;show Û _ A.in1 (abx [abw (val i) t] (setAdd S (.int (val i) t)) >>= _) _ _ s';refine À (Ĉ ?_);unfold setAdd;refine Ĉ ?_;refine À ((ŗ P w).pyHash (k:=val i) (intKind_is _ _ _ _) ?_);have room:(ō val i).length+1<aai:=by have:=Ql val hi;omega
  refine R4 (s:={ s' with toks:=s'.toks+1 }) O room λh' V N=>?_
  have M:gg P w led h' S (λj=>(ō val (i+1)).any (·==j)) (ō val (i+1)).length:=N.congr (λj=>by rw[firstMet_succ,step_any]) (by rw[firstMet_succ,step_length]);refine Ã ⟨aaQ aaR _,ih (i+1) _ (by omega) lt (W.frame _ s' _ _ Q (aay _) λb X o e=>?_) M λL K J=>?_⟩
  ·rw[V.2 b λz:b=S=>uR (z ▸ X)];exact e
  ·refine Y L (Moved.trans W.gtrans ((m.mono sw).then_heap (aay _) λb o X e=>?_) K) J
   rw[V.2 b λz:b=S=>X (by rw[z];exact Ø)];exact e
end
section
variable {P:â} {w:Ą} {A:î} {E:Å->Ä->Prop} {s:Ä}
def NY   
 (hh:A.handled=none) (hl:s.heap.IsList l its) (hi:aa3 its.toList ns) (hb:(ō (λi=>ns.getD i 0) its.size).length+1<aai)
 (h:∀(h':Ī) (tk:Nat),gg P w (eR w) h' s.heap.objs.size (λk'=>(ō (λi=>ns.getD i 0) its.size).any (·==k')) (ō (λi=>ns.getD i 0) its.size).length ->
 (∀b o,b<s.heap.objs.size->s.heap.get? b=some o->h'.get? b=some o)->Q (.ref s.heap.objs.size) { s with heap:=h',toks:=tk }) :
  Û (ã P w) A (call (.type "set") [.ref l]) Q E s:=by
 obtain⟨c,tl,ur⟩:=ι.mro;have um:=ι.made;have ub:=ι.sub;refine abv (abC ?_);show Û _ _ (callAny (.type "set") _) _ _ _;refine Ã ⟨Code.quiet_builtin _ (by decide +kernel),ĸ F.entry_type_call ?_⟩;rw[Around.under_plain (weight_type_call_type "set" [.ref l] []) rfl];have h1:=ι.notType;have h2:=ι.canCreate;have M:=F.typeCall_set_1 (.ref l)
 repeat (any_goals (first|assumption|wp_step))
 refine Ŏ (Qk (.ref l) (E:=E) (Q₁:=λobj V=>obj=.ref s.heap.objs.size/\V={ s with heap:=s.heap.push { cls:=.type "set",dict:=none,data:=.set #[] 0 (.fresh 0 0 (eR w)) } }) ⟨rfl,rfl⟩) λr V Y=>?_
 cases r with
 |error e=>exact Y
 |ok L =>
  cases L with
  |ret obj =>
   obtain⟨rfl,rfl⟩:=Y;have v:(s.heap.push { cls:=.type "set",dict:=none,data:=.set #[] 0 (.fresh 0 0 (eR w)) }).get? s.heap.objs.size=some { cls:=.type "set",dict:=none,data:=.set #[] 0 (.fresh 0 0 (eR w)) }:=Í _ rfl
   have K:Shared.TypeIs { s with heap:=s.heap.push { cls:=.type "set",dict:=none,data:=.set #[] 0 (.fresh 0 0 (eR w)) } } (.ref s.heap.objs.size) "set":=⟨_,v,rfl⟩
   have vl:=ι.init.lookup;have vb:=ι.init.bind (.ref s.heap.objs.size)
   repeat (any_goals (first|assumption|wp_step))
   refine Ŏ (codeAny_call_builtin (R:=wants (λr U=>r=.none/\∃h' tk,U={ s with heap:=h',toks:=tk } /\
     gg P w (eR w) h' s.heap.objs.size (λk'=>(ō (λi=>ns.getD i 0) its.size).any (·==k')) (ō (λi=>ns.getD i 0) its.size).length /\
     (∀b o,b<s.heap.objs.size->s.heap.get? b=some o->h'.get? b=some o)) E) ι.init.plain F.entry_set_init (check_set_init_1 K ?_)) λJ U X=>?_
   ·obtain⟨ol,T,S,nn,O⟩:=hl
    obtain⟨oc,I,oa,H⟩:=ol;simp only at S O;subst S;subst O;have G:(s.heap.push { cls:=.type "set",dict:=none,data:=.set #[] 0 (.fresh 0 0 (eR w)) }).get? l=some { cls:=.type "list",dict:=I,data:=.seq its nn,slots:=H }:=Á _ T;have u1:=F.sub_list_set;have u2:=F.sub_list_frozenset;have fR:(ο "list"==ο "dict")=false:=by decide
    have ul:(s.heap.push { cls:=.type "set",dict:=none,data:=.set #[] 0 (.fresh 0 0 (eR w)) }).IsList l its:=⟨_,G,rfl,nn,rfl⟩;unfold ū.«set.__init__» noKeywords Builtin.Frozenset.updateFrom;generalize D:pyIter=PI
    wp_walk
    subst D;refine Ũ ul ?_;refine À (wpAny_runValue ?_);have N:l<s.heap.objs.size:=Ì T;have C:A.in1.in1.in1.handled=none:=by simp[hh]
    have B:l≠(s.heap.push { cls:=.type "set",dict:=none,data:=.set #[] 0 (.fresh 0 0 (eR w)) }).objs.size:=by
     rw[ĉ];exact ß (Ģ N)
    have z:s.heap.objs.size∉[(s.heap.push { cls:=.type "set",dict:=none,data:=.set #[] 0 (.fresh 0 0 (eR w)) }).objs.size,l]:=by
     rw[ĉ];simp only[Ô,Ĺ,ï,or_false,not_or];exact⟨ß (ų _),š N⟩
    have y:∀(i:Nat) (v:Å),its[i]?=some v->∃t,v=.int ((λi=>ns.getD i 0) i) t:=λi v x =>
     IntsAre.int_at hi i v (by rw[Ĥ];exact x)
    refine Qm (led:=eR w) ((Walks.list C _ l B its).toS) s.heap.objs.size
     z (λi=>ns.getD i 0) y hb (its.size-0) 0 _ (by omega) (ē _)
     ⟨⟨_,Í _ rfl,rfl,rfl⟩,(ul.push _)⟩ ?v0 ?vR
    case v0 =>
     have u:((s.heap.push { cls:=.type "set",dict:=none,data:=.set #[] 0 (.fresh 0 0 (eR w)) }).push { cls:=.type "list_iterator",data:=.fields #[.ref l,.int 0 0] }).get? s.heap.objs.size
       = some { cls:=.type "set",dict:=none,data:=.set #[] 0 (.fresh 0 0 (eR w)) }:=Á _ v
     exact⟨_,#[],0,_,u,⟨rfl,rfl,rfl⟩,rfl,λe q=>by simp at q,λk=>by simp[firstMet_zero],by unfold aai;simp,by rfl,rfl,OT _⟩
    case vR =>
     intro p Z W;obtain⟨h',n,m,j,g⟩:=p;have f:n=s.gens:=Z.gens;have d:m=s.drawn:=Z.drawn;have a:g=s.os:=Z.os;subst f;subst d;subst a;show Û _ _ _ _ _ _;refine Ã ?_;show Û _ _ (ret Value.none) _ _ _;refine Ã ⟨rfl,h',j,rfl,W,λb o hb e=>?_⟩;have v1:b≠s.heap.objs.size:=ß hb;have v2:b≠(s.heap.push { cls:=.type "set",dict:=none,data:=.set #[] 0 (.fresh 0 0 (eR w)) }).objs.size:=by
      rw[ĉ];exact ß (Ģ hb)
     exact Z.heap b o (by simp only[Ô,Ĺ,ï,or_false,not_or];exact⟨v1,v2⟩) (Á _ (Á _ e))
   ·cases J with
    |error e=>exact X
    |ok VW =>
     cases VW with
     |ret r =>
      obtain⟨rfl,h',tk,rfl,W,vk⟩:=X
      repeat (any_goals (first|assumption|wp_step))
      exact h _ _ W vk
     |_=>exact X.elim
  |_=>exact Y.elim
end
theorem pZ {α:Type}:∀{l:List α} {i:Nat} {x:α},l[i]?=some x->(x::l.eraseIdx i).Perm l
 | [],i,x,h=>by simp at h
 |y::l,0,x,h=>by
  have:y=x:=by simpa using h
  subst this;exact List.Perm.refl _
 |y::l,i+1,x,h=>by
  have ih:=pZ (l:=l) (i:=i) (x:=x) (by simpa using h);rw[List.eraseIdx_cons_succ];exact(List.Perm.swap y x _).trans (List.Perm.cons y ih)
theorem Hn {α:Type} (next:Nat->Nat):∀(fuel k:Nat) (left:List α) (out:Array α),left.length=fuel->(pickOrder.go next fuel k left out).toList.Perm (out.toList++left)
 |0,k,left,out,h=>by
  have:left=[]:=aaS.mp h;subst this;unfold pickOrder.go;simp
 |fuel+1,k,left,out,h=>by
  unfold pickOrder.go
  have Z:next k % left.length<left.length:=Nat.mod_lt _ (by omega)
  rw[Ð Z];dsimp only;have Y:=pZ (Ð Z)
  have ih:=Hn next fuel (k+1) (left.eraseIdx (next k % left.length)) (out.push left[next k % left.length]) (by rw[List.length_eraseIdx_of_lt Z];omega)
  refine ih.trans ?_;rw[aa7,Ł];exact List.Perm.append_left _ Y
def F8 {α:Type} (next:Nat->Nat) (xs:Array α):(Ų next xs).toList.Perm xs.toList:=by
 unfold Ų
 have:=Hn next xs.size 0 xs.toList #[] (by simp)
 simpa using this
section
variable {P:â} {w:Ą} {A:î} {E:Å->Ä->Prop}
def NZ {α:Type} (n:Nat):∀(xs:List α) (s:Ä) (Q:List α->Ä->Prop),xs.length=n->(∀ys d,ys.Perm xs->Q ys { s with drawn:=d })->Û (ã P w) A (drawOrder n xs) Q E s:=by
 induction n with
 |zero =>
  intro xs s Q h Z;have:xs=[]:=aaS.mp h;subst this;unfold drawOrder;exact Ã (Z [] s.drawn (List.Perm.refl _))
 |succ n ih =>
  intro xs s Q h Z
  cases xs with
  |nil=>simp at h
  |cons x xs =>
   unfold drawOrder;refine À (NW (by simp) ?_);have Y:w.draws .order (s.drawn.get .order) % (x::xs).length<(x::xs).length:=Nat.mod_lt _ (by simp);rw[Ð Y];dsimp only;refine À (ih _ _ _ (by rw[List.length_eraseIdx_of_lt Y];omega) λys d X=>?_);refine Ã (Z _ d ?_);exact(List.Perm.cons _ X).trans (pZ (Ð Y))
def Qn {s:Ä} {a:Ú} {u:Obj} {es:Array (Int×Å)} {ep:Nat} {t:SetTable} {Q:Å->Ä->Prop} (hu:s.heap.get? a=some u) (hx:u.ExactSet) (hd:u.data=.set es ep t) (hf:t.fits es.size=true) (ht:iq (eR w) t)
  (hsz:es.size<=Ñ)
  (hQ:∀(h':Ī) (d':Drawn) (I:Ú) (fp:List Ú) (St:Nat->Ä->Prop) (order:List Å),(∀b o,s.heap.get? b=some o->h'.get? b=some o)->(∀b∈fp,b<h'.objs.size)->(∀b∈fp,b=a\/s.heap.objs.size<=b)->I∈fp->s.heap.objs.size<=I->order.Perm (es.toList.map (·.2)) ->
   (∀A':î,A'.handled=none->WalksS P w A' I fp [I] (λa b=>b=a) es.size (λi v=>order[i]?=some v) St)->St 0 { s with heap:=h',drawn:=d' }->Q (.ref I) { s with heap:=h',drawn:=d' }) :
  Û (ã P w) A (pyIter (.ref a)) Q E s:=by
 have O:s.TypeIs (.ref a) "set":=⟨u,hu,hx.1⟩;have X:a<s.heap.objs.size:=Ì hu;refine wpAny_pyIter_slot O F.slot_set_iter (Ċ F.slot_set_iter O Mo ?_ (F.args_set_iter_1 _));unfold ū.«frozenset.__iter__» Builtin.Frozenset.slot0 slotArgs;simp only[aav,å,Â,↓reduceIte,bind_assoc,đ,Đ];unfold Builtin.Frozenset.addrOf Builtin.Frozenset.sizeOf;refine À (Ã ?_)
 try dsimp only
 refine À (Ã ?_);refine À (À (Ů hu hd hf (Ã ?_)));unfold setDrawn;refine À (À (Ŭ hu hd hf ?_));dsimp only;unfold setsByText;refine À (À (Ş (Ã ?_)));refine Ã ?_
 show Û _ _ (if (!(w.params.followText "set-order")&&(!t.plain&&decide (es.size > 1)))=true then _ else _) _ _ _
 have H:∀(W:Obj) b o,s.heap.get? b=some o->(s.heap.push W).get? b=some o:=λW b o e=>Á _ e;by_cases V:(!w.params.followText "set-order"&&(!t.plain&&decide (es.size > 1)))=true
 ·rw[Þ V]
  refine À (NZ _ _ _ _ (by simp) λU d hp=>?_);refine À ?_;simp only[newTuple];refine ù ?_ (by have:=hp.length_eq;rw[List.length_range] at this;show (abj _).size<=Ñ;rw[Ù,É,this];exact hsz);have M:∀x∈U,x<es.size:=λx hx=>by simpa using hp.mem_iff.mp hx
  have R:U.length=es.size:=by simpa using hp.length_eq
  refine À (wpAny_setEpoch_of (Á _ hu) hd hf ?_);refine À (ù ?_);refine Ã ⟨_,rfl,"set_iterator",_,⟨_,Í _ rfl,rfl⟩,jG.lookup,?_⟩;have Y:(s.heap.push { cls:=.type "tuple",data:=.seq (U.map λ(i:Nat)=>ω i).toArray }).objs.size=s.heap.objs.size+1:=by simp[ĉ]
  refine hQ _ d _ [_,a,s.heap.objs.size] _ (U.map λk=>(es.getD k (0,Value.none)).2) (λb o e=>Á _ (Á _ e)) ?_ ?_ (by simp) (by rw[Y];exact aay _) ?_ (λA' T=>Nl (u:=u) (t:=t) (ep:=ep) T (I:=_) (a:=a) (tp:=s.heap.objs.size) (by rw[Y];exact ß (Ģ X)) (by rw[Y];exact ß (ų _)) hd hf U R M) ⟨⟨_,Í _ rfl,rfl,rfl⟩,Á _ (Á _ hu),⟨_,Á _ (Í _ rfl),rfl,_,rfl⟩⟩
  ·intro b Z
   simp only[Ô,ï,or_false] at Z;rw[ĉ]
   rcases Z with e|e|e
   ·rw[e];exact ų _
   ·rw[e,Y];exact Ģ (Ģ X)
   ·rw[e,Y];exact Ģ (ų _)
  ·intro b Z
   simp only[Ô,ï,or_false] at Z
   rcases Z with e|e|e
   ·right;rw[e,Y];exact aay _
   ·exact .inl e
   ·right;rw[e];exact ab3 _
  ·refine(List.Perm.map _ hp).trans ?_
   have:(Ā es.size).map (λk=>(es.getD k (0,Value.none)).2)=es.toList.map (·.2):=by
    apply χ;intro i;rw[í,í];by_cases hi:i<es.size
    ·rw[abB hi,Ĥ]
     simp[abS,hi]
    ·rw[İ (by simpa using hi),İ (by simpa using hi)]
     rfl
   rw[this]
 ·rw[ì V]
  refine À (Ã ?_);refine À (wpAny_setEpoch_of hu hd hf ?_);refine À (ù ?_);refine Ã ⟨_,rfl,"set_iterator",_,⟨_,Í _ rfl,rfl⟩,jG.lookup,?_⟩;have aj:∀(W:Obj),∀b∈[s.heap.objs.size,a],b<(s.heap.push W).objs.size:=λW b Z=>by
   simp only[Ô,ï,or_false] at Z;rw[ĉ]
   rcases Z with e|e
   ·rw[e];exact ų _
   ·rw[e];exact Ģ X
  have N:∀b∈[s.heap.objs.size,a],b=a\/s.heap.objs.size<=b:=λb Z=>by
   simp only[Ô,ï,or_false] at Z
   rcases Z with e|e
   ·right;rw[e];exact ab3 _
   ·exact .inl e
  cases S:w.params.followText "set-order" with
  |true =>
   have L:(Ų (w.params.setOrder a ep) es).size=es.size:=by
    have:=(F8 (w.params.setOrder a ep) es).length_eq;simpa using this
   have hw:∀A':î,A'.handled=none->WalksS P w A' s.heap.objs.size [s.heap.objs.size,a] [s.heap.objs.size] (λa b=>b=a) es.size (λi v=>((Ų (w.params.setOrder a ep) es).toList.map (·.2))[i]?=some v) _:=λA' T=>by
    have:=NX (P:=P) (u:=u) (t:=t) T (I:=s.heap.objs.size) (a:=a) (ß X) S hd hf L;simpa using this
   exact hQ _ s.drawn _ [_,a] _ ((Ų (w.params.setOrder a ep) es).toList.map (·.2)) (λb o e=>Á _ e) (aj _) N (by simp) (ab3 _) (List.Perm.map _ (F8 _ _)) hw ⟨⟨_,Í _ rfl,rfl,rfl⟩,Á _ hu⟩
  |false =>
   have hp:t.plain=true\/es.size<=1:=by
    rw[S] at V;simp at V
    cases K:t.plain with
    |true=>exact .inl rfl
    |false=>exact .inr (V K)
   have R:t.led=true:=by rw[ht.led];unfold eR;rw[S];rfl
   have J:j4 t.place.toList:=by
    rcases hp with hp|hp
    ·exact ht.rise hp
    ·simp only[SetTable.fits,Æ,beq_iff_eq,Ê] at hf
     have hle:t.place.toList.length<=1:=by simp[hf.1];exact hp
     match t.place.toList,hle with
     | [],_=>exact List.Pairwise.nil
     | [x],_=>exact List.pairwise_singleton _ _
   have hw:∀A':î,A'.handled=none->WalksS P w A' s.heap.objs.size [s.heap.objs.size,a] [s.heap.objs.size] (λa b=>b=a) es.size (λi v=>(es.toList.map (·.2))[i]?=some v) _:=λA' T=>by
    have:=Nk (P:=P) (u:=u) (t:=t) (ep:=ep) T (I:=s.heap.objs.size) (a:=a) (ß X) S hd hf R hp J;simpa using this
   exact hQ _ s.drawn _ [_,a] _ (es.toList.map (·.2)) (λb o e=>Á _ e) (aj _) N (by simp) (ab3 _) (List.Perm.refl _) hw ⟨0,⟨_,Í _ rfl,rfl,rfl⟩,Á _ hu,ē _,λk G=>by omega,λk _ _=>ē _⟩
end
section
variable {P:â} {w:Ą} {A:î} {E:Å->Ä->Prop} {s:Ä}
def split_len:splitId "set.__len__"=some ("set","__len__"):=by decide +kernel
def ints_of (h:ElemsOf (ŗ P w) es) (hp:vs.Perm (es.map (·.2))):∃ns,aa3 vs ns:=by
 have Z:∀v∈vs,∃k t,v=.int k t:=λv Z=>by
  obtain⟨e,W,rfl⟩:=ć.mp (hp.mem_iff.mp Z);obtain⟨⟨k,X,_⟩,_⟩:=h e W
  cases Y:e.2 with
  |int i t=>exact⟨i,t,rfl⟩
  |_=>rw[Y] at X;simp[ŗ,Value.isInt] at X
 clear hp
 induction vs with
 |nil=>exact⟨[],.nil⟩
 |cons v vs ih =>
  obtain⟨k,t,rfl⟩:=Z v Ø;obtain⟨ns,V⟩:=ih λx Y=>Z x (Ï _ Y);exact⟨k::ns,.cons k t V⟩
def Il {α:Type} {c:Bool} {x y:Sem α} {Q:α->Ä->Prop} (hc:c=true) (h:Û (ã P w) A x Q E s):Û (ã P w) A (if c=true then x else y) Q E s:=by
 rw[Þ hc];exact h
def Nm {a:Ú} {u:Obj} {es:Array (Int×Å)} {ep:Nat} {t:SetTable} {Q:List Å->Ä->Prop} (hh:A.handled=none) (hu:s.heap.get? a=some u) (hx:u.ExactSet) (hd:u.data=.set es ep t) (hf:t.fits es.size=true) (ht:iq (eR w) t) (hsz:es.size<aai)
  (hQ:∀(h':Ī) (d':Drawn) (tk:Nat) (vs:List Å),s.heap.objs.size<=h'.objs.size->(∀b o,s.heap.get? b=some o->h'.get? b=some o)->vs.Perm (es.toList.map (·.2))->Q vs { s with heap:=h',drawn:=d',toks:=tk }):Û (ã P w) A (collect (.ref a)) Q E s:=by
 have O:es.size<=Ñ:=ψ hsz;have N:a<s.heap.objs.size:=Ì hu;unfold collect;refine À (wpAny_runValue (ĸ F.entry_proto_collect ?_));rw[ħ F.plain_proto_collect _];show Û _ A.in1 (newList [] >>= λl=>again (.builtin "list.__iadd__" ⟨[l,.ref a],[]⟩)) _ _ s;refine À (ù ?_);refine Ã ⟨aaQ F.plain_list_iadd _,ĸ F.entry_list_iadd ?_⟩;rw[ħ F.plain_list_iadd _];show Û _ A.in1 (μ (.ref s.heap.objs.size) (.ref a) (.ref s.heap.objs.size)) _ _ _
 generalize U:({ s with heap:=s.heap.push { cls:=.type "list",data:=.seq ([]:List Å).toArray } }:Ä)=Y
 have M:Y.heap.objs.size=s.heap.objs.size+1:=by rw[<- U];simp[ĉ]
 have r:∀b o,s.heap.get? b=some o->Y.heap.get? b=some o:=λb o e=>by rw[<- U];exact Á _ e
 have T:Y.heap.get? a=some u:=by rw[<- U];exact Á _ hu
 have p:Y.TypeIs (.ref a) "set":=⟨u,T,hx.1⟩;have n:Y.heap.get? s.heap.objs.size=some { cls:=.type "list",data:=.seq ([]:List Å).toArray }:=by rw[<- U];exact Í _ rfl
 unfold μ;refine À (aaE p ?_);have k:Builtin.List.listSameRef (.ref s.heap.objs.size) (.ref a)=false:=by
  simp[Builtin.List.listSameRef];exact š N
 have i:(ο "set"==ο "list")=false:=by decide
 have h:(ο "set"==ο "tuple")=false:=by decide
 simp only[k,i,h,Bool.or_false,Â,ä];refine À (Qn T hx hd hf ht O λh' d' I g St order S k2 f k3 L K W d=>?_)
 have R:Shared.TypeIs { Y with heap:=h',drawn:=d' } (.ref a) "set":=⟨u,S _ _ T,hx.1⟩
 have J:=S _ _ n;refine À (Ĉ ?_);unfold Builtin.List.listLengthHint;refine À (aaT R F.slot_set_len.lookup ?_);dsimp only;rw[split_len];dsimp only;refine À (abo R sub_set_self ?_);rw[ì (by decide)];refine Il (by decide +kernel) ?_;refine À (aaE R ?_);dsimp only;refine Ã ?_;refine Il (by decide +kernel) ?_
 ··refine À (ś ?_)
   refine À ?_;show Û _ A.in1 (updateSeq s.heap.objs.size (·.push .none) >>= λ_=>updateSeq s.heap.objs.size (·.pop)) _ _ _;refine À (wpAny_updateSeq J rfl ?_);have H:=Ĝ (Œ (·.push Value.none)) J rfl;refine wpAny_updateSeq H rfl ?_;have Yv:=Ĝ (Œ (·.pop)) H rfl;have G:s.heap.objs.size∉g:=λhm=>by
    rcases f _ hm with e|e
    ·exact š N e
    ·rw[M] at e;exact Nat.not_succ_le_self _ e
   have D:∀b o,b≠s.heap.objs.size->h'.get? b=some o->((h'.update s.heap.objs.size (Œ (·.push Value.none))).update s.heap.objs.size (Œ (·.pop))).get? b=some o :=
    λb o X e=>(ż _ _ (Ź X)).trans ((ż _ _ (Ź X)).trans e)
   refine Ã ⟨aaQ F.plain_extend_loop _,codeAny_extend_loopS (W A.in1 (by simp[hh])) O _ G _ es.size 0 _ _ _ rfl (ē _) ((W A.in1 (by simp[hh])).frame 0 ({ Y with heap:=h',drawn:=d' }:Ä) _ Y.toks d (ab3 _) λb X o e=>D b o (λz=>G (z ▸ X)) e) Yv (ItemsOf.nil _) λC Z c m B y=>?_⟩
   show Û _ A (load s.heap.objs.size >>= _) _ _ C;refine À (wpAny_load B ?_);refine Ã ?_;have Yw:order.length=es.size:=by simpa using K.length_eq
   have Xt:Z.toList=order:=by
    apply χ;intro j;by_cases x:j<Z.size
    ·have e1:Z[j]?=some Z[j]:=by simp[x]
     rw[Ĥ,e1,y.2 j _ e1]
    ·rw[İ (by simpa using x),İ (by rw[Yw,<- y.1];omega)]
   obtain⟨h2,g2,v,t2,o2⟩:=C;have eg:g2=Y.gens:=m.gens;have ed:v=d':=m.drawn;have eo:o2=Y.os:=m.os;subst eg ed eo;have q:=hQ h2 v t2 Z.toList (Nat.le_of_lt (Ì B)) (λb o e=>m.heap b o (λX=>by
    simp only[Ô,ï,or_false] at X;have V:=Ì e
    rcases X with z|z
    ·rw[z] at V;exact ñ _ V
    ·rw[M] at L;rw[z] at V;exact ñ _ (Ç V (Nat.le_of_succ_le L))) (D b o (λz=>by
     have V:=Ì e;rw[z] at V;exact ñ _ V) (S b o (r b o e)))) (by rw[Xt];exact K)
   rw[<- U];exact q
end
section
variable {P:â} {w:Ą} {A:î} {E:Å->Ä->Prop} {s:Ä}
def N0 (hh:A.handled=none) (hu:s.heap.get? a=some u) (hx:u.ExactSet) (hd:u.data=.set es ep t) (hf:t.fits es.size=true) (ht:iq (eR w) t) (C3:ElemsOf (ŗ P w) es.toList) (h64:es.size<64)
 (h:∀(h':Ī) (d':Drawn) (tk:Nat) (p:Ú) (vs:List Å) (ns:List Int) (out:List Å) (ms:List Int) (e:Nat),(∀b o,s.heap.get? b=some o->h'.get? b=some o)->s.heap.objs.size<=p->vs.Perm (es.toList.map (·.2))->aa3 vs ns->h'.get? p=some { cls:=.type "list",data:=.seq out.toArray e }->aa3 out ms->ms.Perm ns->ms.Pairwise (·<=·)->Q (.ref p) { s with heap:=h',drawn:=d',toks:=tk }) :
  Û (ã P w) A (call (.builtin "sorted") [.ref a]) Q E s:=by
 refine Calls.call_function_entry kind_sorted plain_sorted entry_sorted (args_sorted1 _) ?_;unfold ū.«sorted»;refine À (m:=checkCount "sorted" 1 1 _) (Ã ?_);refine À (Nm (by simp[hh]) hu hx hd hf ht (by unfold aai;omega) λh' d' tk vs U T Z=>?_);obtain⟨ns,X⟩:=ints_of C3 Z;have S:vs.length<64:=by have:=Z.length_eq;simp at this;omega
 refine À (wpAny_newList ?_);have Y:(h'.push (abK "list" vs.toArray 0)).get? h'.objs.size=some (abK "list" vs.toArray 0):=Í _ rfl;refine À (Ĉ (Ċ slot_list_sort ⟨_,Y,rfl⟩ entry_list_sort (list_sort_tree Y X S λout ms a1 a2 R=>⟨_,rfl,?_⟩) (args_list_sort _)));obtain⟨e,O⟩:=sortedHeap_at (out:=out) Y;refine Ã ⟨_,rfl,h _ d' tk h'.objs.size vs ns out.toList ms e (λb o N=>?_) ?_ Z X (by simpa [abK] using O) a1 a2 R⟩
 ·have W:=T b o N
  have V:=Ì W;rw[sortedHeap_old (ß V) (by rw[size_push'];exact Ģ V)];exact Á _ W
 ·exact U
end
end TS
namespace L2
open PySem PySem.Spec PyProof.Rows
def kR (P:â) (w:Ą) (p:Ú) (ns:List Int):Ī->Prop:=λh=>∃(S:Int->Bool) (n:Nat),TS.gg P w (TS.eR w) h p S n/\(∀k,S k=true↔k∈ns)/\n<=ns.length/\n=(ns.foldl step_dedup []).length
section
variable {X:Cx}
def su (l:List Int) (k:Int):(l.any (·==k))=true↔k∈l:=by
 rw[ŝ];exact⟨λ⟨x,Z,Y⟩=>by rw[<- beq_iff_eq.mp Y];exact Z,λh=>⟨k,h,by simp⟩⟩
def R6 (hm:m=ns.length) (hS:TS.gg X.prog X.w (TS.eR X.w) h p (λk'=>(ō (λi=>ns.getD i 0) m).any (·==k')) (ō (λi=>ns.getD i 0) m).length):kR X.prog X.w p ns h:=by
 subst hm;refine⟨_,_,hS,λk=>?_,firstMet_length_le _ _,?_⟩
 ·rw[firstMet_any,map_getD]
  exact su ns k
 ·unfold ō
  rw[map_getD]
def R7 (hx:kR X.prog X.w p ns h):di X.prog X.w (upd H p (.ext (kR X.prog X.w p ns))) h p (.ext (kR X.prog X.w p ns)):=by
 refine⟨hx,?_,λY W q k=>?_⟩
 ·obtain⟨_,_,⟨o,_,_,_,Z,_⟩,_⟩:=hx
  exact⟨o,Z⟩
 ·obtain⟨S,n,T,r⟩:=q
  exact⟨S,n,T.at k,r⟩
def N1 (hc:X.calm=true):bY X (.type "set") (λxs H Q=>∃(a:Ú) (ns:List Int),xs=[.ref a]/\aZ X.K H a (ns.map V.int)/\(ns.foldl step_dedup []).length<4000/\∀p,H p=none->Q (.ref p) (upd H p (.ext (kR X.prog X.w p ns)))):=by
 intro P s σ H xs O Q I r h;obtain⟨a,ns,rfl,W,N,q⟩:=h;obtain⟨u,rfl,U⟩:=vals1 r;cases U;obtain⟨its,Z,p,_⟩:=I.list W;have Y:its.toArray.size=ns.length:=by
  have e:=Z.length;rw[É] at e;simpa using e.symm
 refine TS.NY (its:=its.toArray) (ns:=ns) (I.ok.hd hc) p.isList (by simpa using intsAre_of Z) (by rw[Y];unfold ō;rw[map_getD];show _ + 1<4096;omega) λM T S R=>?_;exact⟨.ref _,_,I.laid (t':=T) (λb o e=>R b o (Ì e) e) (ab3 _) (R7 (R6 Y S)),rfl,q _ (I.aC.fresh (ab3 _))⟩
theorem E6:∀{out:List Å} {ms:List Int},aa3 out ms->Vals (ms.map V.int) out
 |_,_,.nil=>.nil
 |_,_,.cons n t h=>.cons ⟨t,rfl⟩ (E6 h)
theorem yW:∀(ns acc:List Int),acc.Nodup->(ns.foldl step_dedup acc).Nodup
 | [],acc,h=>h
 |n::ns,acc,h=>by
  refine yW ns _ ?_;unfold step_dedup;split
  ·exact h
  ·rename_i Z
   rw[ű] at Z;refine aa9.mpr ⟨h,by simp,λa Y b X=>?_⟩;have:b=n:=by simpa using X
   subst this;intro e;subst e;rw[(su acc a).mpr Y] at Z;cases Z
theorem GA:∀{vs:List Å} {ns:List Int},aa3 vs ns->∀k,k∈ns↔∃t,abw k t∈vs
 |_,_,.nil,k=>by simp
 |_,_,.cons n t h,k=>by
  rw[Ô,GA h k];constructor
  ·rintro (e | ⟨Z,h'⟩)
   ·subst e;exact⟨t,Ø⟩
   ·exact⟨Z,Ï _ h'⟩
  ·rintro ⟨Z,h'⟩
   rcases Ô.mp h' with e|h'
   ·injection e with e _;exact .inl e
   ·exact .inr ⟨Z,h'⟩
theorem sub_len:∀{m l:List Int},m.Nodup->(∀k,k∈m->k∈l)->m.length<=l.length
 | [],l,_,_=>ē _
 |x::m,l,h,Z=>by
  obtain⟨W,V⟩:=ε.mp h;have Y:=Z x Ø;have ih:=sub_len (m:=m) (l:=l.erase x) V λk X=>(List.mem_erase_of_ne (λ(e:k=x)=>W (by rw[<- e];exact X))).mpr (Z k (Ï _ X));rw[List.length_erase_of_mem Y] at ih;have:=List.length_pos_of_mem Y;rw[õ];omega
theorem E7:∀{l m:List Int},m.Nodup->(∀k,k∈m↔k∈l)->l.length<=m.length->l.Nodup
 | [],m,_,_,_=>List.nodup_nil
 |a::r,m,Z,Y,X=>by
  have W:a∉r:=λh=>by
   have:=sub_len Z λk V=>(Ô.mp ((Y k).mp V)).elim (λe=>e ▸ h) id;rw[õ] at X;omega
  have U:a∈m:=(Y a).mpr Ø;refine ε.mpr ⟨W,E7 (m:=m.erase a) (Z.erase a) (λk=>?_) ?_⟩
  ·rw[Z.mem_erase_iff,Y k,Ô]
   constructor
   ·rintro ⟨T,h2|h2⟩
    ·exact absurd h2 T
    ·exact h2
   ·intro h
    exact⟨λe=>W (e ▸ h),.inr h⟩
  ·rw[List.length_erase_of_mem U]
   rw[õ] at X;omega
def F9 (ns:List Int) (k:Int):k∈ns.foldl step_dedup []↔k∈ns:=by
 have:=firstMet_any (λi=>ns.getD i 0) ns.length k;unfold ō at this;rw[map_getD] at this;rw[<- su,<- su,this]
def MO (hc:X.calm=true):bY X (.builtin "sorted") (λxs H Q=>∃(p:Ú) (ns:List Int),xs=[.ref p]/\H p=some (.ext (kR X.prog X.w p ns))/\(ns.foldl step_dedup []).length<64 /\
  ∀(l:Ú) (ms:List Int),H l=none->ms.Pairwise (· < ·)->(∀k,k∈ms↔k∈ns)->Q (.ref l) (upd H l (.lst (ms.map V.int)))):=by
 intro π s σ H xs us Q I r h;obtain⟨p,ns,rfl,K,hl,q⟩:=h;obtain⟨v,rfl,G⟩:=vals1 r;cases G;obtain⟨⟨S,n,⟨u,es,ep,t,F,E,hd,D,C,P,B,A,z⟩,y,C4,m⟩,_⟩:=I.aC p _ K;refine TS.N0 (I.ok.hd hc) F E hd B z D (by omega) λj g O l vs ks out ms e f N Y W d c U k8=>?_;have M:∀k,k∈ms↔k∈ns:=λk=>by
  rw[U.mem_iff,GA W k,<- y k,C k];constructor
  ·rintro ⟨t',C6⟩
   obtain⟨x,T,Z⟩:=ć.mp (Y.mem_iff.mp C6);exact⟨x,T,by rw[Z];exact intKind_is _ _ _ _⟩
  ·rintro ⟨x,T,Z⟩
   obtain⟨i,t',L⟩:∃i t',x.2=.int i t':=by
    cases hv:x.2 with
    |int i t'=>exact⟨i,t',rfl⟩
    |_=>rw[hv] at Z;simp[ŗ,Value.isInt] at Z
   have pK:k=i:=(ŗ X.prog X.w).inj (.int i t') k i (by rw[<- L];exact Z) (intKind_is _ _ _ _);subst pK;exact⟨t',Y.mem_iff.mpr (ć.mpr ⟨x,T,L⟩)⟩
 have Xv:ms.Nodup:=by
  have Ll:=yW ns [] List.nodup_nil;refine E7 Ll (λk=>?_) ?_
  ·rw[M k,F9]
  ·rw[<- m,<- A]
   have e1:=U.length_eq;have e2:=W.length;have R:=Y.length_eq;simp at R;omega
 have aR:ms.Pairwise (· < ·):=by
  have:=List.pairwise_and_iff.mpr ⟨k8,Xv⟩;exact this.imp λ⟨a,b⟩=>by omega
 have J:=I.laid (t':=O) (a:=l) (o:=.lst (ms.map V.int)) f N ⟨by
  rw[É,ŕ];have e1:=U.length_eq;have e2:=W.length;have R:=Y.length_eq;simp at R;omega,out,e,E6 c,d⟩
 exact⟨.ref l,_,J.sX (s':={ s with heap:=j,drawn:=g,toks:=O }) (ch:=[]) rfl Un.refl J.aC J.bare (λb P=>by cases P),rfl,q l ms (I.aC.fresh N) aR M⟩
end
section
variable {X:Cx}
end
mutual
noncomputable def yp:aaG->Bool
 | .tuple Z=>xE Z
 | .list _=>false
 |_=>true
noncomputable def xE:List aaG->Bool
 | []=>true
 |d::Z=>yp d&&xE Z
end
section
variable {X:Cx} {π:List (Ú×Obj)} {σ:St} {H:Hp} {s:Ä} {Z:Ú->Prop}
mutual
theorem DV.sG (I:Inv X π σ H s):∀{d:aaG} {v:V} {u:Å},DV X.K Z H d v->RelV v u->yp d=true->∃as,Reads s.heap u d as/\abu∉as
 | .none,v,u,h,r,_=>by
  have e:v=.ao:=h;subst e;cases r;exact⟨[],.none,by simp⟩
 | .bool b,v,u,h,r,_=>by
  have e:v=.bl b:=h;subst e;cases r;exact⟨[],.bool b,by simp⟩
 | .int i,v,u,h,r,_=>by
  have e:v=.int i:=h;subst e;obtain⟨t,rfl⟩:=r;exact⟨[],.int i t,by simp⟩
 | .str x,v,u,h,r,_=>by
  have e:v=.str x:=h;subst e;obtain⟨t,rfl⟩:=r;exact⟨[],.str x t,by simp⟩
 | .tuple U,v,u,h,r,Y=>by
  simp only[DV] at h;obtain⟨a,G,e,W,T⟩:=h;subst e;cases r;obtain⟨its,S,⟨o,e,c,n,R⟩,_⟩:=I.tuple W;obtain⟨as,Q,hs⟩:=ak.sG I T S (by simpa only [yp] using Y);exact⟨as,.tuple e c R (by simpa using Q),hs⟩
 | .list U,v,u,h,r,Y=>by
  simp only[yp] at Y;cases Y
 | .dict F,v,u,h,r,_=>by
  simp only[DV] at h;obtain⟨a,E,e,_,W,l,e1,e2⟩:=h;subst e e1 e2;cases r;obtain⟨_,P,D,O,o,C,B,g1,g2,g3,_,N,_⟩:=(show di X.prog X.w H s.heap a (.dK _) from I.aC a _ W);obtain⟨M,L⟩:=yV (h:=s.heap) O N;refine⟨a::[]++[],.dict g1 g2.1 g3 M L,λJ=>?_⟩;have e:abu=a:=by simpa using J
  subst e;simp at P
theorem ak.sG (I:Inv X π σ H s):∀{ds:List aaG} {vs:List V} {us:List Å},ak X.K Z H ds vs->Vals vs us->xE ds=true->∃as,ReadsAll s.heap us ds as/\abu∉as
 | [],vs,us,h,r,_=>by
  have e:vs=[]:=h;subst e;cases r;exact⟨[],.nil,by simp⟩
 |d::ds,vs,us,h,r,Y=>by
  obtain⟨v,O,e,W,U⟩:=h;subst e;simp only[xE,Æ] at Y
  cases r with
  |cons T S =>
   obtain⟨as,a1,R⟩:=DV.sG I W T Y.1;obtain⟨bs,a2,Q⟩:=ak.sG I U S Y.2;refine⟨as++bs,.cons a1 a2,λP=>?_⟩
   rcases ċ.mp P with z|z
   ·exact R z
   ·exact Q z
end
end
section
variable {X:Cx}
end
end L2
namespace HZ
open PySem PySem.Spec PyProof.Rows
open AutoSeq1 (wpAny_loadPart')
section
variable {P:â} {w:Ą} {A:î} {E:Å->Ä->Prop} {s:Ä}
end
end HZ
namespace L2
open PySem PySem.Spec PyProof.Rows
section
variable {X:Cx} {elts:List Ġ} {kk:Nat} {tp:Pos}
end
section
variable {K:Ē} {caps:St} {H:Hp} {tf:TT} {te:TE} {Q:VK}
end
end L2
namespace HZ
open PySem PySem.Spec PyProof.Rows
def Mb:fillsNumberSlot (.type "tuple") "mul"=pure false:=by
 first|rfl | (unfold fillsNumberSlot;kernel_rfl)|kernel_rfl
def MP:seqRepeat? (.type "tuple")=pure (some (.builtin "tuple.__mul__")):=by
 first|rfl|kernel_rfl
def N2 (a:Int) (t:Tok) (l:Ú) (items:Array Å) (n:Nat) (d:Option Ú) (sl:Array (Option Å)) :
  Meets (ū.«int.__rmul__» ⟨[.int a t,.ref l],[]⟩) (λ_ R s=>s.heap.get? l=some { cls:=.type "tuple",dict:=d,data:=.seq items n,slots:=sl }/\R (.ok (.ret Value.notImplemented)) s) :=
 .of_wp λprog w A R s h=>by
  obtain⟨Z,Y,X,W,V⟩:=s;obtain⟨U,h⟩:=h;wp_walk;exact⟨_,rfl,h⟩
section
variable {P:â} {w:Ą} {A:î} {E:Å->Ä->Prop} {s:Ä}
def R8 (ht:IsTup s.heap t vs.toArray) (hv:vs≠[]) (hk:1<=k) (hz:vs.length*k.toNat<=Ñ)
 (h1:k=1->Q (.ref t) s) (h2:k≠1->Q (.ref s.heap.objs.size) { s with heap:=s.heap.push { cls:=.type "tuple",data:=.seq (Ò k.toNat vs).flatten.toArray } }) :
  Û (ã P w) A (ń .Mult (.ref t) (.int k tk)) Q E s:=by
 obtain⟨⟨cls,V,data,S⟩,Z,Y,n,X⟩:=id ht;simp only at Y X;subst Y X;have K:k<=16777216:=by
  have R:1<=vs.length:=by
   cases vs with
   |nil=>exact absurd rfl hv
   |cons a r=>simp
  have J:vs.length*k.toNat<=16777216:=by rw[<- ŕ];exact hz
  have:1*k.toNat<=vs.length*k.toNat:=Nat.mul_le_mul_right _ R;omega
 refine wpAny_binaryOp_repeat_ref (T:="tuple") (U:="int") (by decide) ⟨_,Z,rfl⟩ (λO=>typeIs_int O k tk) Mb F.fills_int_mul abz MP F.slot_int_index.lookup
  (ŷ abz (typeIs_int s k tk) F.entry_int_rmul (F.args_int_rmul_2 _ _) (N2 k tk t vs.toArray n V S) ⟨Z,rfl,⟨_,Z,rfl⟩,?_⟩)
 refine Ċ F.slot_tuple_mul ⟨_,Z,rfl⟩ F.entry_tuple_mul ?_ (F.args_tuple_mul_2 _ _);show Û _ _ (asIndex (.int k tk) >>= _) _ _ _;refine À ?_
 refine wpAny_of_eq (a:=k) (by first|rfl | (unfold asIndex;rfl)) ?_
 dsimp only;rw[ì (by simp;omega)];unfold Ř;refine À (À (ī Z rfl ?_));refine Ã ?_;have ne:vs.toArray.isEmpty=false:=by
  cases vs with
  |nil=>exact absurd rfl hv
  |cons a r=>simp
 by_cases h:k=1
 ·rw[Þ (by rw[h];simp)]
  unfold aaa;refine À (À (aaE (T:="tuple") ⟨_,Z,rfl⟩ (Ã ?_)));rw[Þ (by decide)];exact À (ś (Ã ⟨_,rfl,h1 h⟩))
 ·rw[ì (by rw[ne];simp[h])]
  rw[ì (by rw[ne];simp;omega)];have W:(vs.toArray.size:Int)*k=((vs.length*k.toNat:Nat):Int):=by
   rw[Ù,Int.natCast_mul];congr 1;omega
  have N:vs.length*k.toNat<=16777216:=by rw[<- ŕ];exact hz
  rw[ì (by rw[W];omega)];rw[ì (by
   unfold Builtin.Tuple.tupleTooMany;rw[W,ŕ,Ê];generalize vs.length*k.toNat=q at N;omega)]
  unfold ģ;have e:List.foldl (λM L=>M++L) #[] (Ò k.toNat vs.toArray)=(Ò k.toNat vs).flatten.toArray:=by
   have:=L2.foldl_rep vs k.toNat [];rw[Ķ] at this;exact this
  rw[e];refine À (ù ?_ (by
   show (abj _).size<=Ñ;rw[Ù,L2.len_rep,Nat.mul_comm];exact hz))
  exact Ã ⟨_,rfl,h2 h⟩
end
end HZ
namespace L2
open PySem PySem.Spec PyProof.Rows
section
variable {X:Cx}
def VX (K:Ē):R2:=λx y H Q=>∃a Z k,x=.ref a/\y=.int k/\bp K H a Z/\Z≠[]/\1<=k/\Z.length*k.toNat<=Ñ/\nr K H (Ò k.toNat Z).flatten Q
def R9:bt X (ń .Mult) (VX X.K):=by
 intro P s σ H x y v u Q I V U h;obtain⟨a,Z,k,rfl,rfl,hs,T,S,W,q⟩:=h;cases V;obtain⟨t,rfl⟩:=U;obtain⟨its,r,p,z⟩:=I.tuple hs;have Y:=r.length;refine HZ.R8 p (λe=>T (by rw[e] at Y;exact aaS.mp Y)) S (by rw[<- Y];exact W) (λe=>?_) (λ_=>?_)
 ·have e1:(Ò k.toNat Z).flatten=Z:=by rw[e];simp
  rw[e1] at q;exact⟨.ref a,H,I,rfl,q.here hs⟩
 ·have R:(Ò k.toNat Z).flatten.length<=Ñ:=by rw[len_rep,Nat.mul_comm];exact W
  exact⟨.ref _,_,I.laid (t':=s.toks) (o:=.tup (Ò k.toNat Z).flatten) (λb o e=>Á _ e) (ab3 _) ⟨R,_,r.rep k.toNat,⟨_,Í _ rfl,rfl,_,rfl⟩⟩,rfl,q.new (I.aC.fresh (ab3 _))⟩
end
end L2
namespace HZ
open PySem PySem.Spec PyProof.Rows
section
variable {P:â} {w:Ą} {A:î} {E:Å->Ä->Prop} {s:Ä}
end
end HZ
namespace L2
open PySem PySem.Spec PyProof.Rows
section
variable {X:Cx} {tg:Ġ}
def Nn:bY X (.type "range") (λxs H Q=>∃j:Int,xs=[.int j]/\∀p,H p=none->Q (.ref p) (upd H p (.cj 0 j))):=by
 intro Y s σ H xs W Q I r h;obtain⟨j,rfl,q⟩:=h;obtain⟨u,rfl,Z⟩:=vals1 r;obtain⟨t,rfl⟩:=Z;exact call_range_1 ⟨.ref _,_,I.laid (o:=.cj 0 j) (t':=s.toks+1+1) (λb o e=>Á _ e) (ab3 _) ⟨_,_,_,Í _ rfl⟩,rfl,q _ (I.aC.fresh (ab3 _))⟩
end
end L2
namespace HZ
open PySem PySem.Spec PyProof.Rows
section
variable {P:â} {w:Ą} {A:î} {R:Result->Ä->Prop} {I:Ú} {fp wr:List Ú} {n:Nat} {Pv:Nat->Å->Prop} {St:Nat->Ī->Prop} {kw:List (Str×Å)}
end
section
variable {P:â} {w:Ą} {A:î} {E:Å->Ä->Prop} {s:Ä}
end
end HZ
namespace L2
open PySem PySem.Spec PyProof.Rows
section
variable {X:Cx} {p pos kp:Pos} {e d:Ġ} {ta tk:TA}
end
end L2
namespace DI
open PySem L2
set_option genInjectivity true in
inductive D where
 |ao|bl (b:Bool)|int (i:Int)|str (x:Str)|tup (ds:List D)|lst (ds:List D)|bK (aB:List (Key×Int))|az (k:Nat)|ty (n:String)|bJ (ns:List Int)|exc (c:Str) (m:Option Int)|cA (a:Ú) (vs:List V) (ds:List D)
set_option genInjectivity true in
inductive Cell where
 |dead|lst (ds:List D)|dK (aB:List (Key×D))|dT (aB:List (D×Int))|tb (x:Str)|ins (c:Str) (fs:List (Str×D))
noncomputable abbrev aa:=List Cell
noncomputable abbrev Env:=List (Option D)
structure aT where
 c:Str
 many:Option Int
abbrev Res (α:Type):=Option (Except aT α×aa)
abbrev abZ (α:Type):=Env->aa->Res α
abbrev ok {α:Type} (a:α) (s:aa):Res α:=some (.ok a,s)
def aj {α β:Type} (r:Res α) (k:α->aa->Res β):Res β:=match r with
 |some (.ok a,s)=>k a s
 |some (.error x,s)=>some (.error x,s)
 |none=>none
@[simp] theorem dH {α β:Type} {a:α} {s:aa} {k:α->aa->Res β}:aj (some (.ok a,s)) k=k a s:=rfl
structure Wd where
 ρ:List Ú
 aw:aa
 H:Hp
def Wd.Z (w:Wd) (a:Ú):Prop:=∃(k:Nat) (c:Cell),w.ρ[k]?=some a/\w.aw[k]?=some c/\c≠.dead
def LstAt (w:Wd) (a:Ú) (xs:List V):Prop:=¬ w.Z a/\w.H a=some (.lst xs)
def LstAt.sq (h:LstAt w a xs):aZ K w.H a xs:=aZ.of h.2
def sZ (K:Ē) (w:Wd) (a:Ú) (xs:List V):Prop:=(¬ w.Z a/\Rd w.H a (.lst xs)) \/
 ∃(o:Obj) (its:Array Å) (n:Nat),K.lookup a=some o/\o.cls=.type "list"/\o.dict=none/\o.data=.seq its n/\its.size<=Ñ/\Vals xs its.toList
def sZ.sq (h:sZ K w a xs):aZ K w.H a xs:=by
 rcases h with ⟨_,h⟩|h
 ·exact .inl h
 ·exact .inr h
mutual
def DV (K:Ē) (w:Wd):D->V->Prop
 | .ao,v=>v=.ao
 | .bl b,v=>v=.bl b
 | .int i,v=>v=.int i
 | .str x,v=>v=.str x
 | .tup Y,v=>∃a X,v=.ref a/\bp K w.H a X/\ak K w Y X
 | .lst Y,v=>∃a X,v=.ref a/\LstAt w a X/\ak K w Y X
 | .bK S,v=>∃a,v=.ref a/\¬ w.Z a/\w.H a=some (.dK (S.map λp=>(p.1,V.int p.2)))
 | .az k,v=>∃a,w.ρ[k]?=some a/\v=.ref a
 | .ty n,v=>v=.ty n
 | .bJ R,v=>∃a,v=.ref a/\sZ K w a (R.map V.int)
 | .exc c m,v=>∃a o C,v=.ref a/\(¬ w.Z a/\w.H a=some (.aV o (.own a)))/\(o.cls=.ref C/\è K Ö c=some (some (.ref C)))/\∀i,m=some i->PySem.W.notCls o=true/\∃U T t,o.dict=some U/\(¬ w.Z U/\w.H U=some (.aV T (.own U)))/\PySem.W.lookIn "many" T=some (some (.int i t))
 | .cA a Q Y,v=>v=.ref a/\ak K w Y Q
def ak (K:Ē) (w:Wd):List D->List V->Prop
 | [],Z=>Z=[]
 |d::Y,Z=>∃v r,Z=v::r/\DV K w d v/\ak K w Y r
end
structure Fw (K:Ē) (w w':Wd):Prop where
 C7:∀(k:Nat) a,w.ρ[k]?=some a->w'.ρ[k]?=some a
 tup:∀a xs,bp K w.H a xs->bp K w'.H a xs
 lst:∀a xs,¬ w.Z a->w.H a=some (.lst xs)->¬ w'.Z a/\w'.H a=some (.lst xs)
 aV:∀a o u,¬ w.Z a->w.H a=some (.aV o u)->¬ w'.Z a/\w'.H a=some (.aV o u)
 bK:∀a es,¬ w.Z a->w.H a=some (.dK es)->¬ w'.Z a/\w'.H a=some (.dK es)
def Fw.Jo (S:Fw K w w') (h:LstAt w a xs):LstAt w' a xs:=S.lst a xs h.1 h.2
def Fw.VY (S:Fw K w w') (h:sZ K w a xs):sZ K w' a xs:=by
 rcases h with ⟨Y,Z | ⟨o,Z⟩⟩|h
 ·have q:=S.lst a xs Y Z
  exact .inl ⟨q.1,.inl q.2⟩
 ·have q:=S.aV a o _ Y Z
  exact .inl ⟨q.1,.inr ⟨o,q.2⟩⟩
 ·exact .inr h
mutual
theorem DV.fw (S:Fw K w w'):∀{d:D} {v:V},DV K w d v->DV K w' d v
 | .ao,_,h=>h
 | .bl _,_,h=>h
 | .int _,_,h=>h
 | .str _,_,h=>h
 | .tup X,v,h=>by
  simp only[DV] at h |-;obtain⟨a,Y,e,Z,r⟩:=h;exact⟨a,Y,e,S.tup a Y Z,ak.fw S r⟩
 | .lst X,v,h=>by
  simp only[DV] at h |-;obtain⟨a,Y,e,Z,r⟩:=h;exact⟨a,Y,e,S.Jo Z,ak.fw S r⟩
 | .bK L,v,h=>by
  simp only[DV] at h |-;obtain⟨a,e,R,Z⟩:=h;obtain⟨Q,P⟩:=S.bK a _ R Z;exact⟨a,e,Q,P⟩
 | .az k,v,h=>by
  simp only[DV] at h |-;obtain⟨a,e,e2⟩:=h;exact⟨a,S.C7 k a e,e2⟩
 | .ty _,_,h=>h
 | .bJ J,v,h=>by
  simp only[DV] at h |-;obtain⟨a,e,Z⟩:=h;exact⟨a,e,S.VY Z⟩
 | .exc c m,v,h=>by
  simp only[DV] at h |-;obtain⟨a,o,C,e,Z,r,k⟩:=h;refine⟨a,o,C,e,S.aV a o _ Z.1 Z.2,r,λi hi=>?_⟩;obtain⟨O,W,U,t,N,T,M⟩:=k i hi;exact⟨O,W,U,t,N,S.aV W U _ T.1 T.2,M⟩
 | .cA a I X,v,h=>by
  simp only[DV] at h |-;exact⟨h.1,ak.fw S h.2⟩
theorem ak.fw (S:Fw K w w'):∀{ds:List D} {vs:List V},ak K w ds vs->ak K w' ds vs
 | [],_,h=>h
 |d::ds,vs,h=>by
  simp only[ak] at h |-;obtain⟨v,r,e,Z,Y⟩:=h;exact⟨v,r,e,DV.fw S Z,ak.fw S Y⟩
end
structure Le (K:Ē) (w w':Wd):Prop where
 dv:∀d v,DV K w d v->DV K w' d v
 lst:∀a xs,LstAt w a xs->LstAt w' a xs
 tup:∀a xs,bp K w.H a xs->bp K w'.H a xs
 aV:∀a o u,¬ w.Z a->w.H a=some (.aV o u)->¬ w'.Z a/\w'.H a=some (.aV o u)
noncomputable instance {K:Ē} {w w':Wd}:CoeFun (Le K w w') (λ_=>∀d v,DV K w d v->DV K w' d v):=⟨Le.dv⟩
def Le.refl (w:Wd):Le K w w:=⟨λ_ _ h=>h,λ_ _ h=>h,λ_ _ h=>h,λ_ _ _ h g=>⟨h,g⟩⟩
def Le.trans (h:Le K a b) (g:Le K b c):Le K a c:=⟨λd v x=>g.dv d v (h.dv d v x),λp Z x=>g.lst p Z (h.lst p Z x),λp Z x=>g.tup p Z (h.tup p Z x),λp o u z x=>let q:=h.aV p o u z x;g.aV p o u q.1 q.2⟩
def Fw.le (S:Fw K w w'):Le K w w':=⟨λ_ _ h=>h.fw S,λ_ _ h=>S.Jo h,S.tup,S.aV⟩
theorem Le.all (h:Le K w w'):∀{ds:List D} {vs:List V},ak K w ds vs->ak K w' ds vs
 | [],_,x=>x
 |d::ds,vs,x=>by
  simp only[ak] at x |-;obtain⟨v,r,e,Z,Y⟩:=x;exact⟨v,r,e,h d v Z,Le.all h Y⟩
theorem ak.length:∀{ds:List D} {vs:List V},ak K w ds vs->ds.length=vs.length
 | [],vs,h=>by
  have e:vs=[]:=h;subst e;rfl
 |d::ds,vs,h=>by
  obtain⟨v,r,e,_,Z⟩:=h;subst e;simp[ak.length Z]
theorem ak.get:∀{ds:List D} {vs:List V},ak K w ds vs->∀(i:Nat) v,vs[i]?=some v->∃d,ds[i]?=some d/\DV K w d v
 | [],vs,h,i,v,e=>by
  have Z:vs=[]:=h;subst Z;simp at e
 |d::ds,vs,h,i,v,e=>by
  obtain⟨u,r,Z,Y,X⟩:=h;subst Z
  cases i with
  |zero =>
   have:u=v:=by simpa using e
   subst this;exact⟨d,rfl,Y⟩
  |succ i=>exact ak.get X i v (by simpa using e)
theorem ak.get':∀{ds:List D} {vs:List V},ak K w ds vs->∀(i:Nat) d,ds[i]?=some d->∃v,vs[i]?=some v/\DV K w d v
 | [],vs,h,i,d,e=>by simp at e
 |d::ds,vs,h,i,Z,e=>by
  obtain⟨u,r,Y,X,W⟩:=h;subst Y
  cases i with
  |zero =>
   have:d=Z:=by simpa using e
   subst this;exact⟨u,rfl,X⟩
  |succ i=>exact ak.get' W i Z (by simpa using e)
theorem ak.append:∀{ds es:List D} {vs ws:List V},ak K w ds vs->ak K w es ws->ak K w (ds++es) (vs++ws)
 | [],es,vs,ws,h,Z=>by
  have e:vs=[]:=h;subst e;exact Z
 |d::ds,es,vs,ws,h,Z=>by
  obtain⟨v,r,e,Y,X⟩:=h;subst e;exact⟨v,r++ws,rfl,Y,ak.append X Z⟩
theorem ak.take:∀{ds:List D} {vs:List V} (n:Nat),ak K w ds vs->ak K w (ds.take n) (vs.take n)
 | [],vs,n,h=>by
  have e:vs=[]:=h;subst e;simp[ak]
 |d::ds,vs,0,h=>by simp[ak]
 |d::ds,vs,n+1,h=>by
  obtain⟨v,r,e,Z,Y⟩:=h;subst e;exact⟨v,r.take n,rfl,Z,ak.take n Y⟩
theorem ak.drop:∀{ds:List D} {vs:List V} (n:Nat),ak K w ds vs->ak K w (ds.drop n) (vs.drop n)
 | [],vs,n,h=>by
  have e:vs=[]:=h;subst e;simp[ak]
 |d::ds,vs,0,h=>h
 |d::ds,vs,n+1,h=>by
  obtain⟨v,r,e,Y,Z⟩:=h;subst e;exact ak.drop n Z
theorem ak.reverse:∀{ds:List D} {vs:List V},ak K w ds vs->ak K w ds.reverse vs.reverse
 | [],vs,h=>by
  have e:vs=[]:=h;subst e;simp[ak]
 |d::ds,vs,h=>by
  obtain⟨v,r,e,Z,Y⟩:=h;subst e;rw[List.reverse_cons,List.reverse_cons];exact ak.append (ak.reverse Y) ⟨v,[],rfl,Z,rfl⟩
theorem ak.set (hd:DV K w d v):∀{ds:List D} {vs:List V} (i:Nat),ak K w ds vs->ak K w (ds.set i d) (vs.set i v)
 | [],vs,i,h=>by
  have e:vs=[]:=h;subst e;simp[ak]
 |d'::ds,vs,0,h=>by
  obtain⟨u,r,e,Y,Z⟩:=h;subst e;exact⟨v,r,rfl,hd,Z⟩
 |d'::ds,vs,i+1,h=>by
  obtain⟨u,r,e,Y,Z⟩:=h;subst e;exact⟨u,r.set i v,rfl,Y,ak.set hd i Z⟩
def ak.one (h:DV K w d v):ak K w [d] [v]:=⟨v,[],rfl,h,rfl⟩
def ak.two (h:DV K w d v) (h':DV K w d' v'):ak K w [d,d'] [v,v']:=⟨v,_,rfl,h,ak.one h'⟩
theorem ak.ints:∀(ns:List Int),ak K w (ns.map D.int) (ns.map V.int)
 | []=>rfl
 |n::ns=>⟨.int n,_,rfl,rfl,ak.ints ns⟩
theorem ak.GB:∀{ns:List Int} {vs:List V},ak K w (ns.map D.int) vs->vs=ns.map V.int
 | [],_,h=>h
 |n::ns,vs,h=>by
  obtain⟨v,r,e,Z,Y⟩:=h;have e1:v=.int n:=Z;rw[e,e1,ak.GB Y];rfl
theorem ak.sv:∀{bs:List Bool} {vs:List V},ak K w (bs.map D.bl) vs->vs=bs.map V.bl
 | [],_,h=>h
 |n::X,vs,h=>by
  obtain⟨v,r,e,Z,Y⟩:=h;have e1:v=.bl n:=Z;rw[e,e1,ak.sv Y];rfl
def DX (a:Ú) (es:List (Int×Ú)) (h:Ī):Prop:=(a==abu)=false/\∃(o:Obj) (Z:Array DictEntry) (Y:Nat),h.get? a=some o/\o.ExactDict/\o.data=.dict Z Y/\Z.toList=es.map λp=>(⟨p.1,.ref p.2,.bool true⟩:DictEntry)
def VZ (w:Wd) (q:Str) (cv:Å):Prop:=∃Y X W t,cv=.ref Y/\(¬ w.Z Y/\w.H Y=some (.aV X (.own Y)))/\X.data=.fields W/\W[1]?=some (.str q t)
def Xx (K:Ē) (w:Wd) (a:Ú) (x:Str):Prop:=∃c Z,abW K x=some (c,a)/\w.H a=some (.dD Z)/\PySem.TriplesOk Z.toList/\∀pos Y,PySem.codeAmong pos Z.toList=some Y->VZ w (x++".<locals>."++"<lambda>") Y
def qz (K:Ē) (w:Wd) (a:Ú):Cell->Prop
 | .dead=>True
 | .lst U=>∃W,w.H a=some (.lst W)/\ak K w U W
 | .dK Z=>∃Y:List (Key×V),w.H a=some (.dK Y)/\Y.map (·.1)=Z.map (·.1)/\ak K w (Z.map (·.2)) (Y.map (·.2))
 | .dT Z=>∃as:List Ú,w.H a=some (.ext (DX a ((Z.map (·.2)).zip as)))/\ak K w (Z.map (·.1)) (as.map V.ref)/\(Z.map (·.1)).Nodup
 | .tb x=>Xx K w a x
 | .ins c fs=>∃(C T:Ú) (X:List (Str×V)),è K Ö c=some (some (.ref C))/\w.H a=some (.ins C T X)/\X.map (·.1)=fs.map (·.1)/\ak K w (fs.map (·.2)) (X.map (·.2))
structure aI (K:Ē) (w:Wd):Prop where
 len:w.ρ.length=w.aw.length
 nd:w.ρ.Nodup
 there:∀(k:Nat) a,w.ρ[k]?=some a->w.H a≠none
 cell:∀(k:Nat) a c,w.ρ[k]?=some a->w.aw[k]?=some c->qz K w a c
theorem qz.le (h:qz K w a c) (le:Le K w w') (e:c≠.dead->w'.H a=w.H a):qz K w' a c:=by
 cases c with
 |dead=>trivial
 |lst I =>
  obtain⟨R,Z,Y⟩:=h;exact⟨R,(e (by intro z;cases z)).trans Z,le.all Y⟩
 |dK Q =>
  obtain⟨P,Z,Y,X⟩:=h;exact⟨P,(e (by intro z;cases z)).trans Z,Y,le.all X⟩
 |dT Q =>
  obtain⟨as,Z,Y,X⟩:=h;exact⟨as,(e (by intro z;cases z)).trans Z,le.all Y,X⟩
 |tb x =>
  obtain⟨c,O,Z,Y,X,W⟩:=h
  exact⟨c,O,Z,(e (by intro z;cases z)).trans Y,X,λpos N q=>let ⟨U,T,V,t,M,S,L⟩:=W pos N q;⟨U,T,V,t,M,le.aV U T _ S.1 S.2,L⟩⟩
 |ins c fs =>
  obtain⟨C,J,V,Z,Y,X,W⟩:=h;exact⟨C,J,V,Z,(e (by intro z;cases z)).trans Y,X,le.all W⟩
section
variable {K:Ē} {w:Wd}
def Wd.grow (w:Wd) (p:Ú) (o:HO):Wd:={ w with H:=upd w.H p o }
def Rd.grow (hp:H p=none) (h:Rd H a u):Rd (upd H p o) a u:=by
 rcases h with h | ⟨Z,h⟩
 ·exact .inl (by rw[aX (cV h hp)];exact h)
 ·exact .inr ⟨Z,by rw[aX (cV h hp)];exact h⟩
theorem bp.grow (hp:H p=none) (h:bp K H a xs):bp K (upd H p o) a xs:=by
 rcases h with h|h
 ·exact .inl (Rd.grow hp h)
 ·exact .inr h
theorem Fw.grow (hp:w.H p=none):Fw K w (w.grow p o) where
 C7:=λ_ _ e=>e
 tup:=λa Y h=>bp.grow hp h
 lst:=λa Y Z h=>⟨Z,by show upd w.H p o a=_;rw[aX (cV h hp)];exact h⟩
 aV:=λa X Y Z h=>⟨Z,by show upd w.H p o a=_;rw[aX (cV h hp)];exact h⟩
 bK:=λa W Z h=>⟨Z,by show upd w.H p o a=_;rw[aX (cV h hp)];exact h⟩
theorem aI.grow (S:aI K w) (hp:w.H p=none):aI K (w.grow p o) where
 len:=S.len
 nd:=S.nd
 there:=λk a e=>by
  have h:=S.there k a e;show upd w.H p o a≠none;unfold upd;split
  ·intro z;cases z
  ·exact h
 cell:=λk a c e1 e2=>(S.cell k a c e1 e2).le (Fw.grow hp).le λ_=>by
  have h:=S.there k a e1;show upd w.H p o a=w.H a;rw[aX];intro z;rw[z] at h;exact h hp
def Wd.cell (w:Wd) (p:Ú) (o:HO) (c:Cell):Wd:=⟨w.ρ++[p],w.aw++[c],upd w.H p o⟩
def Wd.AE (S:aI K w) (h:(w.cell p o c).Z a):w.Z a\/a=p:=by
 obtain⟨k,Y,e1,e2,V⟩:=h;have e1:(w.ρ++[p])[k]?=some a:=e1;have e2:(w.aw++[c])[k]?=some Y:=e2;by_cases X:k<w.ρ.length
 ·rw[Ü X] at e1
  rw[Ü (by rw[<- S.len];exact X)] at e2;exact .inl ⟨k,Y,e1,e2,V⟩
 ·rw[Ă (by omega)] at e1
  right
  cases W:k-w.ρ.length with
  |zero=>rw[W] at e1;exact(ab4 e1).symm
  |succ j=>rw[W] at e1;cases e1
theorem Fw.cell (S:aI K w) (hp:w.H p=none):Fw K w (w.cell p o c) where
 C7:=λk a e=>by
  show (w.ρ++[p])[k]?=some a;rw[Ü (È.mp e).1];exact e
 tup:=λa Y h=>bp.grow hp h
 lst:=λa Y Z h=>⟨λz=>(Wd.AE S z).elim Z (λe=>by (subst e;rw[hp] at h;cases h)),by show upd w.H p o a=_;rw[aX (cV h hp)];exact h⟩
 aV:=λa X Y Z h=>⟨λz=>(Wd.AE S z).elim Z (λe=>by (subst e;rw[hp] at h;cases h)),by show upd w.H p o a=_;rw[aX (cV h hp)];exact h⟩
 bK:=λa W Z h=>⟨λz=>(Wd.AE S z).elim Z (λe=>by (subst e;rw[hp] at h;cases h)),by show upd w.H p o a=_;rw[aX (cV h hp)];exact h⟩
def aI.Jp (S:aI K w) (hp:w.H p=none) (hc:qz K (w.cell p o c) p c):aI K (w.cell p o c) where
 len:=by show (w.ρ++[p]).length=(w.aw++[c]).length;simp[S.len]
 nd:=by
  show (w.ρ++[p]).Nodup;rw[aa9];refine⟨S.nd,by simp,λa W b V=>?_⟩;obtain⟨k,e⟩:=List.getElem?_of_mem W;have h:=S.there k a e;have U:b=p:=by simpa using V
  rw[U];intro z;rw[z] at h;exact h hp
 there:=λk a e=>by
  have e:(w.ρ++[p])[k]?=some a:=e;show upd w.H p o a≠none;unfold upd;split
  ·intro z;cases z
  ·rename_i T
   by_cases Y:k<w.ρ.length
   ·rw[Ü Y] at e
    exact S.there k a e
   ·rw[Ă (by omega)] at e
    cases Z:k-w.ρ.length with
    |zero=>rw[Z] at e;exact absurd (ab4 e).symm T
    |succ j=>rw[Z] at e;cases e
 cell:=λk a X e1 e2=>by
  have e1:(w.ρ++[p])[k]?=some a:=e1;have e2:(w.aw++[c])[k]?=some X:=e2;by_cases Y:k<w.ρ.length
  ·rw[Ü Y] at e1
   rw[Ü (by rw[<- S.len];exact Y)] at e2;refine(S.cell k a X e1 e2).le (Fw.cell S hp).le λ_=>?_;have h:=S.there k a e1;show upd w.H p o a=w.H a;rw[aX];intro z;rw[z] at h;exact h hp
  ·rw[Ă (by omega)] at e1
   rw[Ă (by rw[<- S.len];omega)] at e2;rw[<- S.len] at e2
   cases Z:k-w.ρ.length with
   |zero =>
    rw[Z] at e1 e2;have e1:p=a:=ab4 e1;have e2:c=X:=ab4 e2;subst e1 e2;exact hc
   |succ j=>rw[Z] at e1;cases e1
def Wd.same (w:Wd) (H':Hp):Wd:={ w with H:=H' }
theorem Fw.same (e:j3 w.H H'):Fw K w (w.same H') :=
 ⟨λ_ _ e=>e,λa Y h=>e.Yg h,λa Y Z h=>⟨Z,e _ _ h⟩,λa o Y Z h=>⟨Z,e _ _ h⟩,λa X Z h=>⟨Z,e _ _ h⟩⟩
theorem aI.same (S:aI K w) (e:j3 w.H H'):aI K (w.same H') where
 len:=S.len
 nd:=S.nd
 there:=λk a q=>by
  have h:=S.there k a q;show H' a≠none
  cases Z:w.H a with
  |none=>exact absurd Z h
  |some o=>rw[e _ _ Z];intro z;cases z
 cell:=λk a c e1 e2=>(S.cell k a c e1 e2).le (Fw.same e).le λ_=>by
  have h:=S.there k a e1;show H' a=w.H a
  cases Z:w.H a with
  |none=>exact absurd Z h
  |some o=>exact e _ _ Z
def Wd.put (w:Wd) (k:Nat) (a:Ú) (o:HO) (c:Cell):Wd:=⟨w.ρ,w.aw.set k c,upd w.H a o⟩
def MQ {α:Type} {l:List α} (nd:l.Nodup) {i j:Nat} {a:α} (h1:l[i]?=some a) (h2:l[j]?=some a):i=j:=by
 exact(List.getElem?_inj (È.mp h1).1 nd).mp (h1.trans h2.symm)
def Wd.Bk (h0:w.ρ[k]?=some a) (h1:w.aw[k]?=some c0) (h2:c0≠.dead) (h:(w.put k a o c).Z b):w.Z b:=by
 obtain⟨j,Y,e1,e2,W⟩:=h;have e1:w.ρ[j]?=some b:=e1;have e2:(w.aw.set k c)[j]?=some Y:=e2;by_cases X:k=j
 ·subst X
  exact⟨k,c0,e1,h1,h2⟩
 ·rw[Ý X] at e2
  exact⟨j,Y,e1,e2,W⟩
theorem Fw.put (S:aI K w) (h0:w.ρ[k]?=some a) (h1:w.aw[k]?=some c0) (h2:c0≠.dead):Fw K w (w.put k a o c):=by
 have W:w.Z a:=⟨k,c0,h0,h1,h2⟩;have T:∀X,¬ Rd w.H a (.tup X):=λX h=>by
  have q:=S.cell k a c0 h0 h1
  cases c0 with
  |dead=>exact h2 rfl
  |lst Q=>obtain⟨V,e,_⟩:=q;rcases h with h | ⟨_,h⟩<;>(rw[e] at h;cases h)
  |dK R=>obtain⟨V,e,_⟩:=q;rcases h with h | ⟨_,h⟩<;>(rw[e] at h;cases h)
  |dT R=>obtain⟨V,e,_⟩:=q;rcases h with h | ⟨_,h⟩<;>(rw[e] at h;cases h)
  |tb x=>obtain⟨_,V,_,e,_⟩:=q;rcases h with h | ⟨_,h⟩<;>(rw[e] at h;cases h)
  |ins c fs=>obtain⟨_,_,_,_,e,_⟩:=q;rcases h with h | ⟨_,h⟩<;>(rw[e] at h;cases h)
 refine⟨λ_ _ e=>e,λb X h=>?_,λb X Y h=>⟨λz=>Y (Wd.Bk h0 h1 h2 z),?_⟩,λb U X Y h=>⟨λz=>Y (Wd.Bk h0 h1 h2 z),?_⟩,λb P Y h=>⟨λz=>Y (Wd.Bk h0 h1 h2 z),?_⟩⟩
 ·rcases h with h|h
  ·have ne:b≠a:=λe=>by subst e;exact T X h
   refine .inl ?_
   rcases h with h | ⟨U,h⟩
   ·exact .inl (by show upd w.H a o b=_;rw[aX ne];exact h)
   ·exact .inr ⟨U,by show upd w.H a o b=_;rw[aX ne];exact h⟩
  ·exact .inr h
 ·have ne:b≠a:=λe=>by subst e;exact Y W
  show upd w.H a o b=_;rw[aX ne];exact h
 ·have ne:b≠a:=λe=>by subst e;exact Y W
  show upd w.H a o b=_;rw[aX ne];exact h
 ·have ne:b≠a:=λe=>by subst e;exact Y W
  show upd w.H a o b=_;rw[aX ne];exact h
def aI.xF {k:Nat} {a:Ú} {o:HO} {c c0:Cell} (S:aI K w) (h0:w.ρ[k]?=some a) (h1:w.aw[k]?=some c0) (h2:c0≠.dead) (hc:qz K (w.put k a o c) a c):aI K (w.put k a o c) where
 len:=by show w.ρ.length=(w.aw.set k c).length;rw[Č];exact S.len
 nd:=S.nd
 there:=λj b e=>by
  show upd w.H a o b≠none;unfold upd;split
  ·intro z;cases z
  ·exact S.there j b e
 cell:=λj b Z e1 e2=>by
  have e1:w.ρ[j]?=some b:=e1;have e2:(w.aw.set k c)[j]?=some Z:=e2;by_cases Y:k=j
  ·subst Y
   rw[h0] at e1;have e1:a=b:=ab4 e1;rw[ê (È.mp h1).1] at e2;have e2:c=Z:=ab4 e2;subst e1 e2;exact hc
  ·rw[Ý Y] at e2
   refine(S.cell j b Z e1 e2).le (Fw.put S h0 h1 h2).le λ_=>?_;show upd w.H a o b=w.H b;rw[aX];intro z;subst z;exact Y (MQ S.nd h0 e1)
end
structure bG (K:Ē) (w:Wd) (env:Env) (σ:St):Prop where
 len:env.length=σ.length
 val:∀(i:Nat) d,env[i]?=some (some d)->∃v,σ[i]?=some (some v)/\DV K w d v
theorem bG.le (h:bG K w env σ) (le:Le K w w'):bG K w' env σ :=
 ⟨h.len,λi d e=>by obtain⟨v,e1,e2⟩:=h.val i d e;exact⟨v,e1,le d v e2⟩⟩
theorem bG.set (h:bG K w env σ) (hd:DV K w d v) (i:Nat):bG K w (env.set i (some d)) (σ.set i (some v)):=by
 refine⟨by rw[Č,Č];exact h.len,λj X e=>?_⟩;by_cases Z:i=j
 ·subst Z
  have Y:=(È.mp e).1;rw[Č] at Y;rw[ê Y] at e;have e:d=X:=ab4 (ab4 e);subst e;exact⟨v,by rw[ê (by rw[<- h.len];exact Y)],hd⟩
 ·rw[Ý Z] at e
  rw[Ý Z];exact h.val j X e
def Out (K:Ē) (Ξ:Wd->aT->Prop) (w:Wd) {α:Type} (r:Res α) (k:Wd->α->Prop):Prop:=match r with
 |none=>False
 |some (.ok a,s)=>∀Z,Le K w Z->aI K Z->Z.aw=s->k Z a
 |some (.error x,s)=>∀Z,Le K w Z->aI K Z->Z.aw=s->Ξ Z x
section
variable {K:Ē} {Ξ:Wd->aT->Prop} {w w':Wd} {α β:Type} {r:Res α} {k k':Wd->α->Prop}
def Out.from (h:Out K Ξ w r k) (le:Le K w w'):Out K Ξ w' r k:=by
 unfold Out at h |-
 split<;>simp only at h
 ·exact λZ Y X e2=>h Z (le.trans Y) X e2
 ·exact λZ Y X e2=>h Z (le.trans Y) X e2
def Out.mono (h:Out K Ξ w r k) (hk:∀w2 a,Le K w w2->aI K w2->k w2 a->k' w2 a):Out K Ξ w r k':=by
 unfold Out at h |-
 split<;>simp only at h
 ·exact λw2 Z Y e2=>hk w2 _ Z Y (h w2 Z Y e2)
 ·exact h
theorem Out.aj {q:Wd->β->Prop} (h:Out K Ξ w (DI.aj r g) q):Out K Ξ w r (λw2 a=>Out K Ξ w2 (g a w2.aw) q):=by
 match r,h with
 |some (.ok a,s),h =>
  intro w2 Z Y e2;rw[e2];exact Out.from h Z
 |some (.error x,s),h=>exact h
def Out.done (h:Out K Ξ w (some (.ok a,w.aw)) k) (S:aI K w):k w a:=h w (Le.refl w) S rfl
end
end DI
namespace DI
open PySem L2
def tE (K:Ē) (Ξ:Wd->aT->Prop) (f:abZ D):TE:=fun σ H Q=>∃w env,w.H=H/\aI K w/\bG K w env σ/\Out K Ξ w (f env w.aw) λZ d=>∀v,DV K Z d v->Q v Z.H
def tT (K:Ē) (Ξ:Wd->aT->Prop) (f:abZ Bool):TT:=fun σ H Q=>∃w env,w.H=H/\aI K w/\bG K w env σ/\Out K Ξ w (f env w.aw) λZ b=>Q b Z.H
def tA (K:Ē) (Ξ:Wd->aT->Prop) (f:abZ (List D)):TA:=fun σ H Q=>∃w env,w.H=H/\aI K w/\bG K w env σ/\Out K Ξ w (f env w.aw) λZ X=>∀Y,ak K Z X Y->Q Y Z.H
def rO (K:Ē) (Ξ:Wd->aT->Prop) (o:D->D->aa->Res D):R2:=λx y H Q=>∃w Z Y,w.H=H/\aI K w/\DV K w Z x/\DV K w Y y/\Out K Ξ w (o Z Y w.aw) λX d=>∀v,DV K X d v->Q v X.H
def rU (K:Ē) (Ξ:Wd->aT->Prop) (o:D->aa->Res D):V->Hp->VK->Prop:=λx H Q=>∃w Z,w.H=H/\aI K w/\DV K w Z x/\Out K Ξ w (o Z w.aw) λY d=>∀v,DV K Y d v->Q v Y.H
def rC (K:Ē) (Ξ:Wd->aT->Prop) (o:List D->aa->Res D):List V->Hp->VK->Prop:=λX H Q=>∃w Z,w.H=H/\aI K w/\ak K w Z X/\Out K Ξ w (o Z w.aw) λY d=>∀v,DV K Y d v->Q v Y.H
def ae (i:Nat):abZ D:=λenv s=>match env[i]? with
 |some (some d)=>ok d s
 |_=>none
def eC (d:D):abZ D:=λ_ s=>ok d s
def e1 (o:D->aa->Res D) (f:abZ D):abZ D:=λenv s=>aj (f env s) λx s=>o x s
def e2 (o:D->D->aa->Res D) (f g:abZ D):abZ D:=λenv s=>aj (f env s) λx s=>aj (g env s) λy s=>o x y s
def ah:abZ (List D):=λ_ s=>ok [] s
def af (f:abZ D) (g:abZ (List D)):abZ (List D):=λenv s=>aj (f env s) λx s=>aj (g env s) λZ s=>ok (x::Z) s
def eB (o:List D->aa->Res D) (f:abZ (List D)):abZ D:=λenv s=>aj (f env s) λZ s=>o Z s
def iN {α:Type} (ds:List D) (r:Res α):Res α:=if ds.length<=Ñ then r else none
def cD (f:abZ (List D)):abZ D:=λenv s=>aj (f env s) λZ s=>iN Z (ok (.tup Z) s)
def eT (f:abZ (List D)):abZ D:=λenv s=>aj (f env s) λZ s=>iN Z (ok (.lst Z) s)
def eNew (f:abZ (List D)):abZ D:=λenv s=>aj (f env s) λZ s=>iN Z (ok (.az s.length) (s++[.lst Z]))
def aV:D->aa->Res D:=λd s=>match d with
 | .az k=>match s[k]? with
  |some (.lst Z)=>ok (.lst Z) (s.set k .dead)
  |_=>none
 |_=>none
def B7 (f:abZ D):abZ D:=λenv s=>aj (f env s) aV
def gS (d:D) (s:aa):Res Bool:=match d with
 | .bl b=>ok b s
 |_=>none
def bg (f:abZ D):abZ Bool:=λenv s=>aj (f env s) gS
def truth (d:D) (s:aa):Res Bool:=match d with
 | .ao=>ok false s
 | .bl b=>ok b s
 | .int i=>ok (i != 0) s
 | .str x=>if x.length<=Ñ then ok ((x.length:Int) != 0) s else none
 | .tup Z=>ok (!Z.isEmpty) s
 | .lst Z=>ok (!Z.isEmpty) s
 | .bK Y=>ok (!Y.isEmpty) s
 | .az k=>match s[k]? with
  |some (.lst Z)=>ok (!Z.isEmpty) s
  |some (.dK Y)=>ok (!Y.isEmpty) s
  |_=>none
 | .ty _=>none
 | .bJ _=>none
 | .exc _ _=>none
 | .cA _ _ _=>none
def cN (f:abZ D):abZ Bool:=λenv s=>aj (f env s) truth
def gb (f g:abZ Bool):abZ Bool:=λenv s=>aj (f env s) λb s=>if b=true then g env s else ok false s
def gY (f g:abZ Bool):abZ Bool:=λenv s=>aj (f env s) λb s=>if b=true then ok true s else g env s
def eG (f:abZ Bool):abZ Bool:=λenv s=>aj (f env s) λb s=>ok (!b) s
def dA (f g:abZ D):abZ D:=λenv s=>aj (f env s) λx s=>aj (gS x s) λb s=>if b=true then g env s else ok (.bl false) s
def nL (f g:abZ D):abZ D:=λenv s=>aj (f env s) λx s=>aj (gS x s) λb s=>if b=true then ok (.bl true) s else g env s
def t5 (f:abZ D):abZ D:=λenv s=>aj (f env s) λx s=>aj (gS x s) λb s=>ok (.bl (!b)) s
def nM (c:abZ Bool) (f g:abZ D):abZ D:=λenv s=>aj (c env s) λb s=>if b=true then f env s else g env s
def rB (o o':D->D->aa->Res D) (f g h:abZ D):abZ D:=λenv s=>aj (f env s) λx s=>aj (g env s) λy s=>aj (o x y s) λz s=>aj (gS z s) λb s =>
 if b=true then aj (h env s) λu s=>o' y u s else ok (.bl false) s
section
variable {X:Cx} {Ξ:Wd->aT->Prop} {e a b c:Ġ} {es rest:List Ġ} {pos:Pos} {f g h:abZ D} {fa:abZ (List D)} {ft gt:abZ Bool}
def cg {t t':TE} (h:PE X e t) (i:∀ σ H Q,t' σ H Q->t σ H Q):PE X e t':=λZ s σ H Q I Y=>h Z s σ H Q I (i σ H Q Y)
def AF {t t':TT} (h:PT X e t) (i:∀ σ H Q,t' σ H Q->t σ H Q):PT X e t':=λZ s σ H Q I Y=>h Z s σ H Q I (i σ H Q Y)
def Im {t t':TT} (h:PW X e t) (i:∀ σ H Q,t' σ H Q->t σ H Q):PW X e t':=λZ Y s σ H Q I W=>h Z Y s σ H Q I (i σ H Q W)
def Io {t t':TA} (h:PA X es t) (i:∀ σ H Q,t' σ H Q->t σ H Q):PA X es t':=λp Z s σ H Q I Y=>h p Z s σ H Q I (i σ H Q Y)
def jP (h:PS X st t) (i:∀D σ H,t' D σ H->t D σ H):PS X st t':=λZ s σ H D I Y=>h Z s σ H D I (i D σ H Y)
def Ho (h:cS X st t) (i:∀D σ H,t' D σ H->t D σ H):cS X st t':=λZ s σ H D I Y=>h Z s σ H D I (i D σ H Y)
def au {α:Type} {K:Ē} {w:Wd} {a:α} {k:Wd->α->Prop} (S:aI K w) (h:Out K Ξ w (ok a w.aw) k):k w a:=h w (Le.refl w) S rfl
def ag (i:Nat) {x:Str} (hN:X.N[i]?=some x:=by rfl) (hv:pA X.env.scope x:=by first|exact aa1 rfl|exact Or.inr (aa1 rfl)|exact Or.inr (Or.inr rfl)) (hd:(x==("__debug__":Str))=false:=by decide)
  (dX:(x==("__classdict__":Str))=false:=by decide):PE X (.Name x pos) (tE X.K Ξ (ae i)):=cg (Ia hN hv hd dX) fun σ H Q Z=>by
 obtain⟨w,env,Y,S,W,h⟩:=Z;unfold ae at h;split at h
 ·rename_i d V
  obtain⟨v,e1,e2⟩:=W.val i d V;subst Y;exact⟨v,e1,au S h v e2⟩
 ·exact h.elim
def oO {d:D} {v:V} (h:PE X e (tC v)) (hd:∀w,DV X.K w d v):PE X e (tE X.K Ξ (eC d)):=cg h fun σ H Q Z=>by
 obtain⟨w,env,Y,S,W,h⟩:=Z;subst Y;exact au S h v (hd w)
def aE {i j}:PE X (.Constant (.int i) j pos) (tE X.K Ξ (eC (.int i))):=oO Tj λ_=>rfl
def fj {b j}:PE X (.Constant (.bool b) j pos) (tE X.K Ξ (eC (.bl b))):=oO Bf λ_=>rfl
def V0 {j}:PE X (.Constant .none j pos) (tE X.K Ξ (eC .ao)):=oO Tn λ_=>rfl
def bu {x j}:PE X (.Constant (.str x) j pos) (tE X.K Ξ (eC (.str x))):=oO To λ_=>rfl
def wk (σ:St) (H:Hp) (Q:VK):tE K Ξ (e2 o f g) σ H Q->uD (rO K Ξ o) (tE K Ξ f) (tE K Ξ g) σ H Q:=by
 rintro ⟨w,env,rfl,S,Z,h⟩;exact⟨w,env,rfl,S,Z,(Out.aj h).mono λY x X W V v1 U=>⟨Y,env,rfl,W,Z.le X,(Out.aj V).mono λT y R P O v2 N=>⟨T,x,y,rfl,P,R _ _ U,N,O⟩⟩⟩
def bN (ho:bt X (ń op) (rO X.K Ξ o)) (ha:PE X a (tE X.K Ξ f)) (hb:PE X b (tE X.K Ξ g)):PE X (.BinOp a op b pos) (tE X.K Ξ (e2 o f g)):=cg (VA ho ha hb) wk
def fB (ho:bt X (Ė op) (rO X.K Ξ o)) (ha:PE X a (tE X.K Ξ f)) (hb:PE X b (tE X.K Ξ g)) (hm:aaL op b=false):PE X (.Compare a [op] [b] pos) (tE X.K Ξ (e2 o f g)):=cg (RM ho ha hb hm) wk
def Uk {K:Ē} (σ:St) (H:Hp) (Q:Bool->Hp->Prop):tT K Ξ (bg f) σ H Q->xk (tE K Ξ f) σ H Q:=by
 rintro ⟨w,env,rfl,S,Y,h⟩;refine⟨w,env,rfl,S,Y,(Out.aj h).mono λV x U X Z v1 W=>?_⟩
 cases x with
 |bl b =>
  have e:v1=.bl b:=W;exact⟨b,e,au X Z⟩
 |_=>exact Z.elim
def N3 (i:∀ σ H Q,t' σ H Q->t σ H Q) (σ:St) (H:Hp) (Q:Bool->Hp->Prop):xk t' σ H Q->xk t σ H Q:=λh=>i _ _ _ h
def bT (ho:bt X (Ė op) (rO X.K Ξ o)) (ha:PE X a (tE X.K Ξ f)) (hb:PE X b (tE X.K Ξ g)) (hm:aaL op b=false):PT X (.Compare a [op] [b] pos) (tT X.K Ξ (bg (e2 o f g))) :=
 AF (RN ho ha hb hm) fun σ H Q h=>N3 wk σ H Q (Uk σ H Q h)
def Ul {K:Ē} {o o':D->D->aa->Res D} (σ:St) (H:Hp) (Q:VK):tE K Ξ (rB o o' f g h) σ H Q->Ie (rO K Ξ o) (rO K Ξ o') (tE K Ξ f) (tE K Ξ g) (tE K Ξ h) σ H Q:=by
 rintro ⟨w,env,rfl,S,Y,h⟩;refine⟨w,env,rfl,S,Y,(Out.aj h).mono λP x W O N v1 M=>⟨P,env,rfl,O,Y.le W,(Out.aj N).mono λL y V J I v2 U=>⟨L,x,y,rfl,J,V _ _ M,U,(Out.aj I).mono λG z T X F E C=>?_⟩⟩⟩;have R:=Out.aj F
 cases z with
 |bl b =>
  have e:E=.bl b:=C;have Z:=au X R;refine⟨b,e,?_⟩
  cases b with
  |true =>
   rw[Þ rfl] at Z |-;exact⟨G,env,rfl,X,Y.le (W.trans (V.trans T)),(Out.aj Z).mono λB u A v t v4 s=>⟨B,y,u,rfl,v,(T.trans A) _ _ U,s,t⟩⟩
  |false =>
   rw[ì Õ] at Z |-;exact au X Z _ rfl
 |_=>exact R.elim
def Hq (ho:bt X (Ė op) (rO X.K Ξ o)) (fI:bt X (Ė rk) (rO X.K Ξ o')) (ha:PE X a (tE X.K Ξ f)) (hb:PE X b (tE X.K Ξ g)) (hc:PE X c (tE X.K Ξ h))
 (hm:lastMarks [op,rk] [b,c]=false:=by with_unfolding_all rfl):PE X (.Compare a [op,rk] [b,c] pos) (tE X.K Ξ (rB o o' f g h)):=cg (P0 ho fI ha hb hc hm) Ul
def Kr (ho:uC X (unaryOp op) (rU X.K Ξ o)) (ha:PE X a (tE X.K Ξ f)):PE X (.UnaryOp op a pos) (tE X.K Ξ (e1 o f)):=cg (VB ho ha) fun σ H Q Z=>by
 obtain⟨w,env,Y,S,W,h⟩:=Z;subst Y;exact⟨w,env,rfl,S,W,(Out.aj h).mono λV x P U T v1 R=>⟨V,x,rfl,U,R,T⟩⟩
def dQ:PA X [] (tA X.K Ξ ah):=Io iI fun σ H Q Z=>by
 obtain⟨w,env,Y,S,W,h⟩:=Z;subst Y;exact au S h _ rfl
def bh (ha:PE X e (tE X.K Ξ f)) (hr:PA X es (tA X.K Ξ fa)) (hs:Ë (e::es) X.env=(false,ļ e X.env)::Ë es X.env:=by rfl):PA X (e::es) (tA X.K Ξ (af f fa)):=Io (gy ha hr hs) fun σ H Q Y=>by
 obtain⟨w,env,W,S,Z,h⟩:=Y;subst W;exact⟨w,env,rfl,S,Z,(Out.aj h).mono λV x U T R v1 P=>⟨V,env,rfl,T,Z.le U,(Out.aj R).mono λI G O N M L J=>au N M _ ⟨v1,L,rfl,O _ _ P,J⟩⟩⟩
def qc {α:Type} {K:Ē} {w:Wd} {ds:List D} {r:Res α} {k:Wd->α->Prop} (h:Out K Ξ w (iN ds r) k):ds.length<=Ñ/\Out K Ξ w r k:=by
 unfold iN at h;split at h
 ·exact⟨by assumption,h⟩
 ·exact h.elim
def eO {x1} (ha:PA X es (tA X.K Ξ fa)):PE X (.Tuple es x1 pos) (tE X.K Ξ (cD fa)):=cg (TU ha) fun σ H Q V=>by
 obtain⟨w,env,U,S,T,h⟩:=V;subst U;refine⟨w,env,rfl,S,T,(Out.aj h).mono λR L J P O Y W=>?_⟩;obtain⟨N,M⟩:=qc O;refine⟨by rw[<- W.length];exact N,λp Z=>?_⟩;exact M (R.grow p (.tup Y)) (Fw.grow Z).le (P.grow Z) rfl (.ref p) ⟨p,Y,rfl,bp.of cu,(Fw.grow Z).le.all W⟩
def kD {K:Ē} {w:Wd} {p:Ú} (S:aI K w) (hp:w.H p=none):¬ w.Z p:=λ⟨k,c,e1,_,_⟩=>S.there k p e1 hp
def gP (ha:PA X es (tA X.K Ξ fa)):PE X (.List es pos) (tE X.K Ξ (eT fa)):=cg (Ig ha) fun σ H Q R=>by
 obtain⟨w,env,P,S,O,h⟩:=R;subst P;refine⟨w,env,rfl,S,O,(Out.aj h).mono λW J I V N U T=>?_⟩;obtain⟨M,L⟩:=qc N;refine⟨by rw[<- T.length];exact M,λp Y=>?_⟩;exact L (W.grow p (.lst U)) (Fw.grow Y).le (V.grow Y) rfl (.ref p) ⟨p,U,rfl,⟨(show ¬ W.Z p from kD V Y),cu⟩,(Fw.grow Y).le.all T⟩
def xm (ha:PA X es (tA X.K Ξ fa)):PE X (.List es pos) (tE X.K Ξ (eNew fa)):=cg (Ig ha) fun σ H Q R=>by
 obtain⟨w,env,P,S,O,h⟩:=R;subst P;refine⟨w,env,rfl,S,O,(Out.aj h).mono λZ V J Y N W U=>?_⟩;obtain⟨M,L⟩:=qc N;refine⟨by rw[<- U.length];exact M,λp T=>?_⟩;have le:=(Fw.cell (o:=.lst W) (c:=.lst V) Y T).le;refine L (Z.cell p (.lst W) (.lst V)) le (Y.Jp T ⟨W,cu,le.all U⟩) rfl (.ref p) ⟨p,?_,rfl⟩;show (Z.ρ++[p])[Z.aw.length]?=some p;rw[<- Y.len];simp
theorem oY.of {K:Ē} {w:Wd} {d:D} {v:V} {k:Wd->Bool->Prop} (S:aI K w) (hd:DV K w d v) (h:Out K Ξ w (truth d w.aw) k):∃b,oY K v w.H b/\k w b:=by
 cases d with
 |ao=>have e:v=.ao:=hd;subst e;exact⟨_,rfl,au S h⟩
 |bl b=>have e:v=.bl b:=hd;subst e;exact⟨_,rfl,au S h⟩
 |int i=>have e:v=.int i:=hd;subst e;exact⟨_,rfl,au S h⟩
 |str x =>
  have e:v=.str x:=hd;subst e;unfold truth at h
  split at h<;>first|contradiction|skip
  all_goals (rename_i e;cases e)
  split at h
  ·exact⟨_,⟨by assumption,rfl⟩,au S h⟩
  ·exact h.elim
 |tup Y =>
  simp only[DV] at hd;obtain⟨a,Z,rfl,X,r⟩:=hd;refine⟨_,.inr (.inl ⟨Z,X,?_⟩),au S h⟩;have e:=r.length
  cases Y<;>cases Z<;>first|rfl|cases e
 |lst Y =>
  simp only[DV] at hd;obtain⟨a,Z,rfl,X,r⟩:=hd;refine⟨_,.inl ⟨Z,X.sq,?_⟩,au S h⟩;have e:=r.length
  cases Y<;>cases Z<;>first|rfl|cases e
 |bK W =>
  simp only[DV] at hd;obtain⟨a,rfl,_,X⟩:=hd;refine⟨_,.inr (.inr ⟨_,X,?_⟩),au S h⟩
  cases W<;>rfl
 |az j =>
  simp only[DV] at hd;obtain⟨a,e1,rfl⟩:=hd;simp only[truth] at h;split at h
  ·rename_i Y U
   obtain⟨Z,T,R⟩:=S.cell j a _ e1 U;refine⟨_,.inl ⟨Z,aZ.of T,?_⟩,au S h⟩;have e:=R.length
   cases Y<;>cases Z<;>first|rfl|cases e
  ·rename_i W U
   obtain⟨es,T,R,Q⟩:=S.cell j a _ e1 U;refine⟨_,.inr (.inr ⟨es,T,?_⟩),au S h⟩;have e:=Ľ List.length R
   cases W<;>cases es<;>first|rfl|simp at e
  ·exact h.elim
 |ty n=>exact h.elim
 |bJ P=>exact h.elim
 |exc o _=>exact h.elim
 |cA o _ _=>exact h.elim
def eh (ha:PE X a (tE X.K Ξ f)) (he:∀whole,isTrue a X.env whole=(do let v <- whole;abN a.pos;abx [v] (truthy v)):=by intro _;rfl):PT X a (tT X.K Ξ (cN f)):=AF (P1 ha he) fun σ H Q Z=>by
 obtain⟨w,env,Y,S,W,h⟩:=Z;subst Y;exact⟨w,env,rfl,S,W,(Out.aj h).mono λR x P V U v1 T=>oY.of V T U⟩
def gE (ha:PT X a (tT X.K Ξ ft)):PT X (.UnaryOp .Not a pos) (tT X.K Ξ (eG ft)):=AF (Tr ha) fun σ H Q Z=>by
 obtain⟨w,env,Y,S,W,h⟩:=Z;subst Y;exact⟨w,env,rfl,S,W,(Out.aj h).mono λT b R V U=>au V U⟩
def lS (ha:PT X a (tT X.K Ξ ft)):PW X (.BoolOp .And [a] pos) (tT X.K Ξ ft):=RF ha
def mZ (ha:PT X a (tT X.K Ξ ft)):PW X (.BoolOp .Or [a] pos) (tT X.K Ξ ft):=Tp ha
def w_and (ha:PT X a (tT X.K Ξ ft)) (hb:PW X (.BoolOp .And (b::rest) pos) (tT X.K Ξ gt)):PW X (.BoolOp .And (a::b::rest) pos) (tT X.K Ξ (gb ft gt)):=Im (Tq ha hb) fun σ H Q V=>by
 obtain⟨w,env,U,S,Z,h⟩:=V;subst U;refine⟨w,env,rfl,S,Z,(Out.aj h).mono λT b R Y W=>?_⟩
 cases b with
 |true=>exact⟨T,env,rfl,Y,Z.le R,W⟩
 |false=>exact au Y W
def w_or (ha:PT X a (tT X.K Ξ ft)) (hb:PW X (.BoolOp .Or (b::rest) pos) (tT X.K Ξ gt)):PW X (.BoolOp .Or (a::b::rest) pos) (tT X.K Ξ (gY ft gt)):=Im (Vr ha hb) fun σ H Q V=>by
 obtain⟨w,env,U,S,Z,h⟩:=V;subst U;refine⟨w,env,rfl,S,Z,(Out.aj h).mono λT b R Y W=>?_⟩
 cases b with
 |false=>exact⟨T,env,rfl,Y,Z.le R,W⟩
 |true=>exact au Y W
def fZ {op} (ha:PE X a (tE X.K Ξ f)):PE X (.BoolOp op [a] pos) (tE X.K Ξ f):=Tt ha
def Ah {K:Ē} {w:Wd} {d:D} {v:V} {k:Wd->Bool->Prop} (S:aI K w) (hd:DV K w d v) (h:Out K Ξ w (gS d w.aw) k):∃b,v=.bl b/\k w b:=by
 cases d with
 |bl b=>exact⟨b,hd,au S h⟩
 |_=>exact h.elim
def fO (ha:PE X a (tE X.K Ξ f)) (hb:PE X (.BoolOp .And (b::rest) pos) (tE X.K Ξ g)):PE X (.BoolOp .And (a::b::rest) pos) (tE X.K Ξ (dA f g)):=cg (Tu ha hb) fun σ H Q V=>by
 obtain⟨w,env,U,S,Y,h⟩:=V;subst U;refine⟨w,env,rfl,S,Y,(Out.aj h).mono λT x R Z P v1 O=>?_⟩;obtain⟨b,e,W⟩:=Ah Z O (Out.aj P);refine⟨b,e,?_⟩
 cases b with
 |true=>exact⟨T,env,rfl,Z,Y.le R,W⟩
 |false=>exact au Z W _ rfl
def B9 (ha:PE X a (tE X.K Ξ f)) (hb:PE X (.BoolOp .Or (b::rest) pos) (tE X.K Ξ g)):PE X (.BoolOp .Or (a::b::rest) pos) (tE X.K Ξ (nL f g)):=cg (Vu ha hb) fun σ H Q V=>by
 obtain⟨w,env,U,S,Y,h⟩:=V;subst U;refine⟨w,env,rfl,S,Y,(Out.aj h).mono λT x R Z P v1 O=>?_⟩;obtain⟨b,e,W⟩:=Ah Z O (Out.aj P);refine⟨b,e,?_⟩
 cases b with
 |false=>exact⟨T,env,rfl,Z,Y.le R,W⟩
 |true=>exact au Z W _ rfl
def Jq (ha:PE X a (tE X.K Ξ f)):PE X (.UnaryOp .Not a pos) (tE X.K Ξ (t5 f)):=cg (Tv ha) fun σ H Q Y=>by
 obtain⟨w,env,W,S,V,h⟩:=Y;subst W;refine⟨w,env,rfl,S,V,(Out.aj h).mono λP x O Z U v1 T=>?_⟩;obtain⟨b,e,R⟩:=Ah Z T (Out.aj U);exact⟨b,e,au Z R _ rfl⟩
def xG (hc:PT X c (tT X.K Ξ ft)) (ha:PE X a (tE X.K Ξ f)) (hb:PE X b (tE X.K Ξ g)):PE X (.IfExp c a b pos) (tE X.K Ξ (nM ft f g)):=cg (PY hc ha hb) fun σ H Q T=>by
 obtain⟨w,env,R,S,Z,h⟩:=T;subst R;refine⟨w,env,rfl,S,Z,(Out.aj h).mono λY b W V U=>?_⟩
 cases b with
 |true=>exact⟨Y,env,rfl,V,Z.le W,U⟩
 |false=>exact⟨Y,env,rfl,V,Z.le W,U⟩
def Ip (σ:St) (H:Hp) (Q:VK):tE K Ξ (eB o fa) σ H Q->CI (rC K Ξ o) (tA K Ξ fa) σ H Q:=by
 rintro ⟨w,env,rfl,S,Z,h⟩;exact⟨w,env,rfl,S,Z,(Out.aj h).mono λY X T W V R U=>⟨Y,X,rfl,W,U,V⟩⟩
def bV {x:Str} {p:Pos} {id:String} {o:List D->aa->Res D} (hc:bY X (.builtin id) (rC X.K Ξ o)) (hg:Gl X x) (hm:X.mg x=none) (hv:û x=some (.builtin id)) (ha:PA X (e::es) (tA X.K Ξ fa)) (hn:x≠"__name__":=by decide) (df:(x==("__debug__":Str))=false:=by decide)
  (he:Ë (e::es) X.env=(false,ļ e X.env)::Ë es X.env:=by rfl) (bw:(Ħ pos (Ë es X.env)).any (·.1)=false:=by rfl):PE X (.Call (.Name x p) (e::es) [] pos) (tE X.K Ξ (eB o fa)):=cg (vO hc hg hm hv ha hn df he bw) Ip
def fM {x:Str} {p:Pos} {T:String} {o:List D->aa->Res D} (hc:bY X (.type T) (rC X.K Ξ o)) (hg:Gl X x) (hm:X.mg x=none) (hv:û x=some (.type T)) (ha:PA X (e::es) (tA X.K Ξ fa)) (hn:x≠"__name__":=by decide) (df:(x==("__debug__":Str))=false:=by decide)
  (he:Ë (e::es) X.env=(false,ļ e X.env)::Ë es X.env:=by rfl) (bw:(Ħ pos (Ë es X.env)).any (·.1)=false:=by rfl):PE X (.Call (.Name x p) (e::es) [] pos) (tE X.K Ξ (eB o fa)):=cg (vH hc hg hm hv ha hn df he bw) Ip
end
set_option genInjectivity true in
inductive Fl where
 |nx (env:Env)|rt (d:D)|bk (env:Env)|ct (env:Env)
def xH (K:Ē) (D:Ends) (w:Wd):Fl->Prop
 | .nx env=>∀ σ,bG K w env σ->D.nx σ w.H
 | .rt d=>∀v,DV K w d v->D.rt v w.H
 | .bk env=>∀ σ,bG K w env σ->D.bk σ w.H
 | .ct env=>∀ σ,bG K w env σ->D.ct σ w.H
def tS (K:Ē) (Ξ:Wd->aT->Prop) (f:abZ Fl):TS:=λD σ H=>∃w env,w.H=H/\aI K w/\bG K w env σ/\Out K Ξ w (f env w.aw) (xH K D)
def bQ:abZ Fl:=λenv s=>ok (.nx env) s
def ax (f g:abZ Fl):abZ Fl:=λenv s=>aj (f env s) λfl s=>match fl with
 | .nx env=>g env s
 |fl=>ok fl s
def aG (f:abZ D):abZ Fl:=λenv s=>aj (f env s) λd s=>ok (.rt d) s
def kN (f:abZ D):abZ Fl:=λenv s=>aj (f env s) λ_ s=>ok (.nx env) s
def bB (c:abZ Bool) (f g:abZ Fl):abZ Fl:=λenv s=>aj (c env s) λb s=>if b=true then f env s else g env s
def Jr:abZ Fl:=λenv s=>ok (.ct env) s
def aU (f:abZ D) (g:D->Env->Option Env):abZ Fl:=λenv s=>aj (f env s) λd s=>match g d env with
 |some Z=>ok (.nx Z) s
 |none=>none
def gN (i:Nat):D->Env->Option Env:=λd env=>some (env.set i (some d))
def fP:List (D->Env->Option Env)->List D->Env->Option Env
 | [],[],env=>some env
 |g::Z,d::Y,env=>match g d env with
  |some X=>fP Z Y X
  |none=>none
 |_,_,_=>none
def gT (gs:List (D->Env->Option Env)):D->Env->Option Env:=λd env=>match d with
 | .tup Z=>fP gs Z env
 |_=>none
def kO (g:D->Env->Option Env) (b:abZ Fl):List D->abZ Fl
 | [],env,s=>ok (.nx env) s
 |d::Z,env,s=>match g d env with
  |none=>none
  |some Y=>aj (b Y s) λX s=>match X with
   | .nx e=>kO g b Z e s
   | .ct e=>kO g b Z e s
   | .bk e=>ok (.nx e) s
   | .rt d=>ok (.rt d) s
def fQ (it:abZ (List D)) (g:D->Env->Option Env) (b:abZ Fl):abZ Fl:=λenv s=>aj (it env s) λZ s=>kO g b Z env s
def ne {α:Type} (r:Res α):Res α:=match r with
 |some (.ok a,s)=>some (.ok a,s)
 |_=>none
@[simp] theorem oP {α:Type} {a:α} {s:aa}:ne (some (.ok a,s))=some (.ok a,s):=rfl
def f6 (cap:List Nat) (env:Env):Env:=cap.map λj=>(env[j]?).getD none
def fX (nt:Nat) (caps:Env) (g:D->Env->Option Env) (t:abZ Bool) (f:abZ D):List D->aa->Res (List D)
 | [],s=>ok [] s
 |d::Z,s=>match g d (Ò nt none++caps) with
  |none=>none
  |some env=>aj (ne (t env s)) λb s=>if b=true then aj (ne (f env s)) λx s=>aj (fX nt caps g t f Z s) λY s=>ok (x::Y) s
   else fX nt caps g t f Z s
def cB (nt:Nat) (cap:List Nat) (it:abZ (List D)) (g:D->Env->Option Env) (t:abZ Bool) (f:abZ D):abZ D:=λenv s =>
 aj (it env s) λZ s=>iN Z (aj (fX nt (f6 cap env) g t f Z s) λY s=>ok (.lst Y) s)
def dh:abZ Bool:=λ_ s=>ok true s
def aM (np ns:Nat) (b:abZ Fl):List D->aa->Res D:=λZ s=>if Z.length=np then aj (b (Z.map some++Ò (ns-np) none) s) λY s=>match Y with
 | .rt d=>ok d s
 | .nx _=>ok .ao s
 |_=>none else none
abbrev bL:Wd->aT->Prop:=λ_ _=>False
def i5 (K:Ē) (f:List D->aa->Res D):Sp:=λX H Q _=>∃w Z,w.H=H/\aI K w/\ak K w Z X/\Out K bL w (f Z w.aw) λY d=>∀v,DV K Y d v->Q v Y.H
section
variable {X:Cx} {Ξ:Wd->aT->Prop} {e a b c tg:Ġ} {es rest:List Ġ} {pos:Pos} {f g h:abZ D} {fa:abZ (List D)} {ft gt:abZ Bool} {st:abM} {pL Ca:List abM} {fs gs:abZ Fl}
def cC:cS X [] (tS X.K Ξ bQ):=Ho RG λD σ H Z=>by
 obtain⟨w,env,Y,S,W,h⟩:=Z;subst Y;exact au S h σ W
def aL (h1:PS X st (tS X.K Ξ fs)) (h2:cS X pL (tS X.K Ξ gs)):cS X (st::pL) (tS X.K Ξ (ax fs gs)):=Ho (PZ h1 h2) λD σ H W=>by
 obtain⟨w,env,V,S,U,h⟩:=W;subst V;refine⟨w,env,rfl,S,U,(Out.aj h).mono λT R P Z h1=>?_⟩
 cases R with
 |nx Y=>exact fun O Q=>⟨T,Y,rfl,Z,Q,h1⟩
 |rt d=>have q:=au Z h1;exact q
 |bk Y=>have q:=au Z h1;exact q
 |ct Y=>have q:=au Z h1;exact q
def aF (h1:PS X st (tS X.K Ξ fs)):cS X [st] (tS X.K Ξ fs):=RH h1
def aN (he:PE X e (tE X.K Ξ f)):PS X (.Return (some e) pos) (tS X.K Ξ (aG f)):=jP (Tw he) λD σ H Z=>by
 obtain⟨w,env,Y,S,W,h⟩:=Z;subst Y;exact⟨w,env,rfl,S,W,(Out.aj h).mono λT d R V U=>au V U⟩
def AG (he:PE X e (tE X.K Ξ f)) (hs:swapsWith e none pos.line X.env=pure false:=by rfl):PS X (.Expr e pos) (tS X.K Ξ (kN f)):=jP (RJ he hs) λD σ H Y=>by
 obtain⟨w,env,W,S,Z,h⟩:=Y;subst W;exact⟨w,env,rfl,S,Z,(Out.aj h).mono λR d V U T _ _=>au U T σ (Z.le V)⟩
def cE (hc:PT X c (tT X.K Ξ ft)) (ha:cS X pL (tS X.K Ξ fs)) (hb:cS X Ca (tS X.K Ξ gs)):PS X (.If c pL Ca pos) (tS X.K Ξ (bB ft fs gs)):=jP (Vx hc ha hb) λD σ H T=>by
 obtain⟨w,env,R,S,Z,h⟩:=T;subst R;refine⟨w,env,rfl,S,Z,(Out.aj h).mono λY b W V U=>?_⟩
 cases b with
 |true=>exact⟨Y,env,rfl,V,Z.le W,U⟩
 |false=>exact⟨Y,env,rfl,V,Z.le W,U⟩
def YA:abZ Fl:=λ_ _=>none
def gD (K:Ē) (g:D->Env->Option Env):TG:=λv σ H Q=>∃w env d Z,w.H=H/\aI K w/\bG K w env σ/\DV K w d v/\g d env=some Z/\∀ Y,bG K w Z Y->Q Y H
def rD (K:Ē) (g:List D->Env->Option Env):iW:=λW σ H Q=>∃w env Z Y,w.H=H/\aI K w/\bG K w env σ/\ak K w Z W/\g Z env=some Y/\∀ X,bG K w Y X->Q X H
def AH {t t':TG} (h:PG X e t) (i:∀v σ H Q,t' v σ H Q->t v σ H Q):PG X e t':=λZ s σ H v u Q I r Y=>h Z s σ H v u Q I r (i v σ H Q Y)
def Hr {t t':iW} (h:jz X es t) (i:∀v σ H Q,t' v σ H Q->t v σ H Q):jz X es t':=λZ s σ H v u Q I r Y=>h Z s σ H v u Q I r (i v σ H Q Y)
def cw (i:Nat) {x:Str} (hN:X.N.Nodup) (hi:X.N[i]?=some x:=by rfl) (hx:Loc X.env.scope x:=by first|exact aa1 rfl|exact Or.inr rfl) (hf:X.fn x=true\/X.env.scope.names.lookup x=some .local:=by first|exact .inl rfl|exact .inr rfl):PG X (.Name x pos) (gD X.K (gN i)) :=
 AH (iH hN hi hx hf) λv σ H Q Z=>by
  obtain⟨w,env,d,Y,T,S,W,V,U,k⟩:=Z;have e:env.set i (some d)=Y:=ab4 U;subst e;exact k _ (W.set V i)
def mR:jz X [] (rD X.K (fP [])):=Hr we λR σ H Q W=>by
 obtain⟨w,env,Z,V,P,S,U,T,Y,k⟩:=W
 cases Z with
 |nil =>
  have e:env=V:=ab4 Y;subst e;exact⟨T,k _ U⟩
 |cons d Z=>cases Y
def dF {g:D->Env->Option Env} {gl:List (D->Env->Option Env)} (h1:PG X e (gD X.K g)) (h2:jz X es (rD X.K (fP gl)))
  (hs:(ľ (e::es) X.env).map (·.2)=abH e X.env::(ľ es X.env).map (·.2):=by rfl):jz X (e::es) (rD X.K (fP (g::gl))):=Hr (oi h1 h2 hs) λL σ H Q T=>by
 obtain⟨w,env,Y,R,V,S,P,O,Z,k⟩:=T
 cases Y with
 |nil=>cases Z
 |cons d Y =>
  obtain⟨v,r,rfl,N,dr⟩:=O;simp only[fP] at Z
  cases W:g d env with
  |none=>rw[W] at Z;cases Z
  |some U =>
   rw[W] at Z;refine⟨v,r,rfl,w,env,d,U,V,S,P,N,W,fun J M=>⟨w,U,Y,R,V,S,M,dr,Z,k⟩⟩
theorem vQ:∀{gl:List (D->Env->Option Env)} {ds:List D} {env aA:Env},fP gl ds env=some aA->ds.length=gl.length
 | [],[],_,_,_=>rfl
 |g::gl,d::ds,env,aA,h=>by
  simp only[fP] at h
  cases Z:g d env with
  |none=>rw[Z] at h;cases h
  |some e1=>rw[Z] at h;simp[vQ h]
 | [],_::_,_,_,h=>by cases h
 |_::_,[],_,_,h=>by cases h
def s9 {gl:List (D->Env->Option Env)} {k:Nat} (hc:X.calm=true) (h:jz X es (rD X.K (fP gl))) (hn:(ľ es X.env).length=gl.length:=by rfl) (gn:(ľ es X.env).findIdx? (·.1)=none:=by rfl):PG X (.Tuple es k pos) (gD X.K (gT gl)) :=
 AH (ow hc h hn gn) λv σ H Q V=>by
  obtain⟨w,env,d,U,T,S,R,Y,Z,k⟩:=V
  cases d with
  |tup P =>
   simp only[DV] at Y;obtain⟨p,O,e1,N,W⟩:=Y;subst T;exact⟨p,O,e1,N,by rw[<- W.length];exact vQ Z,w,env,P,U,rfl,S,R,W,Z,k⟩
  |_=>cases Z
def Ai {K:Ē} {g:D->Env->Option Env} (D:Ends) (σ:St) (H:Hp):tS K Ξ (aU f g) D σ H->qN (tE K Ξ f) (gD K g) D σ H:=by
 rintro ⟨w,env,rfl,S,X,h⟩;refine⟨w,env,rfl,S,X,(Out.aj h).mono λV d U W Z v T=>?_⟩
 cases Y:g d env with
 |none=>rw[Y] at Z;exact Z.elim
 |some R =>
  rw[Y] at Z;exact⟨V,env,d,R,rfl,W,X.le U,T,Y,au W Z⟩
def m6 {g:D->Env->Option Env} (he:PE X e (tE X.K Ξ f)) (hg:PG X tg (gD X.K g)) (hs:ς [tg] e pos.line X.env=pure false:=by rfl) (hw:υ [tg] e X.env=pure none:=by rfl)
  (h1:(ľ [tg] X.env).map (·.2)=[abH tg X.env]:=by rfl):PS X (.Assign [tg] e pos) (tS X.K Ξ (aU f g)):=jP (Ib he hg hs hw h1) Ai
def Ga {K:Ē} {te:TE} {i:Nat} (D:Ends) (σ:St) (H:Hp):qN (tE K Ξ f) (gD K (gN i)) D σ H->qN (tE K Ξ f) (lU i) D σ H:=by
 rintro ⟨w,env,rfl,S,Z,h⟩;refine⟨w,env,rfl,S,Z,h.mono λP d O N Y v X=>?_⟩;obtain⟨M,W,V,U,L,J,T,R,Q,k⟩:=Y v X;have e:W.set i (some V)=U:=ab4 Q;subst e;exact k _ (T.set R i)
def cK (i:Nat) {x:Str} {pos':Pos} (hN:X.N.Nodup) (he:PE X e (tE X.K Ξ f)) (hi:X.N[i]?=some x:=by rfl) (hx:Loc X.env.scope x:=by first|exact aa1 rfl|exact Or.inr rfl) (hs:swapsWith e (some (.Name x pos')) pos.line X.env=pure false:=by rfl) (hf:X.fn x=true\/X.env.scope.names.lookup x=some .local:=by first|exact .inl rfl|exact .inr rfl) :
  PS X (.Assign [.Name x pos'] e pos) (tS X.K Ξ (aU f (gN i))):=jP (TB hN hi hx he hs hf) λD σ H h=>Ga (te:=tE X.K Ξ f) D σ H (Ai D σ H h)
def pM (K:Ē) (w:Wd) (J:It) (ds:List D):Prop:=∀Z,Le K w Z->aI K Z->∀i,
 (∀d,ds[i]?=some d->J.go i Z.H/\∀x X,J.pB i Z.H x X->∃Y,Y.H=X/\Le K Z Y/\aI K Y/\Y.aw=Z.aw/\DV K Y d x)/\(ds.length<=i->J.stop i Z.H)
def eU (K:Ē) (Ξ:Wd->aT->Prop) (f:abZ (List D)):TI:=fun σ H R=>∃w env,w.H=H/\aI K w/\bG K w env σ/\Out K Ξ w (f env w.aw) λZ Y=>∀J,pM K Z J Y->R J Z.H
def sH {t t':TI} (h:PI X tg e t) (i:∀ σ H R,t' σ H R->t σ H R):PI X tg e t':=λZ s σ H R I Y=>h Z s σ H R I (i σ H R Y)
def Sa {K:Ē} {it:abZ (List D)} {g:D->Env->Option Env} (D0:Ends) (σ:St) (H:Hp):tS K Ξ (fQ it g fs) D0 σ H->Kg (eU K Ξ it) (gD K g) (tS K Ξ fs) D0 σ H:=by
 rintro ⟨w,env,rfl,S,B,h⟩;refine⟨w,env,rfl,S,B,(Out.aj h).mono λM Y p o n J A=>?_⟩;refine⟨λi m L z=>m=Y.length-i/\i<=Y.length/\∃X V,X.H=z/\Le K M X/\aI K X/\bG K X V L/\Out K Ξ X (kO g fs (Y.drop i) V X.aw) (xH K D0),
  ⟨Y.length,rfl,ē _,M,env,rfl,Le.refl _,o,B.le p,n⟩,?_⟩
 rintro i m L z ⟨rfl,hi,X,V,rfl,U,I,v,W⟩;by_cases G:i<Y.length
 ·right
  obtain⟨l,k⟩:=(A X U I i).1 _ (Ð G);rw[Ņ G] at W;simp only[kO] at W
  cases F:g Y[i] V with
  |none=>rw[F] at W;exact W.elim
  |some u =>
   rw[F] at W;refine⟨l,fun E T=>∃Z R,Z.H=T/\Le K M Z/\aI K Z/\bG K Z R E/\Out K Ξ Z (kO g fs (Y.drop (i+1)) R Z.aw) (xH K D0),fun E T ⟨Z,R,q⟩=>⟨Y.length-(i+1),by omega,rfl,G,Z,R,q⟩,λx T y=>?_⟩;obtain⟨Z,rfl,Q,t,es,j⟩:=k x T y;refine⟨Z,V,Y[i],u,rfl,t,v.le Q,j,F,fun E f=>⟨Z,u,rfl,t,f,?_⟩⟩;rw[<- es] at W;refine(Out.aj (W.from Q)).mono λs c r P O=>?_
   cases c with
   |nx N=>exact fun b C=>⟨s,N,rfl,U.trans (Q.trans r),P,C,O⟩
   |ct N=>exact fun b C=>⟨s,N,rfl,U.trans (Q.trans r),P,C,O⟩
   |bk N=>have q:=au P O;exact q
   |rt d=>have q:=au P O;exact q
 ·left
  have e:i=Y.length:=by omega
  subst e;rw[abq] at W;exact⟨(A X U I _).2 (ab3 _),au I W L v⟩
def lW {iter:Ġ} {it:abZ (List D)} {g:D->Env->Option Env} (hp:PassesOwn (ã X.prog X.w) X.A X.env X.xe) (hc:X.calm=true) (hi:PI X tg iter (eU X.K Ξ it)) (hg:PG X tg (gD X.K g)) (hb:cS X pL (tS X.K Ξ fs))
  (hs:∀x,ü iter X.env x=pure x:=by intro _;rfl):PS X (.For tg iter pL [] pos) (tS X.K Ξ (fQ it g fs)):=jP (TH hp hc hi hg hb hs) Sa
theorem Out.ne {α:Type} {K:Ē} {w:Wd} {r:Res α} {k:Wd->α->Prop} (h:Out K Ξ w (DI.ne r) k):Out K bL w r k:=by
 match r,h with
 |some (.ok a,s),h=>exact h
def bG.block {K:Ē} {w:Wd} {env:Env} {σ:St} (h:bG K w env σ) (nt:Nat) (cap:List Nat) (o:St) (ho:o.length=nt):bG K w (Ò nt none++f6 cap env) (o++lV cap σ):=by
 refine⟨by simp[f6,lV,ho],λi d e=>?_⟩;by_cases hi:i<nt
 ·rw[Ü (by simpa using hi),ĥ,Þ hi] at e
  cases e
 ·rw[Ă (by simpa using Ű hi)] at e
  rw[Ă (by omega),ho];simp only[ζ] at e;unfold f6 at e;unfold lV;rw[í] at e |-
  cases Z:cap[i-nt]? with
  |none=>rw[Z] at e;cases e
  |some j =>
   rw[Z] at e;have ev:(env[j]?).getD none=some d:=ab4 e;have Y:env[j]?=some (some d):=by
    cases q:env[j]? with
    |none=>rw[q] at ev;cases ev
    |some z=>rw[q] at ev;exact Ľ some ev
   obtain⟨v,e1,e2⟩:=h.val j d Y;exact⟨v,by rw[θ,e1];rfl,e2⟩
def OU {K:Ē} {nt:Nat} {cap:List Nat} {it:abZ (List D)} {g:D->Env->Option Env} {fin:List D->aa->Res D} (σ:St) (H:Hp) (Q:VK)
  (Cb:∀(w2:Wd) (xs:List D) (vs:List V),aI K w2->ak K w2 xs vs->Out K Ξ w2 (fin xs w2.aw) (λw' d=>∀v,DV K w' d v->Q v w'.H)->∀p,w2.H p=none->Q (.ref p) (upd w2.H p (.lst vs))) :
  tE K Ξ (λenv s=>aj (it env s) λds s=>iN ds (aj (fX nt (f6 cap env) g ft f ds s) fin)) σ H Q->mY (eU K Ξ it) nt cap (gD K g) (tT K bL ft) (tE K bL f) σ H Q:=by
 rintro ⟨w,env,rfl,S,B,h⟩;refine⟨w,env,rfl,S,B,(Out.aj h).mono λN ds j c M J A=>?_⟩;obtain⟨hz,M⟩:=qc M;refine⟨λi m Y z=>m=ds.length-i/\i<=ds.length/\Y.length<=i/\∃w' Z,w'.H=z/\Le K N w'/\aI K w'/\ak K w' Z Y/\Out K Ξ w' (fX nt (f6 cap env) g ft f (ds.drop i) w'.aw) λw2 xs=>∀vs,ak K w2 (Z++xs) vs->∀p,w2.H p=none->Q (.ref p) (upd w2.H p (.lst vs)),
  ⟨ds.length,rfl,ē _,ē _,N,[],rfl,Le.refl _,c,rfl,(Out.aj M).mono λw2 xs W P a vs O p U=>?_⟩,?_⟩
 ·exact Cb w2 xs vs P O a p U
 rintro i m Y z ⟨rfl,hi,ha,w',Z,rfl,T,L,I,X⟩;by_cases G:i<ds.length
 ·right
  obtain⟨fL,hy⟩:=(A w' T L i).1 _ (Ð G);rw[Ņ G] at X;simp only[fX] at X
  cases F:g ds[i] (Ò nt none++f6 cap env) with
  |none=>rw[F] at X;exact X.elim
  |some E =>
   rw[F] at X;refine⟨fL,by omega,λC u=>C.length<=i+1/\∃w' Z,w'.H=u/\Le K N w'/\aI K w'/\ak K w' Z C/\Out K Ξ w' (fX nt (f6 cap env) g ft f (ds.drop (i+1)) w'.aw) λw2 xs=>∀vs,ak K w2 (Z++xs) vs->∀p,w2.H p=none->Q (.ref p) (upd w2.H p (.lst vs)),
    λC u ⟨Dc,q⟩=>⟨ds.length-(i+1),by omega,rfl,G,Dc,q⟩,λo x H3 ho y=>?_⟩
   obtain⟨w2,rfl,W,P,es,dv⟩:=hy x H3 y;refine⟨w2,_,ds[i],E,rfl,P,(B.le (j.trans (T.trans W))).block nt cap o ho,dv,F,fun lu t=>?_⟩;rw[<- es] at X;refine⟨w2,E,rfl,P,t,(Out.aj (X.from W)).ne.mono λr b R n l=>?_⟩
   cases b with
   |true =>
    refine⟨r,E,rfl,n,t.le R,(Out.aj l).ne.mono λw4 d k S4 h4 v uU=>⟨by rw[é];simp;omega,w4,Z++[d],rfl,T.trans (W.trans (R.trans k)),S4,ak.append ((W.trans (R.trans k)).all I) (ak.one uU),(Out.aj h4).mono λw5 xs l5 S5 h5 vs O p U=>?_⟩⟩;exact au S5 h5 vs (by rw[Ł] at O;exact O) p U
   |false =>
    exact⟨by omega,r,Z,rfl,T.trans (W.trans R),n,(W.trans R).all I,l⟩
 ·left
  have e:i=ds.length:=by omega
  subst e;rw[abq] at X;refine⟨(A w' T L _).2 (ab3 _),by omega,λp U=>au L X Y (by rw[þ];exact I) p U⟩
def GC {K:Ē} {nt:Nat} {cap:List Nat} {it:abZ (List D)} {g:D->Env->Option Env} (σ:St) (H:Hp) (Q:VK) :
  tE K Ξ (cB nt cap it g ft f) σ H Q->mY (eU K Ξ it) nt cap (gD K g) (tT K bL ft) (tE K bL f) σ H Q :=
 OU σ H Q λX S W V U T p Y=>T (X.grow p (.lst W)) (Fw.grow Y).le (V.grow Y) rfl (.ref p) ⟨p,W,rfl,⟨(show ¬ X.Z p from kD V Y),cu⟩,(Fw.grow Y).le.all U⟩
end
def Hs {o caps:St} {v:V} {i nt:Nat} (ho:o.length=nt) (hi:i<nt):(o++caps).set i (some v)=o.set i (some v)++caps:=by
 rw[List.set_append_left _ _ (by omega)]
def OV {i nt:Nat} (hi:i<nt):mv (lU i) nt:=by
 intro x o Z H R Y h;exact⟨⟨o.set i (some x),by rw[Č];exact Y,Hs Y hi⟩,h⟩
def t6 (g:iW) (nt:Nat):Prop:=∀(Y:List V) (o Z:St) (H:Hp) (R:St->Hp->Prop),o.length=nt->g Y (o++Z) H R->g Y (o++Z) H fun X U=>(∃W:St,W.length=nt/\X=W++Z)/\R X U
def Qo:t6 BV nt:=λX o Z H R Y h=>⟨h.1,⟨o,Y,rfl⟩,h.2⟩
def OW {i nt:Nat} {g:iW} (hi:i<nt) (hg:t6 g nt):t6 (Bg (lU i) g) nt:=by
 rintro X o Z H R Y ⟨v,r,e,h⟩;refine⟨v,r,e,?_⟩;have h:g r ((o++Z).set i (some v)) H R:=h;show g r ((o++Z).set i (some v)) H _;rw[Hs Y hi] at h |-;exact hg r _ Z H R (by rw[Č];exact Y) h
def Qp (hg:t6 g nt):mv (BW K n g) nt:=by
 rintro x o Z H R X ⟨a,Y,e,W,V,h⟩;exact⟨a,Y,e,W,V,hg Y o Z H R X h⟩
structure Tg (K:Ē) (g0:TG) (g:D->Env->Option Env) (nt:Nat):Prop where
 kj:mv g0 nt
 imp:∀v σ H Q,gD K g v σ H Q->g0 v σ H Q
structure yq (K:Ē) (g0:iW) (g:List (D->Env->Option Env)) (nt:Nat):Prop where
 kj:t6 g0 nt
 imp:∀v σ H Q,rD K (fP g) v σ H Q->g0 v σ H Q
def qo (i:Nat) (hi:i<nt:=by decide):Tg K (lU i) (gN i) nt:=⟨OV hi,λv σ H Q Z=>by
 obtain⟨w,env,d,Y,U,S,X,W,V,k⟩:=Z;have e:env.set i (some d)=Y:=ab4 V;subst e;exact k _ (X.set W i)⟩
def Aj:yq K BV [] nt:=⟨Qo,λT σ H Q X=>by
 obtain⟨w,env,Z,W,R,S,V,U,Y,k⟩:=X
 cases Z with
 |nil =>
  have e:env=W:=ab4 Y;subst e;exact⟨U,k _ V⟩
 |cons d Z=>cases Y⟩
def qd (i:Nat) (h:yq K g0 gl nt) (hi:i<nt:=by decide):yq K (Bg (lU i) g0) (gN i::gl) nt:=⟨OW hi h.kj,λP σ H Q X=>by
 obtain⟨w,env,Z,W,V,S,U,T,Y,k⟩:=X
 cases Z with
 |nil=>cases Y
 |cons d Z =>
  obtain⟨v,r,rfl,R,dr⟩:=T;exact⟨v,r,rfl,h.imp _ _ _ _ ⟨w,_,Z,W,V,S,U.set R i,dr,Y,k⟩⟩⟩
def AI (h:yq K g0 gl nt) (hn:gl.length=n:=by rfl):Tg K (BW K n g0) (gT gl) nt:=⟨Qp h.kj,λv σ H Q W=>by
 obtain⟨w,env,d,V,U,S,T,Y,Z,k⟩:=W
 cases d with
 |tup R =>
  simp only[DV] at Y;obtain⟨p,P,e1,O,X⟩:=Y;subst U;exact⟨p,P,e1,O,by rw[<- X.length,vQ Z];exact hn,h.imp _ _ _ _ ⟨w,env,R,V,rfl,S,T,X,Z,k⟩⟩
 |_=>cases Z⟩
section
variable {X:Cx} {Ξ:Wd->aT->Prop} {e a b c tg el src:Ġ} {es rest tests:List Ġ} {pos:Pos} {f g h:abZ D} {fa:abZ (List D)} {ft gt:abZ Bool} {st:abM} {pL Ca:List abM} {fs gs:abZ Fl}
def Um (h:PF X tests t) (i:∀ σ H Q,t' σ H Q->t σ H Q):PF X tests t':=λZ s σ H Q I Y=>h Z s σ H Q I (i σ H Q Y)
def fC:PF X [] (tT K Ξ dh):=Um Ua fun σ H Q Z=>by
 obtain⟨w,env,Y,S,W,h⟩:=Z;subst Y;exact au S h
def tj (h:PT X c (tT K Ξ ft)):PF X [c] (tT K Ξ ft):=Ub h
def zd (i_:∀v σ H Q,g1 v σ H Q->g0 v σ H Q) (wm:∀R R':It->Hp->Prop,(∀J H',R J H'->R' J H')->wi σ H R->wi σ H R') (h:mY wi nt cap g1 tf te σ H Q):mY wi nt cap g0 tf te σ H Q:=by
 refine wm _ _ (λJ H' Y=>?_) h;obtain⟨W,X,step⟩:=Y;refine⟨W,X,λi m Z V hw=>?_⟩
 rcases step i m Z V hw with q | ⟨U,T,N,S,P⟩
 ·exact .inl q
 ·exact .inr ⟨U,T,N,S,λo x O M y=>i_ _ _ _ _ (P o x O M y)⟩
def GD (R R':It->Hp->Prop) (i:∀J H',R J H'->R' J H') (h:eU K Ξ it σ H R):eU K Ξ it σ H R':=by
 obtain⟨w,env,Z,S,Y,h⟩:=h;exact⟨w,env,Z,S,Y,h.mono λV U _ _ X J W=>i J _ (X J W)⟩
def cO (f:abZ D):abZ (List D):=λenv s=>aj (f env s) λd s=>match d with
 | .lst Z=>ok Z s
 | .tup Z=>ok Z s
 |_=>none
def Qq {K:Ē} {w:Wd} {a:Ú} {ds:List D} (h:DV K w (.lst ds) (.ref a)):pM K w (CF K a) ds:=λV U T i=>by
 have X:=U _ _ h;simp only[DV] at X;obtain⟨p,Z,e,Y,W⟩:=X;cases e;refine⟨λd S=>?_,λR=>⟨Z,Y.sq,by rw[<- W.length];exact R⟩⟩;obtain⟨v,ev,Q⟩:=W.get' i d S;exact⟨⟨Z,v,Y.sq,ev⟩,λx P ⟨e1,e2⟩=>⟨V,e1.symm,Le.refl _,T,rfl,by
  have q:=e2 Z Y.sq;rw[ev] at q;cases q;exact Q⟩⟩
def Sb {K:Ē} {w:Wd} {a:Ú} {ds:List D} (h:DV K w (.tup ds) (.ref a)):pM K w (CG K a) ds:=λV U T i=>by
 have X:=U _ _ h;simp only[DV] at X;obtain⟨p,Z,e,Y,W⟩:=X;cases e;refine⟨λd S=>?_,λR=>⟨Z,Y,by rw[<- W.length];exact R⟩⟩;obtain⟨v,ev,Q⟩:=W.get' i d S;exact⟨⟨Z,v,Y,ev⟩,λx P ⟨e1,e2⟩=>⟨V,e1.symm,Le.refl _,T,rfl,by
  have q:=e2 Z Y;rw[ev] at q;cases q;exact Q⟩⟩
def gF (hl:PE X a (tE X.K Ξ f)):PI X tg a (eU X.K Ξ (cO f)):=by
 have both:PI X tg a (fun σ H R=>Ji X.K (tE X.K Ξ f) σ H R\/Kf X.K (tE X.K Ξ f) σ H R):=λN s σ H R I h=>h.elim (RK hl N s σ H R I) (TF hl N s σ H R I);refine sH both fun σ H R ⟨w,env,M,S,W,h⟩=>?_;subst M;simp only[cO] at h
 cases Y:f env w.aw with
 |none=>rw[Y] at h;exact h.elim
 |some r =>
  obtain⟨r,s⟩:=r;rw[Y] at h
  cases r with
  |error x=>exact .inl ⟨w,env,rfl,S,W,by rw[Y];exact h⟩
  |ok d =>
   rw[dH] at h
   cases d with
   |lst L =>
    refine .inl ⟨w,env,rfl,S,W,?_⟩;rw[Y];intro V U T e1 v Z;have Q:=Z;simp only[DV] at Z;obtain⟨p,P,rfl,O,J⟩:=Z;exact⟨p,rfl,⟨P,O.sq⟩,h V U T e1 _ (Qq Q)⟩
   |tup L =>
    refine .inr ⟨w,env,rfl,S,W,?_⟩;rw[Y];intro V U T e1 v Z;have Q:=Z;simp only[DV] at Z;obtain⟨p,P,rfl,O,J⟩:=Z;exact⟨p,rfl,⟨P,O⟩,h V U T e1 _ (Sb Q)⟩
   |_=>exact h.elim
noncomputable def cj (lo:Int) (n:Nat):List D:=(Ā n).map λ(i:Nat)=>D.int (lo+(i:Int))
def mL:(cj lo n)[i]?=if i<n then some (.int (lo+i)) else none:=by
 unfold cj;rw[í];by_cases h:i<n
 ·rw[abB h,Þ h];rfl
 ·rw[İ (by simp;omega),ì h];rfl
def jJ:(cj lo n).length=n:=by simp[cj]
def Ht:pM K w (uz lo n) (cj lo n):=λX V W i=>by
 refine⟨λd Z=>?_,λY=>by rw[jJ] at Y;exact Y⟩;rw[mL] at Z;split at Z
 ·cases Z
  exact⟨by assumption,λx U ⟨e1,e2⟩=>⟨X,e1.symm,Le.refl _,W,rfl,e2⟩⟩
 ·cases Z
noncomputable def kP (j:Int):Bool:=decide (-(2 ^ 62)<=j)&&decide (j<2 ^ 62)
def dM (fa:abZ (List D)):abZ (List D):=λenv s=>aj (fa env s) λZ s=>match Z with
 | [.int j]=>if kP j=true then ok (cj 0 j.toNat) s else none
 |_=>none
def yr (fa:abZ (List D)):abZ (List D):=λenv s=>aj (fa env s) λZ s=>match Z with
 | [.int i,.int j]=>if (kP i&&kP j)=true then ok (cj i (j-i).toNat) s else none
 |_=>none
def jf (hg:Gl X "range") (hm:X.mg "range"=none) (ha:PA X [a] (tA X.K Ξ fa)) (hs:Ë [a] X.env=[(false,ļ a X.env)]:=by rfl):PI X tg (.Call (.Name "range" p) [a] [] pos) (eU X.K Ξ (dM fa)) :=
 sH (OF hg hm ha hs) fun σ H R W=>by
  obtain⟨w,env,V,S,U,h⟩:=W;subst V;refine⟨w,env,rfl,S,U,(Out.aj h).mono λO N M T Z L Q=>?_⟩;split at Z
  ·rename_i j
   split at Z
   ·rename_i Y
    simp only[kP,Æ,Ê] at Y;obtain⟨v,r,rfl,P,dr⟩:=Q;have e1:v=.int j:=P;have e2:r=[]:=dr;subst e1 e2;exact⟨j,rfl,Y.1,Y.2,au T Z _ Ht⟩
   ·exact Z.elim
  ·exact Z.elim
def Uo {p:Pos} (hg:Gl X "range") (hm:X.mg "range"=none) (ha:PA X [a,b] (tA X.K Ξ fa)) (hs:Ë [a,b] X.env=[(false,ļ a X.env),(false,ļ b X.env)]:=by rfl) (cX:Ë [b] X.env=[(false,ļ b X.env)]:=by rfl):PI X tg (.Call (.Name "range" p) [a,b] [] pos) (eU X.K Ξ (yr fa)) :=
 sH (OG hg hm ha hs cX) fun σ H R W=>by
  obtain⟨w,env,V,S,U,h⟩:=W;subst V;refine⟨w,env,rfl,S,U,(Out.aj h).mono λL J I T Z G Q=>?_⟩;split at Z
  ·rename_i i j
   split at Z
   ·rename_i Y
    simp only[kP,Æ,Ê] at Y;obtain⟨v,r,rfl,P,v2,O,rfl,N,dr⟩:=Q;have e1:v=.int i:=P;have e2:v2=.int j:=N;have M:O=[]:=dr;subst e1 e2 M;exact⟨i,j,rfl,⟨Y.1.1,Y.1.2,Y.2.1,Y.2.2⟩,au T Z _ Ht⟩
   ·exact Z.elim
  ·exact Z.elim
noncomputable def fk (xs ys:List D):List D:=(xs.zip ys).map λp=>.tup [p.1,p.2]
def GF {i:Nat} (h:(fk xs ys)[i]?=some d):∃x y,xs[i]?=some x/\ys[i]?=some y/\d=.tup [x,y]:=by
 unfold fk at h;rw[í] at h
 cases Z:(xs.zip ys)[i]? with
 |none=>rw[Z] at h;cases h
 |some p =>
  rw[Z] at h;obtain⟨Y,X⟩:=List.getElem?_zip_eq_some.mp Z;exact⟨p.1,p.2,Y,X,(ab4 h).symm⟩
def si:(fk xs ys).length=min xs.length ys.length:=by simp[fk]
def Gb (S':aI K w') (hp:w'.H p=none) (h1:DV K w' d x) (h2:DV K w' d2 y) :
  ∃w2,w2.H=upd w'.H p (.tup [x,y])/\Le K w' w2/\aI K w2/\w2.aw=w'.aw/\DV K w2 (.tup [d,d2]) (.ref p) :=
 ⟨w'.grow p (.tup [x,y]),rfl,(Fw.grow hp).le,S'.grow hp,rfl,p,[x,y],rfl,bp.of cu,(Fw.grow hp).le.all (ak.two h1 h2)⟩
@[reducible] noncomputable def Dd:Bool->List D->D
 |true=>.tup
 |false=>.lst
def Js {K:Ē} {w:Wd} {a:Ú} {ds:List D}:∀{k},DV K w (Dd k ds) (.ref a)->∃xs,i4 k K w.H a xs/\ak K w ds xs
 |true,h=>by
  simp only[DV] at h;obtain⟨p,xs,e,Z,Y⟩:=h;cases e;exact⟨xs,Z,Y⟩
 |false,h=>by
  simp only[DV] at h;obtain⟨p,xs,e,Z,Y⟩:=h;cases e;exact⟨xs,Z.sq,Y⟩
def Qr {k l:Bool} {K:Ē} {w:Wd} {a b:Ú} {ds es:List D} (h:DV K w (Dd k ds) (.ref a)) (g:DV K w (Dd l es) (.ref b)):pM K w (tY k l K a b) (fk ds es):=λF V P i=>by
 obtain⟨Z,Y,U⟩:=Js (V _ _ h);obtain⟨X,W,T⟩:=Js (V _ _ g);refine⟨λd O=>?_,λN=>⟨Z,X,Y,W,?_⟩⟩
 ·obtain⟨x,y,e1,e2,rfl⟩:=GF O
  obtain⟨v,ev,M⟩:=U.get' i x e1;obtain⟨u,S,L⟩:=T.get' i y e2;refine⟨⟨Z,X,v,u,Y,W,ev,S⟩,λz E ⟨r,C,y1,J,I,H,G⟩=>?_⟩;obtain⟨R,Q⟩:=G Z X Y W;rw[ev] at R;rw[S] at Q;cases R;cases Q;subst I H;exact Gb P J M L
 ·rw[si] at N
  have:=U.length;have:=T.length;omega
def GH {K:Ē} {w:Wd} {a b:Ú} {ds es:List D} (h:DV K w (.tup ds) (.ref a)) (g:DV K w (.tup es) (.ref b)):pM K w (Xo K a b) (fk ds es):=Qr (k:=true) (l:=true) h g
def o9 (fa:abZ (List D)):abZ (List D):=λenv s=>aj (fa env s) λZ s=>match Z with
 | [.tup Y,.tup X]=>ok (fk Y X) s
 |_=>none
def V1 {p:Pos} {elts:List Ġ} {kk:Nat} {oZ:Pos} (hg:Gl X "zip") (hm:X.mg "zip"=none) (ha:PA X [a,b] (tA X.K Ξ fa)) (hs:Ë [a,b] X.env=[(false,ļ a X.env),(false,ļ b X.env)]:=by rfl) (cX:Ë [b] X.env=[(false,ļ b X.env)]:=by rfl) :
  PI X (.Tuple elts kk oZ) (.Call (.Name "zip" p) [a,b] [] pos) (eU X.K Ξ (o9 fa)):=by
 refine sH (Ab hg hm ha hs cX) fun σ H R U=>?_;obtain⟨w,env,T,S,Q,h⟩:=U;subst T;refine⟨w,env,rfl,S,Q,(Out.aj h).mono λF E D P h C O=>?_⟩;split at h
 ·obtain⟨v,r,rfl,Z,v2,N,rfl,Y,dr⟩:=O
  have M:N=[]:=dr;subst M;have W:=Z;have V:=Y;simp only[DV] at W V;obtain⟨p,L,rfl,J,_⟩:=W;obtain⟨q,I,rfl,G,_⟩:=V;exact⟨p,q,L,I,rfl,J,G,au P h _ (GH Z Y)⟩
 ·exact h.elim
def aD (fn:List D->aa->Res D) (fa:abZ (List D)):abZ D:=λenv s=>aj (fa env s) λZ s=>ne (fn Z s)
def wK {k:Nat} {fA:Ú} {fd:ĝ} {nN:List Str} {fn:List D->aa->Res D} {x:Str} {p:Pos} (F:cR X.prog X.w X.K X.mg X.base dg k fA fd nN (i5 X.K fn)) (hr:bP k X.A) (hg:Gl X x) (hm:X.mg x=some (.ref fA)) (hk:ı X.K (.ref fA)=true) (hb:Binds X.K fd nN [])
  (ha:PA X (e::es) (tA X.K Ξ fa)) (df:(x==("__debug__":Str))=false:=by decide) (he:Ë (e::es) X.env=(false,ļ e X.env)::Ë es X.env:=by rfl) (bw:(Ħ pos (Ë es X.env)).any (·.1)=false:=by rfl) :
  PE X (.Call (.Name x p) (e::es) [] pos) (tE X.K Ξ (aD fn fa)):=cg (zY F hr hg hm hk hb .nil VP ha df he bw) fun σ H Q Y=>by
 obtain⟨w,env,W,S,V,h⟩:=Y;subst W;refine⟨w,env,rfl,S,V,(Out.aj h).mono λZ U N T R P O=>?_⟩;show i5 X.K fn (P++[]) Z.H Q E0;rw[þ];exact⟨Z,U,rfl,T,O,R.ne⟩
def ak.env (h:ak K w ds vs) (n:Nat):bG K w (ds.map some++Ò (n-ds.length) none) (vs.map some++Ò (n-vs.length) none):=by
 have Y:=h.length;refine⟨by simp[Y],λi d e=>?_⟩;by_cases hi:i<ds.length
 ·rw[Ü (by simpa using hi),í] at e
  rw[Ü (by simp;omega),í]
  cases Z:ds[i]? with
  |none=>rw[Z] at e;cases e
  |some W =>
   rw[Z] at e;cases e;obtain⟨v,ev,X⟩:=h.get' i d Z;exact⟨v,by rw[ev];rfl,X⟩
 ·rw[Ă (by simpa using Ű hi),ĥ] at e
  split at e<;>cases e
end
def Jt (F:pG K x qual st f fd) (S:oo N ps (cG st))
 (hb:∀(aS:Å) (A:î) (outer:List PySem.Env) (s:Ä) (H:Hp) (E:XK),bP k (A.deeper (Ń qual (cG st) s.heap.objs.size f aS))->cS (gR dg P w K mg base N qual (cG st) f aS A outer s H E).mq (ie st) (tS K bL b)) :
  cR P w K mg base dg (k+1) f fd ps (i5 K (aM ps.length N.length b)):=by
 refine F.ok S (λW H Q E h=>?_) (λaS A outer s H W Q E V h=>?_)
 ·obtain⟨w,U,rfl,S,Y,h⟩:=h
  rw[<- Y.length];unfold aM at h;split at h
  ·assumption
  ·exact h.elim
 ·obtain⟨w,U,rfl,S,Y,h⟩:=h
  refine⟨_,hb aS A outer s w.H E V,?_⟩;unfold aM at h;split at h
  ·rename_i T
   rw[<- T] at h;refine⟨w,_,rfl,S,Y.env N.length,(Out.aj h).mono λO R M X Z=>?_⟩
   cases R with
   |nx env=>intro L _;exact au X Z _ rfl
   |rt d=>have q:=au X Z;exact q
   |bk env=>exact Z.elim
   |ct env=>exact Z.elim
  ·exact h.elim
mutual
noncomputable def py:D->aaG
 | .ao=>.none
 | .bl b=>.bool b
 | .int i=>.int i
 | .str x=>.str x
 | .tup Z=>.tuple (eV Z)
 | .lst Z=>.list (eV Z)
 | .bK Y=>.dict (Y.map λp=>(tX p.1,PyData.int p.2))
 | .az _=>.none
 | .ty _=>.none
 | .bJ _=>.none
 | .exc _ _=>.none
 | .cA _ _ _=>.none
noncomputable def eV:List D->List aaG
 | []=>[]
 |d::Z=>py d::eV Z
end
mutual
noncomputable def plain:D->Bool
 | .ao=>true
 | .bl _=>true
 | .int _=>true
 | .str _=>true
 | .tup Z=>oy Z
 | .lst Z=>oy Z
 | .bK _=>true
 | .az _=>false
 | .ty _=>false
 | .bJ _=>false
 | .exc _ _=>false
 | .cA _ _ _=>false
noncomputable def oy:List D->Bool
 | []=>true
 |d::Z=>plain d&&oy Z
end
mutual
noncomputable def lay:D->Bool
 | .ao=>true
 | .bl _=>true
 | .int _=>true
 | .str x=>abk x
 | .tup Z=>c9 Z
 | .lst Z=>c9 Z
 | .bK _=>false
 | .az _=>false
 | .ty _=>false
 | .bJ _=>false
 | .exc _ _=>false
 | .cA _ _ _=>false
noncomputable def c9:List D->Bool
 | []=>true
 |d::Z=>lay d&&c9 Z
end
mutual
noncomputable def dep:D->Nat
 | .tup Z=>dB Z+1
 | .lst Z=>dB Z+1
 | .bK Y=>1
 | .ao=>0
 | .bl _=>0
 | .int _=>0
 | .str _=>0
 | .az _=>0
 | .ty _=>0
 | .bJ _=>0
 | .exc _ _=>0
 | .cA _ _ _=>0
noncomputable def dB:List D->Nat
 | []=>0
 |d::Z=>max (dep d) (dB Z)
end
mutual
noncomputable def beq:D->D->Bool
 | .ao,.ao=>true
 | .bl a,.bl b=>a==b
 | .bl a,.int j=>(if a then 1 else 0)==j
 | .int i,.bl b=>i==(if b then 1 else 0)
 | .int i,.int j=>i==j
 | .str x,.str y=>x==y
 | .tup Z,.tup Y=>fG Z Y
 | .lst Z,.lst Y=>fG Z Y
 |_,_=>false
noncomputable def fG:List D->List D->Bool
 | [],[]=>true
 |x::Z,y::Y=>beq x y&&fG Z Y
 |_,_=>false
end
mutual
theorem og:∀(d:D),lay d=true->plain d=true
 | .ao,_=>rfl
 | .bl _,_=>rfl
 | .int _,_=>rfl
 | .str _,_=>rfl
 | .tup Z,h=>by simp only[lay,plain] at h |-;exact nZ Z h
 | .lst Z,h=>by simp only[lay,plain] at h |-;exact nZ Z h
 | .bK _,h=>by simp[lay] at h
 | .az _,h=>by simp[lay] at h
 | .ty _,h=>by simp[lay] at h
 | .bJ _,h=>by simp[lay] at h
 | .exc _ _,h=>by simp[lay] at h
 | .cA _ _ _,h=>by simp[lay] at h
theorem nZ:∀(ds:List D),c9 ds=true->oy ds=true
 | [],_=>rfl
 |d::ds,h=>by
  simp only[c9,oy,Æ] at h |-;exact⟨og d h.1,nZ ds h.2⟩
end
mutual
theorem jQ:∀(d:D),lay d=true->(py d).canLay0=true/\(py d).depth=dep d
 | .ao,_=>⟨rfl,by simp[py,dep,PyData.depth]⟩
 | .bl _,_=>⟨rfl,by simp[py,dep,PyData.depth]⟩
 | .int _,_=>⟨rfl,by simp[py,dep,PyData.depth]⟩
 | .str _,h=>⟨h,by simp[py,dep,PyData.depth]⟩
 | .tup Z,h=>by
  obtain⟨Y,X⟩:=sj Z (by simpa [lay] using h);simp only[py,dep,PyData.depth,PyData.canLay0];exact⟨Y,by rw[X]⟩
 | .lst Z,h=>by
  obtain⟨Y,X⟩:=sj Z (by simpa [lay] using h);simp only[py,dep,PyData.depth,PyData.canLay0];exact⟨Y,by rw[X]⟩
 | .bK _,h=>by simp[lay] at h
 | .az _,h=>by simp[lay] at h
 | .ty _,h=>by simp[lay] at h
 | .bJ _,h=>by simp[lay] at h
 | .exc _ _,h=>by simp[lay] at h
 | .cA _ _ _,h=>by simp[lay] at h
theorem sj:∀(ds:List D),c9 ds=true->PyData.canLayAll0 (eV ds)=true/\Ŋ (eV ds)=dB ds
 | [],_=>⟨rfl,rfl⟩
 |d::ds,h=>by
  simp only[c9,Æ] at h;obtain⟨a1,a2⟩:=jQ d h.1;obtain⟨Z,Y⟩:=sj ds h.2;simp only[eV,dB,PyData.canLayAll0,Ŋ,a1,Z,a2,Y,Ĭ,ņ]
end
mutual
theorem qA:∀(d e:D),lay d=true->lay e=true->ġ (py d) (py e)=beq d e
 | .tup Z,.tup Y,h,g=>by
  simp only[py,beq,ġ];exact zA Z Y (by simpa [lay] using h) (by simpa [lay] using g)
 | .lst Z,.lst Y,h,g=>by
  simp only[py,beq,ġ];exact zA Z Y (by simpa [lay] using h) (by simpa [lay] using g)
 | .ao,e,_,g=>by cases e<;>simp_all [py,beq,ġ,lay]
 | .bl _,e,_,g=>by cases e<;>simp_all [py,beq,ġ,lay]
 | .int _,e,_,g=>by cases e<;>simp_all [py,beq,ġ,lay]
 | .str _,e,_,g=>by cases e<;>simp_all [py,beq,ġ,lay]
 | .tup _,.ao,_,_=>by simp[py,beq,ġ]
 | .tup _,.bl _,_,_=>by simp[py,beq,ġ]
 | .tup _,.int _,_,_=>by simp[py,beq,ġ]
 | .tup _,.str _,_,_=>by simp[py,beq,ġ]
 | .tup _,.lst _,_,_=>by simp[py,beq,ġ]
 | .lst _,.ao,_,_=>by simp[py,beq,ġ]
 | .lst _,.bl _,_,_=>by simp[py,beq,ġ]
 | .lst _,.int _,_,_=>by simp[py,beq,ġ]
 | .lst _,.str _,_,_=>by simp[py,beq,ġ]
 | .lst _,.tup _,_,_=>by simp[py,beq,ġ]
 | .bK _,_,h,_=>by simp[lay] at h
 | .az _,_,h,_=>by simp[lay] at h
 | .ty _,_,h,_=>by simp[lay] at h
 | .bJ _,_,h,_=>by simp[lay] at h
 | .exc _ _,_,h,_=>by simp[lay] at h
 | .cA _ _ _,_,h,_=>by simp[lay] at h
 |_,.bK _,_,h=>by simp[lay] at h
 |_,.az _,_,h=>by simp[lay] at h
 |_,.ty _,_,h=>by simp[lay] at h
 |_,.bJ _,_,h=>by simp[lay] at h
 |_,.exc _ _,_,h=>by simp[lay] at h
 |_,.cA _ _ _,_,h=>by simp[lay] at h
theorem zA:∀(ds es:List D),c9 ds=true->c9 es=true->PyData.eqvAll (eV ds) (eV es)=fG ds es
 | [],[],_,_=>rfl
 | [],_::_,_,_=>rfl
 |_::_,[],_,_=>rfl
 |d::ds,e::es,h,g=>by
  simp only[c9,Æ] at h g;simp only[eV,fG,PyData.eqvAll,qA d e h.1 g.1,zA ds es h.2 g.2]
end
mutual
theorem DV.py:∀{d:D} {v:V},DV K w d v->plain d=true->L2.DV K (λ_=>False) w.H (DI.py d) v
 | .ao,_,h,_=>h
 | .bl _,_,h,_=>h
 | .int _,_,h,_=>h
 | .str _,_,h,_=>h
 | .tup X,v,h,p=>by
  simp only[DV] at h;obtain⟨a,Y,e,Z,r⟩:=h;simp only[DI.py,L2.DV];exact⟨a,Y,e,Z,ak.py r (by simpa [plain] using p)⟩
 | .lst X,v,h,p=>by
  simp only[DV] at h;obtain⟨a,Y,e,Z,r⟩:=h;simp only[DI.py,L2.DV];exact⟨a,Y,e,not_false,Z.2,ak.py r (by simpa [plain] using p)⟩
 | .bK W,v,h,p=>by
  simp only[DV] at h;obtain⟨a,e,U,Z⟩:=h;simp only[DI.py,L2.DV];exact⟨a,_,e,not_false,Z,W,rfl,rfl⟩
 | .az _,_,_,p=>by simp[plain] at p
 | .ty _,_,_,p=>by simp[plain] at p
 | .bJ _,_,_,p=>by simp[plain] at p
 | .exc _ _,_,_,p=>by simp[plain] at p
 | .cA _ _ _,_,_,p=>by simp[plain] at p
theorem ak.py:∀{ds:List D} {vs:List V},ak K w ds vs->oy ds=true->L2.ak K (λ_=>False) w.H (DI.eV ds) vs
 | [],_,h,_=>h
 |d::ds,vs,h,p=>by
  simp only[ak] at h;obtain⟨v,r,e,Z,Y⟩:=h;simp only[oy,Æ] at p;exact⟨v,r,e,DV.py Z p.1,ak.py Y p.2⟩
end
def res (d:D) (s:aa):D:=match d with
 | .az k=>match s[k]? with
  |some (.lst Z)=>.lst Z
  |_=>d
 |_=>d
theorem DV.res (S:aI K w) (h:DV K w d v) (p:plain (DI.res d w.aw)=true):L2.DV K (λ_=>False) w.H (DI.py (DI.res d w.aw)) v:=by
 cases d with
 |az k =>
  unfold DI.res at p |-;simp only at p |-
  split at p<;>rename_i Z
  ·rename_i V
   obtain⟨a,e1,rfl⟩:=h;obtain⟨Y,X,W⟩:=S.cell k a _ e1 Z;simp only[DI.py,L2.DV];exact⟨a,Y,rfl,not_false,X,W.py (by simpa [plain] using p)⟩
  ·simp[plain] at p
 |_=>exact h.py p
noncomputable def mB:D->Bool
 | .str _=>true
 |_=>false
def Uq (h:mB d=true):∃x,d=.str x:=by cases d<;>first|exact⟨_,rfl⟩|cases h
def jj (x y:D):Option Bool:=if (mB x&&mB y)=true then some (beq x y) else if (lay x&&lay y&&decide (min (dep x) (dep y)<=100))=true then some (beq x y) else none
def aY (x y:D) (s:aa):Res D:=match jj (res x s) (res y s) with
 |some b=>ok (.bl b) s
 |none=>none
def dW (x y:D) (s:aa):Res D:=match jj (res x s) (res y s) with
 |some b=>ok (.bl (!b)) s
 |none=>none
def Hu (S:aI K w) (hx:DV K w x v) (hy:DV K w y u) (h:jj (res x w.aw) (res y w.aw)=some b) :
  (BZ v u=true/\decide (v=u)=b)\/∃(d e:aaG),L2.DV K (λ_=>False) w.H d v/\L2.DV K (λ_=>False) w.H e u/\d.canLay0=true/\e.canLay0=true/\min d.depth e.depth<=100/\ġ d e=b:=by
 have str:∀{d:D} {v:V},mB (res d w.aw)=true->DV K w d v->∃x,res d w.aw=.str x/\v=.str x:=λ{d v} hs W=>by
  obtain⟨x,e⟩:=Uq hs
  cases d with
  |str y=>cases e;exact⟨x,rfl,W⟩
  |az k =>
   unfold res at e;simp only at e
   split at e<;>cases e
  |_=>cases e
 unfold jj at h;split at h
 ·rename_i hs
  rw[Æ] at hs;obtain⟨a,U,rfl⟩:=str hs.1 hx;obtain⟨c,T,rfl⟩:=str hs.2 hy;rw[U,T] at h;exact .inl ⟨rfl,by rw[<- ab4 h];exact zX⟩
 split at h
 ·rename_i X
  right;simp only[Æ,Ê] at X;obtain⟨⟨Z,Y⟩,R⟩:=X;obtain⟨Q,P⟩:=jQ _ Z;obtain⟨O,N⟩:=jQ _ Y;exact⟨_,_,hx.res S (og _ Z),hy.res S (og _ Y),Q,O,by rw[P,N];exact R,by rw[qA _ _ Z Y];exact ab4 h⟩
 ·cases h
section
variable {X:Cx} {Ξ:Wd->aT->Prop}
def de (hr:bP k X.A):bt X (Ė .Eq) (rO X.K Ξ aY):=by
 rintro W s σ H x y v u Q I V U ⟨w,J,G,rfl,S,T,R,h⟩;unfold aY at h;split at h
 ·rename_i b P
  rcases Hu S T R P with ⟨Z,Y⟩ | ⟨d,e,Z,Y,O,N,M,L⟩
  ·exact VD W s σ w.H x y v u Q I V U ⟨Z,by rw[Y];exact au S h _ rfl⟩
  exact Ue hr W s σ w.H x y v u Q I V U ⟨d,e,_,Z,Y,O,N,M,by simp only[Â,ä];rw[L];exact au S h _ rfl⟩
 ·exact h.elim
def kS (hr:bP k X.A):bt X (Ė .NotEq) (rO X.K Ξ dW):=by
 rintro W s σ H x y v u Q I V U ⟨w,J,G,rfl,S,T,R,h⟩;unfold dW at h;split at h
 ·rename_i b P
  rcases Hu S T R P with ⟨Z,Y⟩ | ⟨d,e,Z,Y,O,N,M,L⟩
  ·exact Jj W s σ w.H x y v u Q I V U ⟨Z,by rw[Y];exact au S h _ rfl⟩
  exact Ug hr W s σ w.H x y v u Q I V U ⟨d,e,_,Z,Y,O,N,M,by simp only[ô];rw[L];exact au S h _ rfl⟩
 ·exact h.elim
end
end DI
namespace DI
open PySem L2
def bM (r:Option D) (s:aa):Res D:=match r with
 |some d=>ok d s
 |none=>none
def fc (h:Out K Ξ w (bM r w.aw) k):∃d,r=some d/\Out K Ξ w (ok d w.aw) k:=by
 unfold bM at h;split at h
 ·exact⟨_,rfl,h⟩
 ·exact h.elim
noncomputable def l7 (xs ys:List D):Bool:=decide (xs.length+ys.length<=Ñ)
def qS:D->D->Option D
 | .int i,.int j=>some (.int (i+j))
 | .tup Z,.tup Y=>if l7 Z Y=true then some (.tup (Z++Y)) else none
 | .lst Z,.lst Y=>if l7 Z Y=true then some (.lst (Z++Y)) else none
 | .str x,.str y=>if decide (x.length+y.length<=Ñ)=true then some (.str (x++y)) else none
 |_,_=>none
def bO (x y:D) (s:aa):Res D:=bM (qS (res x s) (res y s)) s
noncomputable def Ks:D->D->Option D
 | .int i,.int j=>some (.int (i-j))
 |_,_=>none
def tm (x y:D) (s:aa):Res D:=bM (Ks x y) s
noncomputable def tu (i j:Int):Bool:=(decide (-(2 ^ 64)<i)&&decide (i<2 ^ 64))||(decide (-(2 ^ 64)<j)&&decide (j<2 ^ 64))
def Cc:D->D->Option D
 | .int i,.int j=>if tu i j=true then some (.int (i*j)) else none
 | .tup Z,.int k=>if (!Z.isEmpty&&decide (1<=k)&&decide (Z.length*k.toNat<=Ñ))=true then some (.tup (Ò k.toNat Z).flatten) else none
 | .lst Z,.int k=>if (decide (-(2 ^ 63)<=k)&&decide (k<2 ^ 63)&&decide (Z.length*k.toNat<=Ñ))=true then some (.lst (Ò k.toNat Z).flatten) else none
 |_,_=>none
def eQ (x y:D) (s:aa):Res D:=bM (Cc x y) s
noncomputable def Cd:D->D->Option D
 | .int i,.int j=>if decide (0<j)=true then some (.int (i % j)) else none
 |_,_=>none
def gQ (x y:D) (s:aa):Res D:=bM (Cd x y) s
noncomputable def Ce:D->D->Option D
 | .int i,.int j=>if (decide (0<j)&&decide (j<1073741824))=true then some (.int (i / j)) else none
 |_,_=>none
def oQ (x y:D) (s:aa):Res D:=bM (Ce x y) s
noncomputable def Cf:D->D->Option D
 | .int i,.int j=>if (decide (0<=j)&&decide (j<=1000000)&&decide (i.natAbs<2 ^ 64))=true then some (.int (i ^ j.toNat)) else none
 |_,_=>none
def qI (x y:D) (s:aa):Res D:=bM (Cf x y) s
noncomputable def Kt:D->Option D
 | .int i=>some (.int (-i))
 |_=>none
def tw (x:D) (s:aa):Res D:=bM (Kt x) s
theorem ak.flat (h:ak K w ds vs):∀n:Nat,ak K w (Ò n ds).flatten (Ò n vs).flatten
 |0=>rfl
 |n+1=>by
  rw[Ŀ,Ŀ,ŀ,ŀ];exact ak.append h (ak.flat h n)
def fU (S:aI K w) (h:DV K w d v) (e:res d w.aw=.lst ds):∃a xs,v=.ref a/\w.H a=some (.lst xs)/\ak K w ds xs:=by
 unfold res at e;split at e
 ·rename_i k
  split at e
  ·rename_i V Z
   cases e;obtain⟨a,e1,rfl⟩:=h;obtain⟨xs,Y,X⟩:=S.cell k a _ e1 Z;exact⟨a,xs,rfl,Y,X⟩
  ·cases e
 ·subst e
  simp only[DV] at h;obtain⟨a,xs,e,W,r⟩:=h;exact⟨a,xs,e,W.2,r⟩
def dG (h:res d s=e) (hl:∀ds,e≠.lst ds):d=e:=by
 unfold res at h;split at h
 ·split at h
  ·exact absurd h.symm (hl _)
  ·exact h
 ·exact h
section
variable {X:Cx} {Ξ:Wd->aT->Prop}
def tZ (S:aI K w) (ai:ak K w ds vs) (h:Out K Ξ w (ok (D.tup ds) w.aw) λw' d=>∀v,DV K w' d v->Q v w'.H):nr K w.H vs Q:=λa Z e Y =>
 h (w.same Z) (Fw.same e).le (S.same e) rfl (.ref a) ⟨a,vs,rfl,Y,(Fw.same e).le.all ai⟩
def xK {K:Ē} {w:Wd} {ds:List D} {vs:List V} {Q:VK} (S:aI K w) (ai:ak K w ds vs) (h:Out K Ξ w (ok (D.lst ds) w.aw) λw' d=>∀v,DV K w' d v->Q v w'.H):∀p,w.H p=none->Q (.ref p) (upd w.H p (.lst vs)):=λp Y =>
 h (w.grow p (.lst vs)) (Fw.grow Y).le (S.grow Y) rfl (.ref p) ⟨p,vs,rfl,⟨(show ¬ w.Z p from kD S Y),cu⟩,(Fw.grow Y).le.all ai⟩
def Ur {K:Ē} {w:Wd} {ds:List D} {vs:List V} {Q:VK} (S:aI K w) (ai:ak K w ds vs) (h:Out K Ξ w (ok (D.tup ds) w.aw) λw' d=>∀v,DV K w' d v->Q v w'.H):∀p,w.H p=none->Q (.ref p) (upd w.H p (.tup vs)):=λp Z =>
 h (w.grow p (.tup vs)) (Fw.grow Z).le (S.grow Z) rfl (.ref p) ⟨p,vs,rfl,bp.of cu,(Fw.grow Z).le.all ai⟩
def dI:bt X (ń .Add) (rO X.K Ξ bO):=by
 rintro T s σ H x y v u Q I R P ⟨w,J,G,rfl,S,Z,Y,h⟩;obtain⟨d,e,h⟩:=fc h;unfold qS at e;split at e
 ·rename_i i j e1 e2
  rw[dG e1 (by intro _ z;cases z)] at Z;rw[dG e2 (by intro _ z;cases z)] at Y;cases e;cases Z;cases Y;exact TJ T s σ w.H _ _ v u Q I R P ⟨i,j,rfl,rfl,au S h _ rfl⟩
 ·rename_i M L e1 e2
  rw[dG e1 (by intro _ z;cases z)] at Z;rw[dG e2 (by intro _ z;cases z)] at Y;split at e
  ·rename_i W
   cases e;simp only[DV] at Z Y;obtain⟨a,as,rfl,O,V⟩:=Z;obtain⟨b,bs,rfl,N,U⟩:=Y;exact RX T s σ w.H _ _ v u Q I R P ⟨a,b,as,bs,rfl,rfl,O,N,by rw[<- V.length,<- U.length];exact ð W,tZ S (V.append U) h⟩
  ·cases e
 ·rename_i M L e1 e2
  split at e
  ·rename_i W
   cases e;obtain⟨a,as,rfl,O,V⟩:=fU S Z e1;obtain⟨b,bs,rfl,N,U⟩:=fU S Y e2;exact T8 T s σ w.H _ _ v u Q I R P ⟨a,b,as,bs,rfl,rfl,O,N,by rw[<- V.length,<- U.length];exact ð W,xK S (V.append U) h⟩
  ·cases e
 ·rename_i i j e1 e2
  rw[dG e1 (by intro _ z;cases z)] at Z;rw[dG e2 (by intro _ z;cases z)] at Y;split at e
  ·rename_i W
   cases e;cases Z;cases Y;exact NP T s σ w.H _ _ v u Q I R P ⟨i,j,rfl,rfl,ð W,au S h _ rfl⟩
  ·cases e
 ·cases e
def V2:bt X (ń .Sub) (rO X.K Ξ tm):=by
 rintro Z s σ H x y v u Q I Y W ⟨w,T,R,rfl,S,V,U,h⟩;obtain⟨d,e,h⟩:=fc h;unfold Ks at e;split at e
 ·rename_i i j
  cases e;cases V;cases U;exact TL Z s σ w.H _ _ v u Q I Y W ⟨i,j,rfl,rfl,au S h _ rfl⟩
 ·cases e
def oR:bt X (ń .Mult) (rO X.K Ξ eQ):=by
 rintro V s σ H x y v u Q I U T ⟨w,M,L,rfl,S,Y,R,h⟩;obtain⟨d,e,h⟩:=fc h;unfold Cc at e;split at e
 ·rename_i i j
  split at e
  ·rename_i Z
   cases e;cases Y;cases R;refine TM V s σ w.H _ _ v u Q I U T ⟨i,j,rfl,rfl,?_,au S h _ rfl⟩;unfold xB;simpa [tu] using Z
  ·cases e
 ·rename_i O k
  split at e
  ·rename_i Z
   cases e;cases R;simp only[Æ,Ê] at Z;simp only[DV] at Y;obtain⟨a,as,rfl,P,W⟩:=Y;have N:=W.length;refine R9 V s σ w.H _ _ v u Q I U T ⟨a,as,k,rfl,rfl,P,?_,Z.1.2,by rw[<- N];exact Z.2,tZ S (W.flat _) h⟩;intro z;subst z
   cases O with
   |nil=>simp at Z
   |cons _ _=>cases N
  ·cases e
 ·rename_i O k
  split at e
  ·rename_i Z
   cases e;cases R;simp only[Æ,Ê] at Z;simp only[DV] at Y;obtain⟨a,as,rfl,P,W⟩:=Y;exact T9 V s σ w.H _ _ v u Q I U T ⟨a,k,as,rfl,rfl,P.2,Z.1.1,Z.1.2,by rw[<- W.length];exact Z.2,xK S (W.flat _) h⟩
  ·cases e
 ·cases e
def qJ:bt X (ń .Mod) (rO X.K Ξ gQ):=by
 rintro Z s σ H x y v u Q I Y W ⟨w,R,P,rfl,S,V,U,h⟩;obtain⟨d,e,h⟩:=fc h;unfold Cd at e;split at e
 ·rename_i i j
  split at e
  ·rename_i T
   cases e;cases V;cases U;exact TN Z s σ w.H _ _ v u Q I Y W ⟨i,j,rfl,rfl,ð T,au S h _ rfl⟩
  ·cases e
 ·cases e
def Ju:bt X (ń .FloorDiv) (rO X.K Ξ oQ):=by
 rintro Y s σ H x y v u Q I W V ⟨w,R,P,rfl,S,U,T,h⟩;obtain⟨d,e,h⟩:=fc h;unfold Ce at e;split at e
 ·rename_i i j
  split at e
  ·rename_i Z
   simp only[Æ,Ê] at Z;cases e;cases U;cases T;exact RL Y s σ w.H _ _ v u Q I W V ⟨i,j,rfl,rfl,Z,au S h _ rfl⟩
  ·cases e
 ·cases e
def Jv:bt X (ń .Pow) (rO X.K Ξ qI):=by
 rintro Y s σ H x y v u Q I W V ⟨w,R,P,rfl,S,U,T,h⟩;obtain⟨d,e,h⟩:=fc h;unfold Cf at e;split at e
 ·rename_i i j
  split at e
  ·rename_i Z
   simp only[Æ,Ê] at Z;cases e;cases U;cases T;exact TQ Y s σ w.H _ _ v u Q I W V ⟨i,j,rfl,rfl,⟨Z.1.1,Z.1.2,Z.2⟩,au S h _ rfl⟩
  ·cases e
 ·cases e
def Jw:uC X (unaryOp .USub) (rU X.K Ξ tw):=by
 rintro Z s σ H x v Q I Y ⟨w,V,rfl,S,W,h⟩;obtain⟨d,e,h⟩:=fc h;unfold Kt at e;split at e
 ·rename_i i
  cases e;cases W;exact TR Z s σ w.H _ v Q I Y ⟨i,rfl,au S h _ rfl⟩
 ·cases e
noncomputable def qT (p:Int->Int->Bool):D->D->Option D
 | .int i,.int j=>some (.bl (p i j))
 |_,_=>none
def pb (x y:D) (s:aa):Res D:=bM (qT (λi j=>decide (i<=j)) x y) s
def t9 (x y:D) (s:aa):Res D:=bM (qT (λi j=>decide (j<i)) x y) s
def ua (x y:D) (s:aa):Res D:=bM (qT (λi j=>decide (j<=i)) x y) s
def xM:bt X (Ė .LtE) (rO X.K Ξ pb):=by
 rintro Z s σ H x y v u Q I Y W ⟨w,T,R,rfl,S,V,U,h⟩;obtain⟨d,e,h⟩:=fc h;unfold qT at e;split at e
 ·rename_i i j
  cases e;cases V;cases U;exact VE Z s σ w.H _ _ v u Q I Y W ⟨i,j,rfl,rfl,au S h _ rfl⟩
 ·cases e
def Xy:bt X (Ė .Gt) (rO X.K Ξ t9):=by
 rintro Z s σ H x y v u Q I Y W ⟨w,T,R,rfl,S,V,U,h⟩;obtain⟨d,e,h⟩:=fc h;unfold qT at e;split at e
 ·rename_i i j
  cases e;cases V;cases U;exact VF Z s σ w.H _ _ v u Q I Y W ⟨i,j,rfl,rfl,au S h _ rfl⟩
 ·cases e
def Ku:bt X (Ė .GtE) (rO X.K Ξ ua):=by
 rintro Z s σ H x y v u Q I Y W ⟨w,T,R,rfl,S,V,U,h⟩;obtain⟨d,e,h⟩:=fc h;unfold qT at e;split at e
 ·rename_i i j
  cases e;cases V;cases U;exact VG Z s σ w.H _ _ v u Q I Y W ⟨i,j,rfl,rfl,au S h _ rfl⟩
 ·cases e
def nO (d i:D) (s:aa):Option D:=match res d s,i with
 | .lst Z,.int i=>dj Z i
 | .tup Z,.int i=>dj Z i
 | .bJ Y,.int i=>(dj Y i).map D.int
 | .str x,.int i=>if decide (x.length<=Ñ)=true then (dj x.cps.toList i).map λc=>.str ⟨#[c]⟩ else none
 |_,_=>none
def ar (x y:D) (s:aa):Res D:=bM (nO x y s) s
theorem ak.at (h:ak K w ds vs) (e:dj ds i=some d):∃v,dj vs i=some v/\DV K w d v:=by
 unfold dj at e |-;rw[h.length] at e
 cases hi:dY vs.length i with
 |none=>rw[hi] at e;cases e
 |some j =>
  rw[hi] at e;exact h.get' j d e
def Xz:uG X (rO X.K Ξ ar):=by
 rintro value slice T s σ H x y v u Q I R P ⟨w,B,A,rfl,S,Z,O,h⟩ hs;obtain⟨d,e,N⟩:=fc h;clear h;unfold nO at e;split at e
 ·rename_i D i e1
  cases O;obtain⟨a,M,rfl,W,L⟩:=fU S Z e1;obtain⟨z,J,G⟩:=L.at e;exact Hi value slice T s σ w.H _ _ v u Q I R P ⟨a,M,i,z,rfl,rfl,aZ.of W,J,au S N _ G⟩ hs
 ·rename_i D i e1
  cases O;rw[dG e1 (by intro _ z;cases z)] at Z;simp only[DV] at Z;obtain⟨a,M,rfl,W,L⟩:=Z;obtain⟨z,J,G⟩:=L.at e;exact TZ value slice T s σ w.H _ _ v u Q I R P ⟨a,M,i,z,rfl,rfl,W,J,au S N _ G⟩ hs
 ·rename_i U i e1
  cases O;rw[dG e1 (by intro _ z;cases z)] at Z;simp only[DV] at Z;obtain⟨a,rfl,W⟩:=Z
  cases Y:dj U i with
  |none=>rw[Y] at e;cases e
  |some n =>
   rw[Y] at e;cases e;refine Hi value slice T s σ w.H _ _ v u Q I R P ⟨a,U.map V.int,i,.int n,rfl,rfl,W.sq,?_,au S N _ rfl⟩ hs;unfold dj at Y |-;rw[É]
   cases E:dY U.length i with
   |none=>rw[E] at Y;cases Y
   |some j =>
    rw[E] at Y;show (U.map V.int)[j]?=some (.int n);rw[í,show U[j]?=some n from Y];rfl
 ·rename_i z i e1
  cases O;rw[dG e1 (by intro _ z;cases z)] at Z;cases Z;split at e
  ·rename_i C
   cases F:dj z.cps.toList i with
   |none=>rw[F] at e;cases e
   |some c =>
    rw[F] at e;cases e;exact T4 value slice T s σ w.H _ _ v u Q I R P ⟨z,i,c,rfl,rfl,ð C,F,au S N _ rfl⟩ hs
  ·cases e
 ·cases e
def bA (ha:PE X a (tE X.K Ξ f)) (hb:PE X b (tE X.K Ξ g)) (hs:Hh b:=by intro _ _;rfl):PE X (.Subscript a b pos) (tE X.K Ξ (e2 ar f g)):=cg (VM Xz ha hb hs) wk
def l8 (d:D) (s:aa):Option D:=match res d s with
 | .lst Z=>some (.int Z.length)
 | .tup Z=>some (.int Z.length)
 | .bJ Y=>some (.int Y.length)
 | .str x=>if decide (x.length<=Ñ)=true then some (.int x.length) else none
 |_=>none
def cy (ds:List D) (s:aa):Res D:=match ds with
 | [d]=>bM (l8 d s) s
 |_=>none
def kE (h:ak K w [d] vs):∃v,vs=[v]/\DV K w d v:=by
 obtain⟨v,r,rfl,Z,dr⟩:=h;have e:r=[]:=dr;subst e;exact⟨v,rfl,Z⟩
def oz (h:ak K w [d,e] vs):∃v u,vs=[v,u]/\DV K w d v/\DV K w e u:=by
 obtain⟨v,r,rfl,Z,h⟩:=h;obtain⟨u,rfl,Y⟩:=kE h;exact⟨v,u,rfl,Z,Y⟩
def iO:bY X (.builtin "len") (rC X.K Ξ cy):=by
 rintro U s σ H T R Q I r ⟨w,M,rfl,S,Y,h⟩;unfold cy at h;split at h
 ·obtain⟨v,rfl,Z⟩:=kE Y
  obtain⟨d,e,h⟩:=fc h;unfold l8 at e;split at e
  ·rename_i P e1
   cases e;obtain⟨a,T,rfl,W,Y⟩:=fU S Z e1;exact yS U s σ w.H _ R Q I r ⟨a,T,rfl,.inl (aZ.of W),by rw[<- Y.length];exact au S h _ rfl⟩
  ·rename_i P e1
   cases e;rw[dG e1 (by intro _ z;cases z)] at Z;simp only[DV] at Z;obtain⟨a,T,rfl,W,Y⟩:=Z;exact yS U s σ w.H _ R Q I r ⟨a,T,rfl,.inr W,by rw[<- Y.length];exact au S h _ rfl⟩
  ·rename_i O e1
   cases e;rw[dG e1 (by intro _ z;cases z)] at Z;simp only[DV] at Z;obtain⟨a,rfl,W⟩:=Z;exact yS U s σ w.H _ R Q I r ⟨a,O.map V.int,rfl,.inl W.sq,by rw[É];exact au S h _ rfl⟩
  ·rename_i z e1
   rw[dG e1 (by intro _ z;cases z)] at Z;cases Z;split at e
   ·rename_i N
    cases e;exact MK U s σ w.H _ R Q I r ⟨z,rfl,ð N,au S h _ rfl⟩
   ·cases e
  ·cases e
 ·exact h.elim
noncomputable def gr:List D->Option (List Bool)
 | []=>some []
 | .bl b::Z=>(gr Z).map λr=>b::r
 |_::_=>none
theorem sI:∀{ds:List D} {bs:List Bool},gr ds=some bs->ds=bs.map D.bl
 | [],bs,h=>by cases h;rfl
 | .bl b::ds,bs,h=>by
  simp only[gr] at h
  cases Z:gr ds with
  |none=>rw[Z] at h;cases h
  |some r=>rw[Z] at h;cases h;rw[sI Z];rfl
 | .ao::_,_,h=>by cases h
 | .int _::_,_,h=>by cases h
 | .str _::_,_,h=>by cases h
 | .tup _::_,_,h=>by cases h
 | .lst _::_,_,h=>by cases h
 | .bK _::_,_,h=>by cases h
 | .az _::_,_,h=>by cases h
 | .ty _::_,_,h=>by cases h
 | .bJ _::_,_,h=>by cases h
 | .exc _ _::_,_,h=>by cases h
 | .cA _ _ _::_,_,h=>by cases h
def Sd:gr (bs.map D.bl)=some bs:=by
 induction bs with
 |nil=>rfl
 |cons b bs ih=>simp only[á,gr,ih,θ]
def l9 (ds:List D) (s:aa):Res D:=match ds with
 | [d]=>match res d s with
  | .lst Z=>bM ((gr Z).map λbs=>.bl (bs.all id)) s
  |_=>none
 |_=>none
def qU (ds:List D) (s:aa):Res D:=match ds with
 | [d]=>match res d s with
  | .lst Z=>bM ((gr Z).map λbs=>.bl (bs.any id)) s
  |_=>none
 |_=>none
def tB (hc:X.calm=true):bY X (.builtin "all") (rC X.K Ξ l9):=by
 rintro V s σ H U T Q I r ⟨w,O,rfl,S,Z,h⟩;unfold l9 at h;split at h
 ·obtain⟨v,rfl,R⟩:=kE Z
  split at h
  ·rename_i P e1
   obtain⟨d,e,h⟩:=fc h
   cases Y:gr P with
   |none=>rw[Y] at e;cases e
   |some bs =>
    rw[Y] at e;cases e;obtain⟨a,U,rfl,W,Z⟩:=fU S R e1;rw[sI Y] at Z;rw[Z.sv] at W;exact P9 hc V s σ w.H _ T Q I r ⟨a,bs,rfl,aZ.of W,au S h _ rfl⟩
  ·exact h.elim
 ·exact h.elim
def Jx (hc:X.calm=true):bY X (.builtin "any") (rC X.K Ξ qU):=by
 rintro V s σ H U T Q I r ⟨w,O,rfl,S,Z,h⟩;unfold qU at h;split at h
 ·obtain⟨v,rfl,R⟩:=kE Z
  split at h
  ·rename_i P e1
   obtain⟨d,e,h⟩:=fc h
   cases Y:gr P with
   |none=>rw[Y] at e;cases e
   |some bs =>
    rw[Y] at e;cases e;obtain⟨a,U,rfl,W,Z⟩:=fU S R e1;rw[sI Y] at Z;rw[Z.sv] at W;exact Qa hc V s σ w.H _ T Q I r ⟨a,bs,rfl,aZ.of W,au S h _ rfl⟩
  ·exact h.elim
 ·exact h.elim
def qK (ds:List D) (s:aa):Res D:=match ds with
 | [.int i,.int j]=>ok (.int (if j > i then j else i)) s
 |_=>none
def tD (ds:List D) (s:aa):Res D:=match ds with
 | [.int i,.int j]=>ok (.int (if j<i then j else i)) s
 |_=>none
def Us (hc:X.calm=true):bY X (.builtin "max") (rC X.K Ξ qK):=by
 rintro Z s σ H T Y Q I r ⟨w,R,rfl,S,W,h⟩;unfold qK at h;split at h
 ·rename_i i j
  obtain⟨v,u,rfl,V,U⟩:=oz W;cases V;cases U;exact OI hc Z s σ w.H _ Y Q I r ⟨i,j,rfl,au S h _ rfl⟩
 ·exact h.elim
def Ut (hc:X.calm=true):bY X (.builtin "min") (rC X.K Ξ tD):=by
 rintro Z s σ H T Y Q I r ⟨w,R,rfl,S,W,h⟩;unfold tD at h;split at h
 ·rename_i i j
  obtain⟨v,u,rfl,V,U⟩:=oz W;cases V;cases U;exact OJ hc Z s σ w.H _ Y Q I r ⟨i,j,rfl,au S h _ rfl⟩
 ·exact h.elim
def ij (ds:List D) (s:aa):Res D:=match ds with
 | [d]=>match res d s with
  | .lst Z=>ok (.tup Z) s
  | .tup Z=>ok (.tup Z) s
  |_=>none
 |_=>none
def sx:bY X (.type "tuple") (rC X.K Ξ ij):=by
 rintro U s σ H Y T Q I r ⟨w,O,rfl,S,W,h⟩;unfold ij at h;split at h
 ·obtain⟨v,rfl,Z⟩:=kE W
  split at h
  ·rename_i R e1
   obtain⟨a,Y,rfl,V,W⟩:=fU S Z e1;exact EY U s σ w.H _ T Q I r ⟨a,Y,rfl,.inl ⟨aZ.of V,Ur S W h⟩⟩
  ·rename_i R e1
   rw[dG e1 (by intro _ z;cases z)] at Z;have P:=Z;simp only[DV] at Z;obtain⟨a,Y,rfl,V,W⟩:=Z;exact EY U s σ w.H _ T Q I r ⟨a,Y,rfl,.inr ⟨V,au S h _ P⟩⟩
  ·exact h.elim
 ·exact h.elim
end
def m7 (n:Nat) (x:D) (ds:List D):Bool:=lay x&&c9 ds&&decide (dep x<=n)
def inD (x:D) (ds:List D):Option Bool:=if m7 100 x ds=true then some (ds.any λy=>beq y x) else none
def lX (d:D) (s:aa):Option (List D):=match res d s with
 | .lst Z=>some Z
 | .tup Z=>some Z
 |_=>none
def fm (x y:D) (s:aa):Res D:=match lX y s with
 |some Z=>bM ((inD x Z).map D.bl) s
 |none=>none
def ig (x y:D) (s:aa):Res D:=match lX y s with
 |some Z=>bM ((inD x Z).map λb=>D.bl (!b)) s
 |none=>none
def GI (S:aI K w) (h:DV K w d v) (e:lX d w.aw=some ds):∃a xs,v=.ref a/\(w.H a=some (.lst xs)\/bp K w.H a xs)/\ak K w ds xs:=by
 unfold lX at e;split at e
 ·rename_i X e1
  cases e;obtain⟨a,xs,rfl,Z,Y⟩:=fU S h e1;exact⟨a,xs,rfl,.inl Z,Y⟩
 ·rename_i X e1
  cases e;rw[dG e1 (by intro _ z;cases z)] at h;simp only[DV] at h;obtain⟨a,xs,rfl,Z,Y⟩:=h;exact⟨a,xs,rfl,.inr Z,Y⟩
 ·cases e
section
variable {X:Cx} {Ξ:Wd->aT->Prop} {π:List (Ú×Obj)} {σ:St} {s:Ä}
theorem AJ (lx:lay x=true):∀{ds:List D},c9 ds=true->((eV ds).any λy=>ġ y (py x))=ds.any λy=>beq y x
 | [],_=>rfl
 |d::ds,h=>by
  simp only[c9,Æ] at h;simp only[eV,List.any_cons,qA d x h.1 lx,AJ lx h.2]
def Iq (h:inD x ds=some b):lay x=true/\c9 ds=true/\dep x<=100/\(ds.any λy=>beq y x)=b:=by
 unfold inD m7 at h;split at h
 ·rename_i Z
  simp only[Æ,Ê] at Z;exact⟨Z.1.1,Z.1.2,Z.2,ab4 h⟩
 ·cases h
def kT (hr:bP k X.A):bt X (Ė .In) (rO X.K Ξ fm):=by
 rintro π s σ H x y v u Q I J T ⟨w,W,B,rfl,S,G,F,h⟩;unfold fm at h;split at h
 ·rename_i Z E
  obtain⟨d,e,h⟩:=fc h
  cases V:inD W Z with
  |none=>rw[V] at e;cases e
  |some b =>
   rw[V] at e;cases e;obtain⟨U,Y,z,D⟩:=Iq V;obtain⟨R,C⟩:=jQ _ U;obtain⟨P,t⟩:=sj _ Y;obtain⟨bs,O⟩:=(G.py (og _ U)).reads I J;have N:X.A.units+1+min (Ŋ (eV Z)) (py W).depth<abV:=by
    have:=hr.un;rw[C];omega
   obtain⟨a,M,rfl,ha,L⟩:=GI S F E;have fin:EP X π σ Q (.bool ((eV Z).any λy=>ġ y (py W))) s:=⟨.bl b,w.H,I,by rw[AJ U Y,D];rfl,au S h _ rfl⟩
   rcases ha with ha|ha
   ·obtain⟨cs,rc⟩:=(show L2.DV X.K (λ_=>False) w.H (.list (eV Z)) (.ref a) by simp only[L2.DV];exact⟨a,M,rfl,not_false,ha,L.py (nZ _ Y)⟩).reads I T
    exact SeqAt.in_list_reads rc O P R N fin
   ·obtain⟨cs,rc⟩:=(show L2.DV X.K (λ_=>False) w.H (.tuple (eV Z)) (.ref a) by simp only[L2.DV];exact⟨a,M,rfl,ha,L.py (nZ _ Y)⟩).reads I T
    exact SeqAt.in_tuple_reads rc O P R N fin
 ·exact h.elim
def Ak (hr:bP k X.A):bt X (Ė .NotIn) (rO X.K Ξ ig):=by
 rintro π s σ H x y v u Q I J T ⟨w,W,B,rfl,S,G,F,h⟩;unfold ig at h;split at h
 ·rename_i Z E
  obtain⟨d,e,h⟩:=fc h
  cases V:inD W Z with
  |none=>rw[V] at e;cases e
  |some b =>
   rw[V] at e;cases e;obtain⟨U,Y,z,D⟩:=Iq V;obtain⟨R,C⟩:=jQ _ U;obtain⟨P,t⟩:=sj _ Y;obtain⟨bs,O⟩:=(G.py (og _ U)).reads I J;have N:X.A.units+1+min (Ŋ (eV Z)) (py W).depth<abV:=by
    have:=hr.un;rw[C];omega
   obtain⟨a,M,rfl,ha,L⟩:=GI S F E;have fin:EP X π σ Q (.bool (!(eV Z).any λy=>ġ y (py W))) s:=⟨.bl (!b),w.H,I,by rw[AJ U Y,D];rfl,au S h _ rfl⟩
   rcases ha with ha|ha
   ·obtain⟨cs,rc⟩:=(show L2.DV X.K (λ_=>False) w.H (.list (eV Z)) (.ref a) by simp only[L2.DV];exact⟨a,M,rfl,not_false,ha,L.py (nZ _ Y)⟩).reads I T
    exact SeqAt.notIn_list_reads rc O P R N fin
   ·obtain⟨cs,rc⟩:=(show L2.DV X.K (λ_=>False) w.H (.tuple (eV Z)) (.ref a) by simp only[L2.DV];exact⟨a,M,rfl,ha,L.py (nZ _ Y)⟩).reads I T
    exact SeqAt.notIn_tuple_reads rc O P R N fin
 ·exact h.elim
def tP (K:Ē) (Ξ:Wd->aT->Prop) (f:abZ (Option Int)):TO:=fun σ H Q=>∃w env,w.H=H/\aI K w/\bG K w env σ/\Out K Ξ w (f env w.aw) λZ i=>Q i Z.H
def pN:abZ (Option Int):=λ_ s=>ok none s
def pd (f:abZ D):abZ (Option Int):=λenv s=>aj (f env s) λd s=>match d with
 | .int i=>ok (some i) s
 |_=>none
variable {e a b:Ġ} {lo hi:Option Ġ} {pos p2 p3 p4:Pos} {f g:abZ D}
def Ir (h:PO X lo t) (i:∀ σ H Q,t' σ H Q->t σ H Q):PO X lo t':=λπ s σ H Q I Z=>h π s σ H Q I (i σ H Q Z)
def Kv:PO X none (tP X.K Ξ pN):=Ir RQ fun σ H Q Z=>by
 obtain⟨w,env,Y,S,W,h⟩:=Z;subst Y;exact au S h
def Jy (he:PE X e (tE X.K Ξ f)):PO X (some e) (tP X.K Ξ (pd f)):=Ir (RR he) fun σ H Q Y=>by
 obtain⟨w,env,W,S,V,h⟩:=Y;subst W;refine⟨w,env,rfl,S,V,(Out.aj h).mono λR d P U Z v T=>?_⟩
 cases d with
 |int i=>exact⟨i,T,au U Z⟩
 |_=>exact Z.elim
noncomputable def cutD (xs:List D) (lo hi:Option Int):List D:=(xs.drop (HT.aP xs.length 0 lo)).take (HT.aP xs.length xs.length hi-HT.aP xs.length 0 lo)
def oA (d:D) (lo hi:Option Int) (s:aa):Res D:=match res d s with
 | .tup Z=>ok (.tup (cutD Z lo hi)) s
 | .lst Z=>ok (.lst (cutD Z lo hi)) s
 |_=>none
def pO (f:abZ D) (l h:abZ (Option Int)):abZ D:=λenv s=>aj (f env s) λd s=>aj (l env s) λlo s=>aj (h env s) λhi s=>oA d lo hi s
def YB (K:Ē) (Ξ:Wd->aT->Prop):V->Option Int->Option Int->Hp->VK->Prop:=λx lo hi H Q=>∃w Z,w.H=H/\aI K w/\DV K w Z x/\Out K Ξ w (oA Z lo hi w.aw) λY d=>∀v,DV K Y d v->Q v Y.H
def Uu:uF X (YB X.K Ξ):=by
 rintro π s σ H x v U T lo hi R Q I P hs O pu ⟨w,M,rfl,S,Y,h⟩;unfold oA at h;split at h
 ·rename_i N e1
  rw[dG e1 (by intro _ z;cases z)] at Y;simp only[DV] at Y;obtain⟨a,W,rfl,V,Z⟩:=Y;refine RW π s σ w.H _ v U T lo hi R Q I P hs O pu ⟨a,W,rfl,V,tZ S ?_ h⟩;unfold cutD jZ;rw[Z.length];exact(Z.drop _).take _
 ·rename_i N e1
  obtain⟨a,W,rfl,V,Z⟩:=fU S Y e1;refine RU π s σ w.H _ v U T lo hi R Q I P hs O pu ⟨a,W,rfl,aZ.of V,xK S ?_ h⟩;unfold cutD jZ;rw[Z.length];exact(Z.drop _).take _
 ·exact h.elim
def Kw (he:PE X e (tE X.K Ξ f)) (hl:PO X lo (tP X.K Ξ fl)) (hu:PO X hi (tP X.K Ξ fh)):PE X (.Subscript e (.Slice lo hi none p2) pos) (tE X.K Ξ (pO f fl fh)) :=
 cg (P4 Uu he hl hu) fun σ H Q V=>by
  obtain⟨w,env,U,S,Z,h⟩:=V;subst U;exact⟨w,env,rfl,S,Z,(Out.aj h).mono λT d Y R P v O=>⟨T,env,rfl,R,Z.le Y,(Out.aj P).mono λN i W M L=>⟨N,env,rfl,M,Z.le (Y.trans W),(Out.aj L).mono λJ j I G F=>⟨J,d,rfl,G,(W.trans I) _ _ O,F⟩⟩⟩⟩
def qV (d x:D) (s:aa):Res D:=match d with
 | .az k=>match s[k]? with
  |some (.lst Z)=>if decide (Z.length<Ñ)=true then ok .ao (s.set k (.lst (Z++[x]))) else none
  |_=>none
 |_=>none
def kU (d:D) (s:aa):Bool:=match d with
 | .az k=>match s[k]? with
  |some (.lst _)=>true
  |_=>false
 |_=>false
def nv (f g:abZ D):abZ D:=λenv s=>aj (f env s) λd s=>if kU d s=true then aj (g env s) λx s=>qV d x s else none
def Hv (S:aI K w) (dv:DV K w d v) (h:kU d w.aw=true):∃k a ds xs,d=.az k/\v=.ref a/\w.ρ[k]?=some a/\w.aw[k]?=some (.lst ds)/\w.H a=some (.lst xs)/\ak K w ds xs:=by
 unfold kU at h;split at h
 ·rename_i k
  split at h
  ·rename_i ds Z
   obtain⟨a,e1,rfl⟩:=dv;obtain⟨xs,Y,X⟩:=S.cell k a _ e1 Z;exact⟨k,a,ds,xs,rfl,rfl,e1,Z,Y,X⟩
  ·cases h
 ·cases h
def Uv (S:aI K w) (dv:DV K w d v) (du:DV K w y u) (h:Out K Ξ w (qV d y w.aw) q):∃a xs,v=.ref a/\w.H a=some (.lst xs)/\xs.length<Ñ/\∃w',w'.H=upd w.H a (.lst (xs++[u]))/\q w' .ao:=by
 unfold qV at h;split at h
 ·rename_i k
  split at h
  ·rename_i Z Y
   split at h
   ·rename_i V
    obtain⟨a,e1,rfl⟩:=dv;obtain⟨xs,U,X⟩:=S.cell k a _ e1 Y;have W:(Cell.lst Z)≠.dead:=by intro z;cases z
    have le:=(Fw.put (K:=K) (o:=.lst (xs++[u])) (c:=.lst (Z++[y])) S e1 Y W).le;refine⟨a,xs,rfl,U,by rw[<- X.length];exact ð V,w.put k a (.lst (xs++[u])) (.lst (Z++[y])),rfl,?_⟩;exact h _ le (S.xF e1 Y W ⟨_,cu,le.all (X.append (ak.one du))⟩) rfl
   ·exact h.elim
  ·exact h.elim
 ·exact h.elim
def Jz {o:Ġ} {apos aO:Pos} (ho:PE X o (tE X.K Ξ f)) (ha:PE X a (tE X.K Ξ g))
  (iL:Ţ o "append" X.env (ļ o X.env)=ļ o X.env:=by rfl)
  (iS:((Ħ aO (Ë [a] X.env)).all (λx=>!x.1)&&(abJ aO (η [] X.env)).all (λx=>x.1.isSome)
   && decide (([a]:List Ġ).length+([]:List ź).length+(if ([]:List ź).isEmpty then 0 else 1)<30))=true:=by rfl)
  (iM:(apos.endLine==aO.line)=true:=by rfl) (hs:Ë [a] X.env=(false,ļ a X.env)::Ë [] X.env:=by rfl) (fW:(Ħ aO (Ë [] X.env)).any (·.1)=false:=by rfl) :
  PE X (.Call (.Attribute o "append" apos) [a] [] aO) (tE X.K Ξ (nv f g)) :=
 cg (qG ů PySem.F.slot_list_append PySem.F.type_list_append OK ho (gy ha iI hs) iL iS iM hs fW) fun σ H Q T=>by
  obtain⟨w,env,Z,S,W,h⟩:=T;subst Z;refine⟨w,env,rfl,S,W,(Out.aj h).mono λR d P V Y v U=>?_⟩;split at Y
  ·rename_i O
   obtain⟨k,p,t,N,rfl,rfl,e1,e2,M,s⟩:=Hv V U O;refine⟨.inl ⟨rfl,N,aZ.of M⟩,R,env,rfl,V,W.le P,(Out.aj Y).mono λr y L J I u G=>?_⟩;obtain⟨E,D,C,B,A,q,Z,z⟩:=Uv J (L _ _ U) G I;refine⟨E,D,u,C,rfl,B,A,?_⟩;rw[<- Z];exact z _ rfl
  ·exact Y.elim
def j6 (d i x:D) (s:aa):Option aa:=match d,i with
 | .az k,.int n=>match s[k]? with
  |some (.lst Z)=>(dY Z.length n).map λj=>s.set k (.lst (Z.set j x))
  |_=>none
 |_,_=>none
def ma (f o i:abZ D):abZ Fl:=λenv s=>aj (f env s) λx s=>aj (o env s) λd s=>aj (i env s) λn s=>match j6 d n x s with
 |some Z=>ok (.nx env) Z
 |none=>none
def Uw (S:aI K w) (dv:DV K w d v) (dn:DV K w i n) (du:DV K w x u) (h:j6 d i x w.aw=some s'):∃a xs k j,v=.ref a/\n=.int k/\w.H a=some (.lst xs)/\dY xs.length k=some j/\∃w',w'.H=upd w.H a (.lst (xs.set j u))/\w'.aw=s'/\Le K w w'/\aI K w':=by
 unfold j6 at h;split at h
 ·rename_i k m
  split at h
  ·rename_i Z Y
   cases X:dY Z.length m with
   |none=>rw[X] at h;cases h
   |some j =>
    rw[X] at h;cases h;obtain⟨a,e1,rfl⟩:=dv;obtain⟨xs,U,W⟩:=S.cell k a _ e1 Y;have V:(Cell.lst Z)≠.dead:=by intro z;cases z
    have le:=(Fw.put (K:=K) (o:=.lst (xs.set j u)) (c:=.lst (Z.set j x)) S e1 Y V).le;exact⟨a,xs,m,j,rfl,dn,U,by rw[<- W.length];exact X,w.put k a (.lst (xs.set j u)) (.lst (Z.set j x)),rfl,rfl,le,S.xF e1 Y V ⟨_,cu,le.all (W.set du j)⟩⟩
  ·cases h
 ·cases h
def JA (he:PE X e (tE X.K Ξ f)) (ho:PE X o (tE X.K Ξ fo)) (hi:PE X i (tE X.K Ξ fi))
 (ha:∀v,abH (.Subscript o i ny) X.env v=(do
   let ov <- abx [v] (ļ o X.env)
   let iv <- abx [v,ov] (ļ i X.env)
   abN ny
   abx [v,ov,iv] (setItem ov iv v)
   release [v,ov,iv] []):=by intro _;rfl)
 (hs:ς [.Subscript o i ny] e pos.line X.env=pure false:=by rfl) (hw:υ [.Subscript o i ny] e X.env=pure none:=by rfl)
 (h1:(ľ [.Subscript o i ny] X.env).map (·.2)=[abH (.Subscript o i ny) X.env]:=by rfl):PS X (.Assign [.Subscript o i ny] e pos) (tS X.K Ξ (ma f fo fi)) :=
 jP (Ib he (Tz ho hi set_list ha) hs hw h1) λt σ H Q=>by
  obtain⟨w,env,W,S,Z,h⟩:=Q;subst W;refine⟨w,env,rfl,S,Z,(Out.aj h).mono λP x V O h1 u N=>?_⟩;refine⟨P,env,rfl,O,Z.le V,(Out.aj h1).mono λM d U L J v I=>?_⟩;refine⟨M,env,rfl,L,Z.le (V.trans U),(Out.aj J).mono λG n T F Y m E=>?_⟩
  cases R:j6 d n x G.aw with
  |none=>rw[R] at Y;exact Y.elim
  |some s =>
   rw[R] at Y;obtain⟨a,D,k,j,e1,e2,C,B,A,W,z,le,y⟩:=Uw F (T _ _ I) E ((U.trans T) _ _ N) R;refine⟨a,D,k,j,e1,e2,C,B,?_⟩;rw[<- W];exact Y A le y z σ (Z.le (V.trans (U.trans (T.trans le))))
end
def kd (d:D) (s:aa):Option Kn:=match res d s with
 | .ao=>some .ao
 | .bl _=>some .bl
 | .int _=>some .int
 | .str _=>some .str
 | .tup _=>some .tup
 | .lst _=>some .lst
 | .bK _=>some .bK
 |_=>none
def JB (S:aI K w) (h:DV K w d v) (e:kd d w.aw=some k):nF K w.H v k:=by
 unfold kd at e
 split at e<;>rename_i e1<;>first | (cases e;done) | (try cases e)
 ·rw[dG e1 (by intro _ z;cases z)] at h;cases h;trivial
 ·rw[dG e1 (by intro _ z;cases z)] at h;cases h;trivial
 ·rw[dG e1 (by intro _ z;cases z)] at h;cases h;trivial
 ·rw[dG e1 (by intro _ z;cases z)] at h;cases h;trivial
 ·rw[dG e1 (by intro _ z;cases z)] at h
  simp only[DV] at h;obtain⟨a,Y,rfl,Z,_⟩:=h;exact⟨Y,Z⟩
 ·obtain⟨a,Y,rfl,Z,_⟩:=fU S h e1
  exact⟨Y,aZ.of Z⟩
 ·rw[dG e1 (by intro _ z;cases z)] at h
  simp only[DV] at h;obtain⟨a,rfl,_,Z⟩:=h;exact⟨_,Z⟩
noncomputable def JC (T:String):Bool:=T=="int"||T=="bool"||T=="str"||T=="tuple"||T=="list"
def cm (ds:List D) (s:aa):Res D:=match ds with
 | [d,.ty T]=>if JC T=true then bM ((kd d s).map λk=>.bl (qQ k T)) s else none
 |_=>none
section
variable {X:Cx} {Ξ:Wd->aT->Prop} {e a b:Ġ} {es:List Ġ} {pos:Pos} {f g:abZ D} {fa:abZ (List D)}
def iu:bY X (.builtin "isinstance") (rC X.K Ξ cm):=by
 rintro Z s σ H M Y Q I r ⟨w,L,rfl,S,R,h⟩;unfold cm at h;split at h
 ·rename_i d T
  obtain⟨v,u,rfl,P,O⟩:=oz R;have N:u=.ty T:=O;subst N;split at h
  ·rename_i U
   obtain⟨J,e,h⟩:=fc h
   cases V:kd d w.aw with
   |none=>rw[V] at e;cases e
   |some k =>
    rw[V] at e;cases e;have W:=JB S P V;simp only[JC,aaP,beq_iff_eq] at U
    rcases U with (((rfl|rfl)|rfl)|rfl)|rfl
    ·exact ML Z s σ w.H _ Y Q I r ⟨v,k,rfl,W,au S h _ rfl⟩
    ·exact Mv Z s σ w.H _ Y Q I r ⟨v,k,rfl,W,au S h _ rfl⟩
    ·exact MM Z s σ w.H _ Y Q I r ⟨v,k,rfl,W,au S h _ rfl⟩
    ·exact Ml Z s σ w.H _ Y Q I r ⟨v,k,rfl,W,au S h _ rfl⟩
    ·exact Mw Z s σ w.H _ Y Q I r ⟨v,k,rfl,W,au S h _ rfl⟩
  ·exact h.elim
 ·exact h.elim
def ix (hv:û x=some (.type T)) (hg:Gl X x) (hm:X.mg x=none) (hn:x≠"__name__":=by decide) (hd:(x==("__debug__":Str))=false:=by decide):PE X (.Name x pos) (tE X.K Ξ (eC (.ty T))):=oO (v:=.ty T) (wc hg hm hv rfl hn hd) λ_=>rfl
def kW (g:∃t,X.mg x=some (.int i t)) (hg:Gl X x) (hd:(x==("__debug__":Str))=false:=by decide):PE X (.Name x pos) (tE X.K Ξ (eC (.int i))):=by
 obtain⟨t,e⟩:=g;exact oO (v:=.int i) (zW hg e ⟨t,rfl⟩ hd) λ_=>rfl
def qW (d:D) (s:aa):Res D:=bM ((kd d s).map λk=>.bl (decide (k=.tup)||decide (k=.lst))) s
noncomputable def oS:List D->Option (List Int)
 | []=>some []
 | .int i::Z=>(oS Z).map λr=>i::r
 |_::_=>none
theorem GJ:∀{ds:List D} {ns:List Int},oS ds=some ns->ds=ns.map D.int
 | [],ns,h=>by cases h;rfl
 | .int b::ds,ns,h=>by
  simp only[oS] at h
  cases Z:oS ds with
  |none=>rw[Z] at h;cases h
  |some r=>rw[Z] at h;cases h;rw[GJ Z];rfl
 | .ao::_,_,h=>by cases h
 | .bl _::_,_,h=>by cases h
 | .str _::_,_,h=>by cases h
 | .tup _::_,_,h=>by cases h
 | .lst _::_,_,h=>by cases h
 | .bK _::_,_,h=>by cases h
 | .az _::_,_,h=>by cases h
 | .ty _::_,_,h=>by cases h
 | .bJ _::_,_,h=>by cases h
 | .exc _ _::_,_,h=>by cases h
 | .cA _ _ _::_,_,h=>by cases h
def OX:oS (ns.map D.int)=some ns:=by
 induction ns with
 |nil=>rfl
 |cons b bs ih=>simp only[á,oS,ih,θ]
noncomputable def kX (i:Int):List Int->List Int
 | []=>[i]
 |j::r=>if i<j then i::j::r else if i=j then j::r else j::kX i r
def fE:List Int->List Int
 | []=>[]
 |i::r=>kX i (fE r)
theorem zB:∀{l:List Int},k∈kX i l↔k=i\/k∈l
 | []=>by simp[kX]
 |j::r=>by
  unfold kX;split
  ·simp
  ·split
   ·rename_i h;subst h;simp
   ·rw[Ô,zB,Ô]
    constructor
    ·rintro (h|h|h)
     ·exact .inr (.inl h)
     ·exact .inl h
     ·exact .inr (.inr h)
    ·rintro (h|h|h)
     ·exact .inr (.inl h)
     ·exact .inl h
     ·exact .inr (.inr h)
theorem Fj:∀{l:List Int},l.Pairwise (· < ·)->(kX i l).Pairwise (· < ·)
 | [],_=>by simp[kX]
 |j::r,h=>by
  obtain⟨Z,Y⟩:=ó.mp h;unfold kX;split
  ·rename_i X
   refine ó.mpr ⟨λk hk=>?_,h⟩
   rcases Ô.mp hk with rfl|hk
   ·exact X
   ·have:=Z k hk;omega
  ·split
   ·exact h
   ·refine ó.mpr ⟨λk hk=>?_,Fj Y⟩
    rcases zB.mp hk with rfl|hk
    ·omega
    ·exact Z k hk
theorem oh:∀{l:List Int},k∈fE l↔k∈l
 | []=>by simp[fE]
 |i::r=>by simp[fE,zB,oh]
theorem E8:∀(l:List Int),(fE l).Pairwise (· < ·)
 | []=>List.Pairwise.nil
 |i::r=>Fj (E8 r)
theorem EZ:∀{l m:List Int},l.Pairwise (· < ·)->m.Pairwise (· < ·)->(∀k,k∈l↔k∈m)->l=m
 | [],[],_,_,_=>rfl
 | [],j::m,_,_,h=>by have:=(h j).mpr Ø;cases this
 |i::l,[],_,_,h=>by have:=(h i).mp Ø;cases this
 |i::l,j::m,W,V,h=>by
  obtain⟨Y,U⟩:=ó.mp W;obtain⟨X,T⟩:=ó.mp V;have e:i=j:=by
   rcases Ô.mp ((h i).mp Ø) with e|e
   ·exact e
   ·rcases Ô.mp ((h j).mpr Ø) with e'|e'
    ·exact e'.symm
    ·have:=X i e;have:=Y j e';omega
  subst e;congr 1;refine EZ U T λk=>?_;constructor
  ·intro Z
   rcases Ô.mp ((h k).mp (Ï _ Z)) with e|e
   ·subst e;have:=Y k Z;omega
   ·exact e
  ·intro Z
   rcases Ô.mp ((h k).mpr (Ï _ Z)) with e|e
   ·subst e;have:=X k Z;omega
   ·exact e
def zh (l:List Int):(fE l).length<=l.length:=by
 induction l with
 |nil=>exact ab3 _
 |cons x l ih =>
  have:(fE (x::l)).length<=(fE l).length+1:=by
   show (kX x (fE l)).length<=_;generalize fE l=m
   induction m with
   |nil=>exact ab3 _
   |cons y m Z =>
    unfold kX;split
    ·simp
    ·split
     ·simp
     ·simp only[õ];omega
  simp only[õ];omega
def Qs (ns:List Int):(ns.foldl PyProof.Rows.step_dedup []).length<=(fE ns).length:=sub_len (yW ns [] List.nodup_nil) λk Z=>oh.mpr ((F9 ns k).mp Z)
def qe (d:D) (s:aa):Res D:=match d with
 | .lst Y=>match oS Y with
  |some Z=>if decide ((fE Z).length<64)=true then ok (.lst ((fE Z).map D.int)) s else none
  |none=>none
 |_=>none
def N4 {p p2 md:Pos} (ha:PE X a (tE X.K Ξ f)) (hc:X.calm=true) (hg:Gl X "sorted") (hm:X.mg "sorted"=none) (hv:û "sorted"=some (.builtin "sorted")) (Dg:Gl X "set") (Dh:X.mg "set"=none) (YC:û "set"=some (.type "set"))
  (he:Ë [a] X.env=(false,ļ a X.env)::Ë [] X.env:=by rfl) (bw:(Ħ md (Ë [] X.env)).any (·.1)=false:=by rfl)
  (uY:Ë [.Call (.Name "set" p2) [a] [] md] X.env=(false,ļ (.Call (.Name "set" p2) [a] [] md) X.env)::Ë [] X.env:=by rfl) (Cg:(Ħ pos (Ë [] X.env)).any (·.1)=false:=by rfl) :
  PE X (.Call (.Name "sorted" p) [.Call (.Name "set" p2) [a] [] md] [] pos) (tE X.K Ξ (e1 qe f)) :=
 cg (vO (MO hc) hg hm hv (gy (vH (N1 hc) Dg Dh YC (gy ha iI he) (by decide) (by decide) he bw) iI uY) (by decide) (by decide) uY Cg) fun σ H Q J=>by
  obtain⟨w,env,I,S,G,h⟩:=J;subst I;refine⟨w,env,rfl,S,G,(Out.aj h).mono λU d A F W v P=>?_⟩;unfold qe at W;split at W
  ·rename_i z
   split at W
   ·rename_i Y E
    split at W
    ·rename_i T
     have T:=ð T;simp only[DV] at P;obtain⟨p,y,rfl,O,N⟩:=P;rw[GJ E] at N;rw[N.GB] at O;have D:=aaU (Qs Y) T;refine⟨p,Y,rfl,O.sq,by omega,λq M=>?_⟩;refine⟨q,Y,rfl,cu,D,λl x C hs B=>?_⟩;have e:=EZ hs (E8 Y) λk=>(B k).trans oh.symm;subst e;have R:(U.grow q (.ext (kR X.prog X.w q Y))).H l=none:=C;have L:=F.grow (o:=.ext (kR X.prog X.w q Y)) M;exact W ((U.grow q (.ext (kR X.prog X.w q Y))).grow l (.lst ((fE Y).map V.int))) ((Fw.grow M).le.trans (Fw.grow R).le) (L.grow R) rfl (.ref l) ⟨l,_,rfl,⟨(show ¬ (U.grow q (.ext (kR X.prog X.w q Y))).Z l from kD L R),cu⟩,ak.ints _⟩
    ·exact W.elim
   ·exact W.elim
  ·exact W.elim
def ue (i j:Nat) (fa:abZ (List D)):abZ Fl:=λenv s=>aj (fa env s) λZ s=>match Z with
 | [x,y]=>ok (.nx ((env.set i (some x)).set j (some y))) s
 |_=>none
def Iu (i j:Nat) {x y:Str} {px py pt:Pos} {kt k2 gZ} (hc:X.calm=true) (hN:X.N.Nodup) (ha:PA X [a,b] (tA X.K Ξ fa)) (hi:X.N[i]?=some x:=by rfl) (hj:X.N[j]?=some y:=by rfl) (eI:i≠j:=by decide)
  (hx:X.env.scope.names.lookup x=some .local:=by rfl) (hy:X.env.scope.names.lookup y=some .local:=by rfl)
  (hw:υ [.Tuple [.Name x px,.Name y py] kt pt] (.Tuple [a,b] k2 gZ) X.env=pure (some [x,y]):=by rfl)
  (hs:ς [.Tuple [.Name x px,.Name y py] kt pt] (.Tuple [a,b] k2 gZ) pos.line X.env=pure false:=by rfl) :
  PS X (.Assign [.Tuple [.Name x px,.Name y py] kt pt] (.Tuple [a,b] k2 gZ) pos) (tS X.K Ξ (ue i j fa)):=jP (TC hc hN hi hj eI hx hy ha hw hs) λO σ H W=>by
 obtain⟨w,env,V,S,Y,h⟩:=W;subst V;refine⟨w,env,rfl,S,Y,(Out.aj h).mono λM L U T Z J R=>?_⟩;split at Z
 ·obtain⟨v,u,rfl,Q,P⟩:=oz R
  exact⟨v,u,rfl,au T Z _ (((Y.le U).set Q i).set P j)⟩
 ·exact Z.elim
end
end DI
namespace L2
open PySem PySem.Spec PyProof.Rows
structure DS (Y:Cx) (D:Ú) (π:List (Ú×Obj)):Prop where
 loc:D≠Y.env.locals
 fs:D∉Y.fs
 new:Y.cM.heap.objs.size<=D
 cell:∀x c,Y.env.cells.lookup x=some c->c≠D
 pin:∀p∈Y.pn++π,p.1≠D
structure pP (Y:Cx) (D:Ú) (nt:Nat) (caps:St) (π:List (Ú×Obj)) (o:St) (H:Hp) (s:Ä) (acc:List V):Prop where
 inv:Inv Y π (o++caps) H s
 len:o.length=nt
 lst:∃ys,s.heap.PlainList D ys/\Vals acc ys.toList
 free:H D=none
 lE:acc.length<=Ñ
abbrev j7:=St->Hp->List V->(St->List V->Hp->Prop)->Prop
def ug (Y:Cx) (D:Ú) (nt:Nat) (caps:St) (c:Code) (m:Sem PySem.Fin) (ta:j7):Prop :=
 ∀(X:List (Ú×Obj)) (o:St) (H:Hp) (s:Ä) (Z:List V) (Q:St->List V->Hp->Prop),DS Y D X->pP Y D nt caps X o H s Z->ta (o++caps) H Z Q ->
  Û (ã Y.prog Y.w) Y.A m (λfn S=>fn=.again c/\∃W U T,pP Y D nt caps X W U S T/\Q (W++caps) T U) (λ_ _=>False) s
def CA (J:It) (g:TG) (tf:TT) (ta:j7) (τ:St) (acc:List V) (H:Hp) (Q:St->List V->Hp->Prop):Prop:=∃W:Nat->Nat->St->List V->Hp->Prop,(∃m,W 0 m τ acc H) /\
 ∀i m τ acc Z,W i m τ acc Z->(J.stop i Z/\Q τ acc Z) \/
  (J.go i Z/\∃N:St->List V->Hp->Prop,(∀ X U T,N X U T->∃S,S < m/\W (i+1) S X U T) /\
   ∀x R,J.pB i Z x R->g x τ R fun Y O=>tf Y O λb P=>if b=true then ta Y P acc N else N Y acc P)
def JD (te:TE):j7:=fun Y H Z Q=>Z.length+1<=Ñ/\te Y H λv X=>Q Y (Z++[v]) X
def JE (wi:TI) (g:TG) (tf:TT) (ta:j7):j7:=fun Y H Z Q=>wi Y H λJ X=>CA J g tf ta Y Z X Q
section
variable {Y:Cx} {D:Ú} {nt:Nat} {caps:St}
def DS.obj (ds:DS Y D π) (B:pP Y D nt caps π o H s acc):∃oD ys nn,s.heap.get? D=some oD/\oD={ cls:=.type "list",data:=.seq ys nn }/\Vals acc ys.toList/\Inv Y (π++[(D,oD)]) (o++caps) H s:=by
 obtain⟨ys,⟨nn,Z⟩,X⟩:=B.lst;refine⟨_,ys,nn,Z,rfl,X,B.inv.lQ λp W=>?_⟩
 rcases ċ.mp W with z|z
 ·exact B.inv.pin p (Î _ z)
 ·have e:p=(D,{ cls:=.type "list",data:=.seq ys nn }):=by simpa using z
  subst e;exact⟨Z,B.free,ds.loc,ds.fs,λv z=>by cases z⟩
def GK (hx:Y.xe=λ_ _=>False) (hE:PE Y el te):ug Y D nt caps c ((do let _ <- call (.builtin "list.append") [.ref D,<- ļ el Y.env]:Sem Unit) >>= λ_=>again c) (JD te):=by
 intro S o H s W Q Z B h;obtain⟨O,h⟩:=h;obtain⟨N,V,nn,u,M,R,I⟩:=Z.obj B;have q:=hE _ s _ H _ I h;rw[hx] at q;refine À (À (aH q λy X L=>?_));obtain⟨v,U,P,K,J⟩:=L;have T:=P.pin (D,N) (Î _ (Î _ (by simp)));have G:X.heap.PlainList D V:=⟨nn,by rw[<- M];exact T.1⟩;have F:V.size<=Ñ:=by
  have e:=R.length;simp only[ò] at e;omega
 refine À (wpAny_list_append_plain (hsz:=F) G λE C A=>Ã (Ã ⟨rfl,?_⟩));have z:Inv Y S (o++caps) U X:=P.lP
 have x:Inv Y S (o++caps) U { X with heap:=E,toks:=X.toks }:=z.turned (it:=D) (λb o w e=>(A.2 b w).trans e) T.2.1 Z.loc (.inr Z.new) Z.cell Z.pin
 refine⟨o,U,W++[v],⟨x,B.len,⟨V.push y,C,?_⟩,T.2.1,by rw[é];simpa using O⟩,J⟩;rw[aa7];exact Vals.append R (.cons K .nil)
def Fz (hx:Y.xe=λ_ _=>False) (hc:Y.calm=true)
 (T:Turn Y.prog Y.w Y.K tg J fp it tn) (YE:tn 0 s.heap) (hf:∀b∈fp,fg Y π H b) (mC:D∉fp) (hG:PG Y tg g) (fL:mv g nt) (hF:PF Y tests tf) (hA:ug Y D nt caps (.compLoop e d (.ref it) (.ref D) Y.env) act ta) (ds:DS Y D π) (B:pP Y D nt caps π o H s acc) (hq:(Code.compLoop e d (.ref it) (.ref D) Y.env).quiet=true)
 (XA:∀(M:Model) (A:î) (Q':Fin->Ä->Prop) (E':Å->Ä->Prop) (s':Ä),Û (ã Y.prog Y.w) A (compTurn e d (.ref it) (.ref D) Y.env) Q' (λ_ _=>False) s'->Û (ã Y.prog Y.w) (A.under (.compLoop e d (.ref it) (.ref D) Y.env)) ((ã Y.prog Y.w).den (.compLoop e d (.ref it) (.ref D) Y.env)) Q' E' s')
 (ht:compTurn e d (.ref it) (.ref D) Y.env=(do
   abN p0
   match <- aac (.ref it) with
   |none=>pure (.done .next)
   |some v =>
    Ň tg (.ref it) v
    abH tg Y.env v
    let mut ok:=true
    for c in tests do
     if ok then ok <- isTrue c Y.env (ļ c Y.env)
    if ok then act else again (.compLoop e d (.ref it) (.ref D) Y.env)))
 (h:CA J g tf ta (o++caps) acc H Q) :
  δ (ã Y.prog Y.w) Y.A (.compLoop e d (.ref it) (.ref D) Y.env) (λr s'=>r=.ok .next/\∃o' H' gG,pP Y D nt caps π o' H' s' gG/\Q (o'++caps) gG H') s:=by
 obtain⟨W,⟨m0,w0⟩,turn⟩:=h;have F:∀{H':Hp} {pl:List (Ú×Obj)},(∀b∈fp,H' b=none)->(∀p∈pl,p.1∉fp)->∀b∈fp,fg Y (π++pl) H' b:=λ{H' pl} hn X b Z=>by
  obtain⟨_,f1,pQ,f3,f4,f5⟩:=hf b Z;refine⟨hn b Z,f1,pQ,f3,f4,λp uZ=>?_⟩
  rcases ċ.mp uZ with z|z
  ·exact f5 p (ā _ z)
  ·rcases ċ.mp z with z|z
   ·exact f5 p (Î _ z)
   ·exact λe=>X p z (e ▸ Z)
 refine codeAny_loop hq (λn s'=>∃i acc o H',pP Y D nt caps π o H' s' acc/\tn i s'.heap/\(∀b∈fp,H' b=none)/\W i n (o++caps) acc H') (λn s3 hJ=>?_) m0 ⟨0,acc,o,H,B,YE,λb Z=>(hf b Z).1,w0⟩;obtain⟨i,acc,o3,O,U,jA,nB,w3⟩:=hJ;refine XA (ã Y.prog Y.w) _ _ _ _ ?_;rw[ht];obtain⟨N,L,nn,ho,eo,E,u0⟩:=ds.obj U;have C:∀p∈[(D,N)],p.1∉fp:=λp X=>by
  have e:p=(D,N):=by simpa using X
  subst e;exact mC
 have rF:∀{pl:List (Ú×Obj)} {R:St} {H':Hp} {s':Ä},Inv Y (π++[(D,N)]++pl) R H' s'->s'.heap.PlainList D L/\H' D=none:=λ{pl R H' s'} I=>by
  have q:=I.pin (D,N) (Î _ (ā _ (Î _ (by simp))));exact⟨⟨nn,by rw[<- eo];exact q.1⟩,q.2.1⟩
 refine À (Š (À ?_))
 rcases turn i n _ acc O w3 with ⟨stop,q⟩ | ⟨go,N',hN,step⟩
 ·have y:=T.done Y rfl rfl rfl hc i _ s3 _ O (λ_ _=>False) u0 (F nB C) jA stop
  refine aH y λr s4 P=>?_;obtain⟨t,I4⟩:=P;subst t;obtain⟨Dr,n4⟩:=rF (pl:=[]) (by simpa using I4);exact Ã ⟨rfl,o3,O,acc,⟨I4.lP,U.len,⟨L,Dr,E⟩,n4,U.lE⟩,q⟩
 ·have y:=T.item Y rfl rfl rfl hc i _ s3 _ O (λ_ _=>False) u0 (F nB C) jA go
  refine aH y λr s4 P=>?_;obtain⟨u,t,P⟩:=P;subst t;refine À (aH P λ_ s5 h5=>?_);obtain⟨x,m,I5,r5,y5,l,uA⟩:=h5;have uB:=I5.pinned (F uA C) (T.obj _ _ l);have q5:=hG _ s5 _ m x u _ uB r5 (fL x o3 _ m _ U.len (step x m y5));rw[hx] at q5;refine À (aH q5 λ_ s6 h6=>?_);obtain⟨rG,H6,I6,⟨k,u4,xN⟩,q6⟩:=h6;have V:=hF _ s6 rG H6 _ I6 q6;rw[hx] at V;refine À (aH V λb s7 h7=>?_);obtain⟨j,G,V⟩:=h7;subst xN;obtain⟨yu,n7⟩:=rF G;have f:Inv Y (π++mQ fp s5.heap) (k++caps) j s7:=G.lQ λp X=>by
   rcases ċ.mp X with z|z
   ·exact G.pin p (Î _ (ā _ (ā _ z)))
   ·exact G.pin p (Î _ (Î _ z))
  have uh:∀{R:St} {H':Hp} {s':Ä},Inv Y (π++mQ fp s5.heap) R H' s'->tn (i+1) s'.heap/\∀b∈fp,H' b=none:=λ{R H' s'} I=>by
   refine⟨T.keep _ _ _ l λb Z o e=>(I.pin (b,o) (Î _ (Î _ (pY Z e)))).1,λb Z=>?_⟩;obtain⟨o,e,_⟩:=T.obj _ _ l b Z;exact(I.pin (b,o) (Î _ (Î _ (pY Z e)))).2.1
  cases b with
  |false =>
   rw[ì Õ] at V;obtain⟨a,hm,w7⟩:=hN _ _ _ V;obtain⟨t7,f7⟩:=uh f;exact Ã ⟨rfl,a,hm,i+1,acc,k,j,⟨f.lP,u4,⟨L,yu,E⟩,n7,U.lE⟩,t7,f7,w7⟩
  |true =>
   rw[Þ rfl] at V;have Lm:DS Y D (π++mQ fp s5.heap):=⟨ds.loc,ds.fs,ds.new,ds.cell,λp X=>by
    rcases ċ.mp X with z|z
    ·exact ds.pin p (ā _ z)
    ·rcases ċ.mp z with z|z
     ·exact ds.pin p (Î _ z)
     ·exact λe=>mC (e ▸ (FT z).1)⟩
   refine aH (hA _ k j s7 acc N' Lm ⟨f,u4,⟨L,yu,E⟩,n7,U.lE⟩ V) λfn s8 h8=>?_;obtain⟨YF,o8,H8,XB,S,q8⟩:=h8;subst YF;obtain⟨a,hm,w8⟩:=hN _ _ _ q8;obtain⟨t8,f8⟩:=uh S.inv;exact⟨rfl,a,hm,i+1,XB,o8,H8,⟨S.inv.lP,S.len,S.lst,S.free,S.lE⟩,t8,f8,w8⟩
end
def Iv (A:î) (Q':Fin->Ä->Prop) (E':Å->Ä->Prop) (s':Ä)
 (h:Û (ã P w) A (compTurn (.ListComp el gens sc ps) d gp av ce) Q' (λ_ _=>False) s'):Û (ã P w) (A.under (.compLoop (.ListComp el gens sc ps) d gp av ce)) ((ã P w).den (.compLoop (.ListComp el gens sc ps) d gp av ce)) Q' E' s':=by
 show Û _ A ((compTurn (.ListComp el gens sc ps) d gp av ce).onRaise (λx=>do noteFrame x ce;theTreesLotGoes x)) _ _ s'
 exact wpAny_noted (Ĕ h (λ_ _ q=>q) λ_ _ z=>z.elim)
def Qt (hd:gens[d]?=some ⟨target,iter,ifs,0⟩)
 (h0:δ (ã P w) A (.compLoop (.ListComp el gens sc ps) d it acc env) R s)
 (h:Û (ã P w) A (pyIter it) (λlG s'=>δ (ã P w) A (.compLoop (.ListComp el gens sc ps) d lG acc env) R s') (λ_ _=>False) s) :
  δ (ã P w) A (.compStart (.ListComp el gens sc ps) d it acc env) R s:=by
 refine abC ?_
 show Û _ _ ((compStart (.ListComp el gens sc ps) d it acc env).onRaise (λx=>do noteFrame x env;abN theWindowsPlace)) _ _ s
 refine wpAny_notedAt ?_;have Z:(clausesOf (.ListComp el gens sc ps))[d]?=some ⟨target,iter,ifs,0⟩:=hd;unfold compStart;rw[Z];show Û _ _ (ask >>= _) _ _ s;refine À (Ş (wpAny_ite ?_));split
 ·first
   |exact À (Ã (Ã (And.intro rfl h0)))
   |exact Ã (And.intro rfl h0)
 ·refine À (ś ?_)
  show Û _ _ (abN iter.pos >>= _) _ _ s;exact À (Š (À (Ĕ h (λlG s' Y=>Ã (And.intro rfl Y)) λ_ _ x=>x.elim)))
section
variable {Y:Cx} {D:Ú} {nt:Nat} {caps:St}
def zC {el tg src:Ġ} {gens:List Comprehension} {sc:ſ} {ps:Pos} {tests:List Ġ} {d:Nat} {wi:TI} {g:TG} {tf:TT} {ta:j7} {act:Ú->Sem PySem.Fin} {c:Code} (hx:Y.xe=λ_ _=>False) (hc:Y.calm=true) (hd:gens[d]?=some ⟨tg,src,tests,0⟩)
  (hi:PI Y tg src wi) (hG:PG Y tg g) (fL:mv g nt) (hF:PF Y tests tf) (hA:∀it:Ú,ug Y D nt caps (.compLoop (.ListComp el gens sc ps) d (.ref it) (.ref D) Y.env) (act it) ta)
  (ht:∀it:Ú,compTurn (.ListComp el gens sc ps) d (.ref it) (.ref D) Y.env=(do
   abN src.pos
   match <- aac (.ref it) with
   |none=>pure (.done .next)
   |some v =>
    Ň tg (.ref it) v
    abH tg Y.env v
    let mut ok:=true
    for c in tests do
     if ok then ok <- isTrue c Y.env (ļ c Y.env)
    if ok then act it else again (.compLoop (.ListComp el gens sc ps) d (.ref it) (.ref D) Y.env)))
  (hs:∀x,ü src Y.env x=pure x) :
  ug Y D nt caps c (do
   let x <- ļ src Y.env
   abN src.pos
   let x <- ü src Y.env x
   let _ <- runOwn (.compStart (.ListComp el gens sc ps) d (<- abx [x] (pyIter x)) (.ref D) Y.env) Y.env
   again c) (JE wi g tf ta):=by
 intro X o H s Z Q W B h;obtain⟨V,M,nn,a,L,K,I⟩:=W.obj B;have q:=hi _ s _ H _ I h;rw[hx] at q;refine À (aH q λv s1 G=>À (Š ?_));rw[hs];refine À (Ã (À (Ĉ (aH G λgp F E=>?_))));obtain⟨it,U,tn,J,S,e,R,T,P,f2,ca⟩:=E;subst e;have O:=R.pin (D,V) (Î _ (Î _ (by simp)));have C:D∉U:=λz=>(f2 D z).2.2.2.2.2 (D,V) (Î _ (Î _ (by simp))) rfl;have y:∀b∈U,fg Y X S b:=λb w=>by
  obtain⟨a1,a2,u,t,n,m⟩:=f2 b w;refine⟨a1,a2,u,t,n,λp l=>m p ?_⟩
  rcases ċ.mp l with z|z
  ·exact ā _ z
  ·exact Î _ (ā _ z)
 have k:pP Y D nt caps X o S F Z:=⟨R.lP,B.len,⟨M,⟨nn,by rw[<- L];exact O.1⟩,K⟩,O.2.1,B.lE⟩;have loop:=Fz (e:=.ListComp el gens sc ps) (d:=d) hx hc T P y C hG fL hF (hA it) W k rfl (λ_ A j i N h=>Iv A j i N h) (ht it) ca;refine À (wpAny_runOwn ?_);refine Ŏ (Qt hd loop (T.self _ _ _ _ _ P loop)) λr N f=>?_;obtain⟨e,q⟩:=f;subst e;exact Ã ⟨rfl,q⟩
end
def Iw (wi:TI) (nt:Nat) (cap:List Nat) (g:TG) (tf:TT) (ta:j7):TE:=fun σ H Q=>wi σ H λJ X=>CA J g tf ta (Ò nt none++lV cap σ) [] X λ_ Z Y=>∀D,Y D=none->Q (.ref D) (upd Y D (.lst Z))
section
variable {X:Cx}
def GN {el tg src:Ġ} {tests:List Ġ} {rest:List Comprehension} {sc:ſ} {ps:Pos} {N:List Str} {nt:Nat} {cap:List Nat} {wi:TI} {g:TG} {tf:TT} {ta:j7} {act:Env->Ú->Ú->Sem PySem.Fin} (hc:X.calm=true) (S:sE X sc N nt cap) (fL:mv g nt) (hi:PI X tg src wi)
  (hY:∀(cl:List (Str×Ú)) (C:Ú) (s:Ä) (H:Hp) (ex:List Ú) (pn:List (Ú×Obj)),PG (dJ X N sc cl C s H ex pn) tg g/\PF (dJ X N sc cl C s H ex pn) tests tf/\∀D caps it,ug (dJ X N sc cl C s H ex pn) D nt caps (.compLoop (.ListComp el (⟨tg,src,tests,0⟩::rest) sc ps) 0 (.ref it) (.ref D) (compEnvC sc cl C X.env)) (act (compEnvC sc cl C X.env) D it) ta)
  (ht:∀(it D:Ú) (ce:Env),compTurn (.ListComp el (⟨tg,src,tests,0⟩::rest) sc ps) 0 (.ref it) (.ref D) ce=(do
   abN src.pos
   match <- aac (.ref it) with
   |none=>pure (.done .next)
   |some v =>
    Ň tg (.ref it) v
    abH tg ce v
    let mut ok:=true
    for c in tests do
     if ok then ok <- isTrue c ce (ļ c ce)
    if ok then act ce D it else again (.compLoop (.ListComp el (⟨tg,src,tests,0⟩::rest) sc ps) 0 (.ref it) (.ref D) ce)))
  (hs:∀x,ü src X.env x=pure x:=by intro _;rfl):PE X (.ListComp el (⟨tg,src,tests,0⟩::rest) sc ps) (Iw wi nt cap g tf ta):=by
 intro π s σ H Q I h;obtain⟨cl,Bl,j⟩:=Ii (env:=X.env) (sc:=sc) λn F=>I.ok.has n (S.frees _ F rfl).2;rw[eval_ListComp];refine wpAny_comprehension_free (use:=none) rfl hs Bl S.kind S.names (aH (hi π s σ H _ I h) λxv s1 h1=>aH h1 λgp Z h2=>?_);obtain⟨it,R,tn,J,E,e,U,T,i,f2,ca⟩:=h2;subst e;refine ù (wpAny_newFunctionEnv S.sF (by intro y hy;simp at hy) (λh3 B L=>?_) S.kind);dsimp only at B L |-;generalize f:Z.heap.objs.size=D at B L |-;generalize a:Z.heap.push { cls:=.type "list",dict:=none,data:=.seq ([]:List Å).toArray }=G at B L |-;generalize Dt:G.objs.size=C at B L |-;have hC:C=D+1:=by rw[<- Dt,<- a,ĉ,f]
 have pS:D≠C:=by omega
 have P:Z.heap.objs.size<=D:=Nat.le_of_eq f;have t:Z.heap.objs.size<=C:=by omega
 have old:∀b o,Z.heap.get? b=some o->h3.get? b=some o:=λb o e=>L.extBut b o (ß (Ç (Ì e) t)) (Á _ (a ▸ Á _ e));have j5:h3.PlainList D #[]:=⟨_,L.extBut _ _ pS (Á _ (a ▸ f ▸ Í _ rfl))⟩;have fJ:∀b∈R,b<Z.heap.objs.size:=λb O=>by
  obtain⟨o,e,_⟩:=T.obj _ _ i b O;exact Ì e
 have IB:=U.block (t':=Z.toks+([]:List (Str×Å)).length) S j f2 fJ old t ⟨_,B⟩;have Du:D∉b9 X.stack:=λz=>by
  rcases Ô.mp (U.jO D z) with e|e
  ·exact absurd (Ç U.lt P) (by rw[e];exact ñ _)
  ·exact U.tR P e
 have mC:D∉R:=λz=>absurd (Ç (fJ D z) P) (ñ _);have AK:∀x c,cl.lookup x=some c->c≠D:=λx c e z=>by
  obtain⟨v,o,ho,_⟩:=U.cell x c ((j x c).mp e).2;exact absurd (Ç (Ì ho) (by rw[z];exact P)) (ñ _)
 have Bm:∀p∈X.pn++π,p.1≠D:=λp hp z=>absurd (Ç (Ì (U.pin p hp).1) (by rw[z];exact P)) (ñ _);have fin:∀(s':Ä) (τ:St) (W:Hp) (acc:List V) (M:Array Å),Inv (dJ X N sc cl C Z E R (X.pn++π)) [] τ W s'->s'.heap.PlainList D M->Vals acc M.toList->W D=none->acc.length<=Ñ->(∀D,W D=none->Q (.ref D) (upd W D (.lst acc))) ->
   compPost (ã X.prog X.w) X.A X.xe none (EP X π σ Q) (.ref D) C (.ok .next) s':=by
  intro s' τ W acc M K pl rv F hz q;obtain⟨m,hm,_⟩:=id K.loc;refine⟨m,hm,λl sb=>?_⟩;have Ci:cq X.prog X.w W l:=K.aC.but K.free sb;obtain⟨n,ho⟩:=pl;have fI:l.get? D=some { cls:=.type "list",data:=.seq M n }:=(sb.2 D pS).trans ho;have new:di X.prog X.w (upd W D (.lst acc)) l D (.lst acc):=⟨hz,M.toList,n,rv,by simpa using fI⟩;have u:=(K.base.but t sb).adopt (o:=.lst acc) P F
  refine⟨.ref D,upd W D (.lst acc),U.sX (s':={ s' with heap:=l }) (ch:=R) K.os u (Ci.adopt F new) K.bare (λb O=>?_),rfl,q D F⟩
  obtain⟨_,f1,_,f3,f4,f5⟩:=f2 b O;exact⟨f3,f1,f4,f5⟩
 have mE:∀b∈R,fg (dJ X N sc cl C Z E R (X.pn++π)) [] E b:=λb O=>by
  obtain⟨f0,f1,pQ,f3,f4,f5⟩:=f2 b O;refine⟨f0,ß (Ç (fJ b O) t),λz=>?_,.inl O,λx c e=>f4 x c ((j x c).mp e).2,λp uZ=>?_⟩
  ·rcases Ô.mp (U.jO b z) with e|e
   ·exact f1 e
   ·exact pQ e
  ·exact f5 p (by simpa using uZ)
 obtain⟨Dv,Dw,YG⟩:=hY cl C Z E R (X.pn++π);have loop:=Fz (Y:=dJ X N sc cl C Z E R (X.pn++π)) (D:=D) (nt:=nt) (caps:=lV cap σ) (e:=.ListComp el (⟨tg,src,tests,0⟩::rest) sc ps) (d:=0) (π:=[]) (o:=Ò nt none) (acc:=[]) rfl hc T
  (T.keep _ _ _ i λb _ o e=>old b o e) mE mC Dv fL Dw (YG D _ it) ⟨pS,Du,P,AK,λp hp=>Bm p (by simpa using hp)⟩ ⟨IB,by simp,⟨#[],j5,.nil⟩,U.aC.fresh P,ē _⟩ rfl (λ_ A Q' E' s' h=>Iv A Q' E' s' h) (ht it D _) ca
 have JF:=Ŏ loop (R':=compPost (ã X.prog X.w) X.A X.xe none (EP X π σ Q) (.ref D) C) λr s' hr=>by
  obtain⟨e,o',W,gG,k,q'⟩:=hr;subst e;obtain⟨M,pl,rv⟩:=k.lst;exact fin s' _ W gG M k.inv pl rv k.free k.lE q'
 exact codeAny_compStart_list JF (T.self _ _ _ _ _ (T.keep _ _ _ i λb _ o e=>old b o e) JF)
end
end L2
namespace DI
open PySem L2
def fT:û "isinstance"=some (.builtin "isinstance"):=by decide +kernel
def oT:û "int"=some (.type "int"):=by decide +kernel
def AL:û "bool"=some (.type "bool"):=by decide +kernel
def jd:û "tuple"=some (.type "tuple"):=by decide +kernel
def wL:û "list"=some (.type "list"):=by decide +kernel
def m8:û "str"=some (.type "str"):=by decide +kernel
def V3:û "set"=some (.type "set"):=by decide +kernel
def tF:û "all"=some (.builtin "all"):=by decide +kernel
def JG:û "any"=some (.builtin "any"):=by decide +kernel
def iP:û "len"=some (.builtin "len"):=by decide +kernel
def V4:û "max"=some (.builtin "max"):=by decide +kernel
def V5:û "min"=some (.builtin "min"):=by decide +kernel
def zD:û "sorted"=some (.builtin "sorted"):=by decide +kernel
structure Gd (K:Ē) (mg:Str->Option Å) (x:Str) (st:abM) (ps:List Str) (f:Ú) (fd:ĝ):Prop where
 mg:mg x=some (.ref f)
 fn:pG K x x st f fd
 b:Binds K fd ps []
def V6 {P:â} {w:Ą} {K:Ē} {mg:Str->Option Å} {base:Ī} {k:Nat} {f:Ú} {fd:ĝ} {ps:List Str} {g:List D->aa->Res D} (h:∀ds s,g ds s=none):cR P w K mg base dg k f fd ps (i5 K g) :=
 ⟨λY H Q E Z=>by obtain⟨w,ds,_,_,_,q⟩:=Z;rw[h] at q;exact q.elim,λA outer s H args X Y Q E _ _ _ _ Z=>by obtain⟨w,ds,_,_,_,q⟩:=Z;rw[h] at q;exact q.elim⟩
def js (g:D->Env->Option Env) (t:abZ Bool) (act:abZ (List D)) (l0:Env):List D->aa->Res (List D)
 | [],s=>ok [] s
 |d::Z,s=>match g d l0 with
  |none=>none
  |some env=>aj (ne (t env s)) λb s=>if b=true then aj (ne (act env s)) λY s=>aj (js g t act l0 Z s) λX s=>ok (Y++X) s
   else js g t act l0 Z s
def emit (f:abZ D):abZ (List D):=λenv s=>aj (f env s) λx s=>ok [x] s
def more (it:abZ (List D)) (g:D->Env->Option Env) (t:abZ Bool) (act:abZ (List D)):abZ (List D):=λenv s=>aj (it env s) λZ s=>js g t act env Z s
def sJ (nt:Nat) (cap:List Nat) (it:abZ (List D)) (g:D->Env->Option Env) (t:abZ Bool) (act:abZ (List D)):abZ D:=λenv s =>
 aj (it env s) λY s=>aj (ne (js g t act (Ò nt none++f6 cap env) Y s)) λZ s=>iN Z (ok (.lst Z) s)
def Sl (g:D->Env->Option Env) (sl:List Nat):Prop:=∀d env Z,g d env=some Z->Z.length=env.length/\∀i,i∉sl->Z[i]?=env[i]?
def wo (i:Nat):Sl (gN i) [i]:=λd env Z h=>by
 have e:env.set i (some d)=Z:=ab4 h;subst e;refine⟨Č ..,λj Y=>?_⟩;rw[Ý (λz=>Y (by simp[z]))]
theorem JH:∀(is:List Nat) (ds:List D) (env aA:Env),fP (is.map gN) ds env=some aA->aA.length=env.length/\∀i,i∉is->aA[i]?=env[i]?
 | [],[],env,aA,h=>by
  have e:env=aA:=ab4 h;rw[e];exact⟨rfl,λ_ _=>rfl⟩
 | [],_::_,_,_,h=>by cases h
 |_::_,[],_,_,h=>by cases h
 |j::is,d::ds,env,aA,h=>by
  have Z:fP (is.map gN) ds (env.set j (some d))=some aA:=h;obtain⟨Y,X⟩:=JH is ds _ aA Z;refine⟨by rw[Y,Č],λi hi=>?_⟩;rw[X i (λz=>hi (Ï _ z)),Ý (λz=>hi (by rw[z];exact Ø ..))]
def AD (is:List Nat):Sl (gT (is.map gN)) is:=λd env Z h=>by
 cases d with
 |tup Y=>exact JH is Y env Z h
 |_=>cases h
def len_same {g:D->Env->Option Env} {sl:List Nat} {d:D} {env aA:Env} (hs:Sl g sl) (hg:g d env=some aA):aA.length=env.length:=(hs d env aA hg).1
def gO (sl:List Nat) (env:Env):Prop:=∀i∈sl,∀d,env[i]?≠some (some d)
def bG.back {K:Ē} {w:Wd} {env aA:Env} {σ:St} {g:D->Env->Option Env} {sl:List Nat} {d:D} (hs:Sl g sl) (hf:gO sl env) (hg:g d env=some aA) (hl:env.length=σ.length) (h:bG K w aA σ):bG K w env σ :=
 ⟨hl,λi x e=>by
  by_cases hi:i∈sl
  ·exact absurd e (hf i hi x)
  ·exact h.val i x (by rw[(hs d env aA hg).2 i hi];exact e)⟩
def tG (K:Ē) (Pre:Env->Prop) (ta:j7) (act:abZ (List D)):Prop:=∀(w:Wd) (env:Env) (U:St) (Y:List V) (Z W:List D) (T:aa) (Q:St->List V->Hp->Prop),Pre env->aI K w->bG K w env U->ak K w Z Y ->
 act env w.aw=some (.ok W,T)->Y.length+W.length<=Ñ->(∀X S R,Le K w X->aI K X->X.aw=T->bG K X env S->ak K X (Z++W) R->Q S R X.H)->ta U w.H Y Q
def qf {α β:Type} {r:Res α} {k:α->aa->Res β} {b:β} {s':aa} (h:aj r k=some (.ok b,s')):∃a s,r=some (.ok a,s)/\k a s=some (.ok b,s'):=by
 match r,h with
 |some (.ok a,s),h=>exact⟨a,s,rfl,h⟩
def Al {α:Type} {r:Res α} {a:α} {s:aa} (h:ne r=some (.ok a,s)):r=some (.ok a,s):=by
 match r,h with
 |some (.ok b,Z),h=>exact h
def Fm {K:Ē} {f:abZ D}:tG K (λ_=>True) (JD (tE K bL f)) (emit f):=by
 intro w env W Z Y J I Q _ S X V h U T;obtain⟨x,H,R,P⟩:=qf h;cases P;refine⟨by simpa using U,w,env,rfl,S,X,?_⟩;rw[R];intro O le N M v L;exact T O W (Z++[v]) le N M (X.le le) (ak.append (le.all V) (ak.one L))
def Ge {K:Ē} {Pre:Env->Prop} {g0:TG} {g:D->Env->Option Env} {nt:Nat} {sl:List Nat} {t:abZ Bool} {act:abZ (List D)} {ta:j7} {env:Env} {w1:Wd} {J:It} {ds xs accD:List D} {s':aa} {τ:St} {acc:List V} {Q:St->List V->Hp->Prop}
  (T:Tg K g0 g nt) (hs:Sl g sl) (hf:gO sl env) (hp:∀d aA,g d env=some aA->Pre aA) (hA:tG K Pre ta act) (hJ:pM K w1 J ds) (S1:aI K w1) (eo:bG K w1 env τ) (da:ak K w1 accD acc)
  (h:js g t act env ds w1.aw=some (.ok xs,s')) (hl:acc.length+xs.length<=Ñ) (hQ:∀w' cT vs,Le K w1 w'->aI K w'->w'.aw=s'->bG K w' env cT->ak K w' (accD++xs) vs->Q cT vs w'.H) :
  CA J g0 (tT K bL t) ta τ acc w1.H Q:=by
 refine⟨λi m τ acc r=>m=ds.length-i/\i<=ds.length/\∃w' accD xs,w'.H=r/\Le K w1 w'/\aI K w'/\bG K w' env τ/\ak K w' accD acc/\js g t act env (ds.drop i) w'.aw=some (.ok xs,s')/\acc.length+xs.length<=Ñ /\
   (∀Z cT vs,Le K w' Z->aI K Z->Z.aw=s'->bG K Z env cT->ak K Z (accD++xs) vs->Q cT vs Z.H),
  ⟨ds.length,rfl,ē _,w1,accD,xs,rfl,Le.refl _,S1,eo,da,h,hl,hQ⟩,?_⟩
 rintro i m τ acc r ⟨rfl,hi,w',accD,xs,rfl,P,L,p,O,Y,I,G⟩;by_cases F:i<ds.length
 ·right
  obtain⟨fL,hy⟩:=(hJ w' P L i).1 _ (Ð F);rw[Ņ F] at Y;simp only[js] at Y
  cases X:g ds[i] env with
  |none=>rw[X] at Y;cases Y
  |some S =>
   rw[X] at Y;obtain⟨b,s2,E,N⟩:=qf Y;have E:=Al E;refine⟨fL,fun τ acc o=>∃w' accD xs,w'.H=o/\Le K w1 w'/\aI K w'/\bG K w' env τ/\ak K w' accD acc/\js g t act env (ds.drop (i+1)) w'.aw=some (.ok xs,s')/\acc.length+xs.length<=Ñ /\
    (∀Z cT vs,Le K w' Z->aI K Z->Z.aw=s'->bG K Z env cT->ak K Z (accD++xs) vs->Q cT vs Z.H),fun pH nu o q=>⟨ds.length-(i+1),by omega,rfl,F,q⟩,λx H3 y=>?_⟩
   obtain⟨Z,rfl,U,n,es,dv⟩:=hy x H3 y;refine T.imp _ _ _ _ ⟨Z,env,ds[i],S,rfl,n,p.le U,dv,X,fun l R=>⟨Z,S,rfl,n,R,?_⟩⟩;have k:∀{j:St},j.length=l.length->S.length=j.length:=λe=>by rw[R.len,e]
   have el:env.length=S.length\/True:=.inr trivial;rw[es,E];intro f W c a
   cases b with
   |true =>
    rw[Þ rfl] at N |-;obtain⟨ys,s3,M,h3⟩:=qf N;have M:=Al M;obtain⟨zs,s4,hz,h4⟩:=qf h3;cases h4;rw[<- a] at M;refine hA f S l acc accD ys s3 _ (hp _ _ X) c (R.le W) ((U.trans W).all O) M (by rw[é] at I;omega) λw4 τ4 vs l4 S4 e4 Ln Kx=>?_;have lv:=Kx.length;refine⟨w4,accD++ys,zs,rfl,P.trans (U.trans (W.trans l4)),S4,Ln.back hs hf X ?_,Kx,by rw[e4];exact hz,?_,λC B A z w v u s=>G C B A (U.trans (W.trans (l4.trans z))) w v u (by rw[<- Ł];exact s)⟩
    ·rw[<- Ln.len]
     exact(len_same hs X).symm
    ·rw[é] at I lv
     have:=O.length;omega
   |false =>
    rw[ì Õ] at N |-;exact⟨f,accD,xs,rfl,P.trans (U.trans W),c,(R.le W).back hs hf X (by rw[<- R.len];exact(len_same hs X).symm),(U.trans W).all O,by rw[a];exact N,I,λC B A z w v u s=>G C B A (U.trans (W.trans z)) w v u s⟩
 ·left
  have e:i=ds.length:=by omega
  subst e;rw[abq] at Y;cases Y;exact⟨(hJ w' P L _).2 (ab3 _),G w' τ acc (Le.refl _) L rfl p (by rw[þ];exact O)⟩
def yX {K:Ē} {Pre Pre':Env->Prop} {g0:TG} {g:D->Env->Option Env} {nt:Nat} {sl:List Nat} {it:abZ (List D)} {t:abZ Bool} {act:abZ (List D)} {ta:j7} (T:Tg K g0 g nt) (hs:Sl g sl) (hA:tG K Pre ta act)
  (h1:∀env,Pre' env->gO sl env) (h2:∀d env aA,Pre' env->g d env=some aA->Pre aA):tG K Pre' (JE (eU K bL it) g0 (tT K bL t) ta) (more it g t act):=by
 intro w env y V Y x v Q X S W U h R P;obtain⟨u,s,O,N⟩:=qf h;refine⟨w,env,rfl,S,W,?_⟩;rw[O];intro r Z M e1 J L;exact Ge T hs (h1 env X) (λd aA I=>h2 d env aA X I) hA L M (W.le Z) (Z.all U) (by rw[e1];exact N) R λH G F E C B A z=>P H G F (Z.trans E) C B A z
def Gf (T:Tg K g0 g nt) (hs:Sl g sl) (Lo:∀i∈sl,i<nt) (hA:tG K Pre ta act)
 (hp:∀d caps aA,g d (Ò nt none++caps)=some aA->Pre aA) (σ:St) (H:Hp) (Q:VK) :
  tE K Ξ (sJ nt cap it g t act) σ H Q->Iw (eU K Ξ it) nt cap g0 (tT K bL t) ta σ H Q:=by
 rintro ⟨w,env,rfl,S,U,h⟩;refine⟨w,env,rfl,S,U,(Out.aj h).mono λR M L I Y J G=>?_⟩
 cases V:js g t act (Ò nt none++f6 cap env) M R.aw with
 |none=>rw[V] at Y;exact Y.elim
 |some r =>
  obtain⟨r,F⟩:=r;rw[V] at Y
  cases r with
  |error x=>exact Y.elim
  |ok P =>
   have Y:Out K Ξ R (iN P (ok (D.lst P) F)) (λX d=>∀v,DV K X d v->Q v X.H):=Y;obtain⟨E,Y⟩:=qc Y;have C:=(U.le L).block nt cap (Ò nt none) (by simp);refine Ge T hs (λi hi d e=>?_) (λd aA B=>hp d _ aA B) hA G I C (accD:=[]) rfl V (by simpa using E) λX u O A N z s y p W=>?_
   ·rw[Ü (by simpa using Lo i hi),ĥ,Þ (Lo i hi)] at e
    cases e
   ·exact Y (X.grow p (.lst O)) (A.trans (Fw.grow W).le) (N.grow W) z (.ref p) ⟨p,O,rfl,⟨(show ¬ X.Z p from kD N W),cu⟩,(Fw.grow W).le.all y⟩
def gO.of {nt:Nat} {g:D->Env->Option Env} {sl cz:List Nat} (hs:Sl g sl) (hd:∀i∈cz,i<nt/\i∉sl) {d:D} {caps aA:Env} (hg:g d (Ò nt none++caps)=some aA):gO cz aA:=λi hi x e=>by
 obtain⟨Z,Y⟩:=hd i hi;rw[(hs _ _ _ hg).2 i Y,Ü (by simpa using Z),ĥ,Þ Z] at e;cases e
def gO.on (hs:Sl g sl) (hd:∀i∈cz,i∉sl) (hf:gO cz env) (hg:g d env=some aA):gO cz aA:=λi hi x e=>by
 rw[(hs _ _ _ hg).2 i (hd i hi)] at e;exact hf i hi x e
section
variable {X:Cx} {Ξ:Wd->aT->Prop} {el tg src jD iy rH pf:Ġ} {tests kF sL:List Ġ} {sc:ſ} {ps pos:Pos} {N:List Str} {nt:Nat} {cap:List Nat} {it iC yy:abZ (List D)} {gd pT DA:D->Env->Option Env} {g0 u5 Lp:TG} {sl cz mF:List Nat} {ft jC Lq:abZ Bool} {f:abZ D}
abbrev Iy (nt:Nat) (cap:List Nat) (it:abZ (List D)) (g:D->Env->Option Env) (t:abZ Bool) (iC:abZ (List D)) (g2:D->Env->Option Env) (t2:abZ Bool) (f:abZ D):abZ D:=sJ nt cap it g t (more iC g2 t2 (emit f))
abbrev Iz (nt:Nat) (cap:List Nat) (it:abZ (List D)) (g:D->Env->Option Env) (t:abZ Bool) (iC:abZ (List D)) (g2:D->Env->Option Env) (t2:abZ Bool) (yy:abZ (List D)) (g3:D->Env->Option Env) (t3:abZ Bool) (f:abZ D):abZ D:=sJ nt cap it g t (more iC g2 t2 (more yy g3 t3 (emit f)))
noncomputable def apart (nt:Nat) (sl cz:List Nat):Bool:=cz.all (λi=>decide (i<nt)&&!sl.contains i)
def qg (h:apart nt sl cz=true):∀i∈cz,i<nt/\i∉sl:=λi hi=>by
 have:=æ.mp h i hi;simp only[Æ,Ê,Ě,List.contains_eq_mem,decide_eq_false_iff_not] at this;exact this
noncomputable abbrev Ky (e el:Ġ) (d:Nat):PySem.Env->Ú->Ú->Sem PySem.Fin:=λce D it=>(do let _ <- call (.builtin "list.append") [.ref D,<- ļ el ce]:Sem Unit) >>= λ_=>again (.compLoop e d (.ref it) (.ref D) ce)
noncomputable abbrev Ck (e src:Ġ) (d:Nat):PySem.Env->Ú->Ú->Sem PySem.Fin:=λce D it=>do
 let x <- ļ src ce
 abN src.pos
 let x <- ü src ce x
 let _ <- runOwn (.compStart e (d+1) (<- abx [x] (pyIter x)) (.ref D) ce) ce
 again (.compLoop e d (.ref it) (.ref D) ce)
def Se (hc:X.calm=true) (S:sE X sc N nt cap) (T:Tg X.K g0 gd nt) (fu:Sl gd sl) (T2:Tg X.K u5 pT nt) (cX:Sl pT cz) (hi:PI X tg src (eU X.K Ξ it))
  (hY:∀(cl:List (Str×Ú)) (C:Ú) (s:Ä) (H:Hp) (ex:List Ú) (pn:List (Ú×Obj)),PG (dJ X N sc cl C s H ex pn) tg g0/\PF (dJ X N sc cl C s H ex pn) tests (tT X.K bL ft)/\PI (dJ X N sc cl C s H ex pn) jD iy (eU X.K bL iC)/\PG (dJ X N sc cl C s H ex pn) jD u5/\PF (dJ X N sc cl C s H ex pn) kF (tT X.K bL jC)/\PE (dJ X N sc cl C s H ex pn) el (tE X.K bL f))
  (rm:apart nt sl cz=true:=by rfl) (rn:apart nt [] sl=true:=by rfl)
  (hs:∀x,ü src X.env x=pure x:=by intro _;rfl) (DB:∀ce x,ü iy ce x=pure x:=by intro _ _;rfl):PE X (.ListComp el [⟨tg,src,tests,0⟩,⟨jD,iy,kF,0⟩] sc ps) (tE X.K Ξ (Iy nt cap it gd ft iC pT jC f)) :=
 cg (GN (act:=Ck (.ListComp el [⟨tg,src,tests,0⟩,⟨jD,iy,kF,0⟩] sc ps) iy 0) hc S T.kj hi (λcl C s H ex pn=>by
   obtain⟨y1,y2,y3,y4,y5,W⟩:=hY cl C s H ex pn;exact⟨y1,y2,λD Z it=>zC (d:=1) (act:=λY=>Ky (.ListComp el [⟨tg,src,tests,0⟩,⟨jD,iy,kF,0⟩] sc ps) el 1 _ D Y) rfl hc rfl y3 y4 T2.kj y5 (λY=>GK rfl W) (λ_=>rfl) (DB _)⟩) (λ_ _ _=>rfl) hs)
  (Gf (Pre:=gO cz) T fu (λi hi=>(qg rn i hi).1) (yX T2 cX Fm (λ_ h=>h) (λ_ _ _ _ _=>trivial)) λd Z U V=>gO.of fu (qg rm) V)
def Sg (hc:X.calm=true) (S:sE X sc N nt cap) (T:Tg X.K g0 gd nt) (fu:Sl gd sl) (T2:Tg X.K u5 pT nt) (cX:Sl pT cz) (T3:Tg X.K Lp DA nt) (YH:Sl DA mF) (hi:PI X tg src (eU X.K Ξ it))
  (hY:∀(cl:List (Str×Ú)) (C:Ú) (s:Ä) (H:Hp) (ex:List Ú) (pn:List (Ú×Obj)),PG (dJ X N sc cl C s H ex pn) tg g0/\PF (dJ X N sc cl C s H ex pn) tests (tT X.K bL ft)/\PI (dJ X N sc cl C s H ex pn) jD iy (eU X.K bL iC)/\PG (dJ X N sc cl C s H ex pn) jD u5/\PF (dJ X N sc cl C s H ex pn) kF (tT X.K bL jC) /\
   PI (dJ X N sc cl C s H ex pn) rH pf (eU X.K bL yy)/\PG (dJ X N sc cl C s H ex pn) rH Lp/\PF (dJ X N sc cl C s H ex pn) sL (tT X.K bL Lq)/\PE (dJ X N sc cl C s H ex pn) el (tE X.K bL f))
  (rm:apart nt sl cz=true:=by rfl) (YI:apart nt sl mF=true:=by rfl) (YJ:apart nt cz mF=true:=by rfl) (rn:apart nt [] sl=true:=by rfl)
  (hs:∀x,ü src X.env x=pure x:=by intro _;rfl) (DB:∀ce x,ü iy ce x=pure x:=by intro _ _;rfl) (YK:∀ce x,ü pf ce x=pure x:=by intro _ _;rfl):PE X (.ListComp el [⟨tg,src,tests,0⟩,⟨jD,iy,kF,0⟩,⟨rH,pf,sL,0⟩] sc ps) (tE X.K Ξ (Iz nt cap it gd ft iC pT jC yy DA Lq f)) :=
 cg (GN (act:=Ck (.ListComp el [⟨tg,src,tests,0⟩,⟨jD,iy,kF,0⟩,⟨rH,pf,sL,0⟩] sc ps) iy 0) hc S T.kj hi (λcl C s H ex pn=>by
   obtain⟨y1,y2,y3,y4,y5,V,U,R,Q⟩:=hY cl C s H ex pn;exact⟨y1,y2,λD Z it=>zC (d:=1) (act:=λW=>Ck (.ListComp el [⟨tg,src,tests,0⟩,⟨jD,iy,kF,0⟩,⟨rH,pf,sL,0⟩] sc ps) pf 1 _ D W) rfl hc rfl y3 y4 T2.kj y5 (λW=>zC (d:=2) (act:=λiC=>Ky (.ListComp el [⟨tg,src,tests,0⟩,⟨jD,iy,kF,0⟩,⟨rH,pf,sL,0⟩] sc ps) el 2 _ D iC) rfl hc rfl V U T3.kj R (λiC=>GK rfl Q) (λ_=>rfl) (YK _)) (λ_=>rfl) (DB _)⟩) (λ_ _ _=>rfl) hs)
  (Gf (Pre:=λenv=>gO cz env/\gO mF env) T fu (λi hi=>(qg rn i hi).1) (yX T2 cX (yX (Pre':=gO mF) T3 YH Fm (λ_ h=>h) (λ_ _ _ _ _=>trivial)) (λ_ h=>h.1) (λd env P h Y=>gO.on cX (λi hi=>(qg YJ i hi).2) h.2 Y)) λd Z P Y=>⟨gO.of fu (qg rm) Y,gO.of fu (qg YI) Y⟩)
end
end DI
namespace L2
open PySem PySem.Spec PyProof.Rows
end L2
namespace HT
open PySem PyProof.Rows
def Cm (A:î) (s:Ä) (y x:Å) (b:Bool):Prop:=∀(prog:â) (w:Ą) (E:Å->Ä->Prop) (Q:Å->Ä->Prop),Q (.bool b) s->Û (ã prog w) A (richCompare .Lt y x) Q E s
inductive iJ (A:î) (s:Ä):List Å->List Å->Bool->Prop where
 |nn:iJ A s [] [] false
 |nc (y:Å) (ys:List Å):iJ A s [] (y::ys) true
 |cn (x:Å) (xs:List Å):iJ A s (x::xs) [] false
 |eq {x y:Å} {xs ys:List Å} {b:Bool}:SeqAt.EqAt A s x y true->iJ A s xs ys b->iJ A s (x::xs) (y::ys) b
 |lt {x y:Å} {xs ys:List Å} {b:Bool}:SeqAt.EqAt A s x y false->Cm A s x y b->iJ A s (x::xs) (y::ys) b
section
open PySem.SeqAt
open PySem.AutoSeq1 (wpAny_loadPart')
open PySem.MeetsSeq PySem.MeetsSeq2 PySem.MeetsSeq3
def N5 (l b:Ú) (items mS:Array Å) (n n2:Nat) (dd nC:Option Ú) (sl cz:Array (Option Å)) (mG:Bool) :
  Meets (ū.«tuple.__lt__» ⟨[.ref l,.ref b],[]⟩)
   (λA R s=>s.heap.get? l=some { cls:=.type "tuple",dict:=dd,data:=.seq items n,slots:=sl }/\s.heap.get? b=some { cls:=.type "tuple",dict:=nC,data:=.seq mS n2,slots:=cz } /\
    iJ A.in1 s items.toList mS.toList mG/\R (.ok (.ret (.bool mG))) s) :=
 .of_wp λprog w A R s h=>by
  obtain⟨N,g,d,M,os⟩:=s;obtain⟨K,J,I,h⟩:=h;have f2:=AutoSeq1.sub_tuple_tuple
  wp_walk using wpAny_loadPart' K,wpAny_loadPart' J,wpAny_forIn_list _ (λrest b W=>b.1=none/\W=⟨N,g,d,M,os⟩/\∃(X ws:List Å),rest=X.zip ws /\
   iJ A.in1 ⟨N,g,d,M,os⟩ X ws mG/\X.length+mS.size=ws.length+items.size) _
  case turn =>
   rintro ⟨y,x⟩ rest b W ⟨V,rfl,X,ws,Y,U,Z⟩
   cases U with
   |nn=>cases Y
   |nc _ _=>cases Y
   |cn _ _=>cases Y
   |eq T S =>
    rw[ě] at Y
    injection Y with Q L
    injection Q with P O
    subst P O;simp only[õ] at Z;refine À (T prog w _ _ ?_)
    wp_walk
    exact⟨rfl,rfl,_,_,L,S,by omega⟩
   |lt T S =>
    rw[ě] at Y
    injection Y with Q L
    injection Q with P O
    subst P O;refine À (T prog w _ _ ?_);have H:=S prog w
    wp_walk using H
    exact⟨_,rfl,by simpa using h⟩
  case fin =>
   rintro ⟨F,E⟩ W ⟨V,rfl,X,ws,Y,U,Z⟩;simp only at V;subst V;have G:mG=decide (items.size<mS.size):=by
    cases U with
    |nn=>simp only[đ] at Z;exact(ç (by omega)).symm
    |nc _ _=>simp only[đ,õ] at Z;exact(Ó (by omega)).symm
    |cn _ _=>simp only[đ,õ] at Z;exact(ç (by omega)).symm
    |eq _ _=>rw[ě] at Y;cases Y
    |lt _ _=>rw[ě] at Y;cases Y
   rw[G] at h
   wp_walk
   exact⟨_,rfl,by simpa [Builtin.Tuple.tupleCompareSizes] using h⟩
  case h =>
   exact⟨rfl,rfl,items.toList,mS.toList,rfl,I,by simp only[ò];omega⟩
end
open PySem.SeqAt PySem.MeetsSeq
section
variable {prog:â} {w:Ą} {A:î} {E:Å->Ä->Prop} {s:Ä}
def Hw (hl:IsTup s.heap l items) (hb:IsTup s.heap b mS) (hA:∀A':î,A'.units<=A.units+4->iJ A' s items.toList mS.toList mG)
 (hu:A.units<abV) (h:Q (.bool mG) s):Û (ã prog w) A (richCompare .Lt (.ref l) (.ref b)) Q E s:=by
 obtain⟨⟨cls,U,data,T⟩,Z,Y,n,X⟩:=id hl;obtain⟨⟨O,S,data2,R⟩,W,V,P,hd2⟩:=id hb;simp only at Y X V hd2;subst Y X V hd2;refine richCompare_meets_room (op:=.Lt) ⟨_,Z,rfl⟩ ⟨_,W,rfl⟩ PySem.F.slot_tuple_lt PySem.F.entry_tuple_lt (PySem.F.args_tuple_lt_2 _ _) (N5 l b items mS n P U S T R mG)
  ⟨Z,W,hA _ ?_,show Ś mG≠Value.notImplemented/\Q (.bool mG) s from ⟨(λx=>nomatch x),h⟩⟩ hu
 show A.units+1<=A.units+4;omega
end
end HT
namespace DI
open PySem L2 HT
mutual
noncomputable def iE:D->D->Option Bool
 | .int i,.int j=>some (decide (i<j))
 | .str x,.str y=>some (decide (x.cps.toList<y.cps.toList))
 | .tup Z,.tup Y=>iU Z Y
 |_,_=>none
noncomputable def iU:List D->List D->Option Bool
 | [],[]=>some false
 | [],_::_=>some true
 |_::_,[]=>some false
 |x::Z,y::Y=>if beq x y=true then iU Z Y else iE x y
end
section
variable {X:Cx} {Ξ:Wd->aT->Prop} {π:List (Ú×Obj)} {σ:St} {s:Ä} {w:Wd}
def V7 (I:Inv X π σ w.H s) (A:î) (lx:lay x=true) (ly:lay y=true) (hu:A.units+dep x<abV) (hx:DV X.K w x v) (hy:DV X.K w y u) (rx:RelV v vx) (ry:RelV u vy):SeqAt.EqAt A s vx vy (beq x y):=by
 obtain⟨as,Z⟩:=(hx.py (og _ lx)).reads I rx;obtain⟨bs,Y⟩:=(hy.py (og _ ly)).reads I ry;obtain⟨W,V⟩:=jQ _ lx;obtain⟨U,T⟩:=jQ _ ly;have:=SeqAt.eqAt_reads _ _ A s vx vy as bs Z Y W U (by rw[V];omega);rw[qA _ _ lx ly] at this;exact this
mutual
theorem JJ (I:Inv X π σ w.H s):∀(A:î) (x y:D) (b:Bool) (v u:V) (vx vy:Å),iE x y=some b->lay x=true->lay y=true->A.units+5*dep x+5<abV->DV X.K w x v->DV X.K w y u->RelV v vx->RelV u vy->Cm A s vx vy b
 |A,.int i,.int j,b,v,u,vx,vy,h,_,_,_,Z,Y,W,U=>by
  cases h;cases Z;cases Y;obtain⟨t,rfl⟩:=W;obtain⟨T,rfl⟩:=U;intro prog w E Q q;exact Gw A s i t j T prog w E Q q
 |A,.str i,.str j,b,v,u,vx,vy,h,_,_,S,Z,Y,W,U=>by
  cases h;cases Z;cases Y;obtain⟨t,rfl⟩:=W;obtain⟨T,rfl⟩:=U;intro prog w E Q q;exact(PyProof.Rows.lt_str q:Û (ã prog w) A (Ė .Lt (.str i t) (.str j T)) Q E s)
 |A,.tup R,.tup P,b,v,u,vx,vy,h,O,N,S,Z,Y,W,U=>by
  simp only[iE] at h;simp only[DV] at Z Y;obtain⟨a,as,rfl,M,L⟩:=Z;obtain⟨c,cs,rfl,J,G⟩:=Y;cases W;cases U;obtain⟨its,F,C,_⟩:=I.tuple M;obtain⟨B,z,r,_⟩:=I.tuple J;intro prog n E Q q;simp only[dep] at S;exact Hw C r (λp o=>by
   have:=IA I p R P b as cs its B h (by simpa [lay] using O) (by simpa [lay] using N) (by omega) L G F z;simpa using this) (by omega) q
 |_,.ao,_,_,_,_,_,_,h,_,_,_,_,_,_,_=>by cases h
 |_,.bl _,_,_,_,_,_,_,h,_,_,_,_,_,_,_=>by cases h
 |_,.lst _,_,_,_,_,_,_,h,_,_,_,_,_,_,_=>by cases h
 |_,.bK _,_,_,_,_,_,_,h,_,_,_,_,_,_,_=>by cases h
 |_,.az _,_,_,_,_,_,_,h,_,_,_,_,_,_,_=>by cases h
 |_,.ty _,_,_,_,_,_,_,h,_,_,_,_,_,_,_=>by cases h
 |_,.bJ _,_,_,_,_,_,_,h,_,_,_,_,_,_,_=>by cases h
 |_,.exc _ _,_,_,_,_,_,_,h,_,_,_,_,_,_,_=>by cases h
 |_,.cA _ _ _,_,_,_,_,_,_,h,_,_,_,_,_,_,_=>by cases h
 |_,.int _,.ao,_,_,_,_,_,h,_,_,_,_,_,_,_=>by cases h
 |_,.int _,.bl _,_,_,_,_,_,h,_,_,_,_,_,_,_=>by cases h
 |_,.int _,.str _,_,_,_,_,_,h,_,_,_,_,_,_,_=>by cases h
 |_,.int _,.tup _,_,_,_,_,_,h,_,_,_,_,_,_,_=>by cases h
 |_,.int _,.lst _,_,_,_,_,_,h,_,_,_,_,_,_,_=>by cases h
 |_,.int _,.bK _,_,_,_,_,_,h,_,_,_,_,_,_,_=>by cases h
 |_,.int _,.az _,_,_,_,_,_,h,_,_,_,_,_,_,_=>by cases h
 |_,.int _,.ty _,_,_,_,_,_,h,_,_,_,_,_,_,_=>by cases h
 |_,.int _,.bJ _,_,_,_,_,_,h,_,_,_,_,_,_,_=>by cases h
 |_,.int _,.exc _ _,_,_,_,_,_,h,_,_,_,_,_,_,_=>by cases h
 |_,.int _,.cA _ _ _,_,_,_,_,_,h,_,_,_,_,_,_,_=>by cases h
 |_,.str _,.ao,_,_,_,_,_,h,_,_,_,_,_,_,_=>by cases h
 |_,.str _,.bl _,_,_,_,_,_,h,_,_,_,_,_,_,_=>by cases h
 |_,.str _,.int _,_,_,_,_,_,h,_,_,_,_,_,_,_=>by cases h
 |_,.str _,.tup _,_,_,_,_,_,h,_,_,_,_,_,_,_=>by cases h
 |_,.str _,.lst _,_,_,_,_,_,h,_,_,_,_,_,_,_=>by cases h
 |_,.str _,.bK _,_,_,_,_,_,h,_,_,_,_,_,_,_=>by cases h
 |_,.str _,.az _,_,_,_,_,_,h,_,_,_,_,_,_,_=>by cases h
 |_,.str _,.ty _,_,_,_,_,_,h,_,_,_,_,_,_,_=>by cases h
 |_,.str _,.bJ _,_,_,_,_,_,h,_,_,_,_,_,_,_=>by cases h
 |_,.str _,.exc _ _,_,_,_,_,_,h,_,_,_,_,_,_,_=>by cases h
 |_,.str _,.cA _ _ _,_,_,_,_,_,h,_,_,_,_,_,_,_=>by cases h
 |_,.tup _,.ao,_,_,_,_,_,h,_,_,_,_,_,_,_=>by cases h
 |_,.tup _,.bl _,_,_,_,_,_,h,_,_,_,_,_,_,_=>by cases h
 |_,.tup _,.int _,_,_,_,_,_,h,_,_,_,_,_,_,_=>by cases h
 |_,.tup _,.str _,_,_,_,_,_,h,_,_,_,_,_,_,_=>by cases h
 |_,.tup _,.lst _,_,_,_,_,_,h,_,_,_,_,_,_,_=>by cases h
 |_,.tup _,.bK _,_,_,_,_,_,h,_,_,_,_,_,_,_=>by cases h
 |_,.tup _,.az _,_,_,_,_,_,h,_,_,_,_,_,_,_=>by cases h
 |_,.tup _,.ty _,_,_,_,_,_,h,_,_,_,_,_,_,_=>by cases h
 |_,.tup _,.bJ _,_,_,_,_,_,h,_,_,_,_,_,_,_=>by cases h
 |_,.tup _,.exc _ _,_,_,_,_,_,h,_,_,_,_,_,_,_=>by cases h
 |_,.tup _,.cA _ _ _,_,_,_,_,_,h,_,_,_,_,_,_,_=>by cases h
theorem IA (I:Inv X π σ w.H s):∀(A:î) (xs ys:List D) (b:Bool) (vs us:List V) (ps qs:List Å),iU xs ys=some b->c9 xs=true->c9 ys=true->A.units+5*dB xs+5<abV->ak X.K w xs vs->ak X.K w ys us->Vals vs ps->Vals us qs->iJ A s ps qs b
 |A,[],[],b,vs,us,ps,qs,h,_,_,_,W,U,Z,Y=>by
  cases h;cases W;cases U;cases Z;cases Y;exact .nn
 |A,[],y::ys,b,vs,us,ps,qs,h,_,_,_,W,U,Z,Y=>by
  cases h;cases W;cases Z;obtain⟨u,r,rfl,_,_⟩:=U;cases Y;exact .nc _ _
 |A,x::xs,[],b,vs,us,ps,qs,h,_,_,_,W,U,Z,Y=>by
  cases h;cases U;cases Y;obtain⟨u,r,rfl,_,_⟩:=W;cases Z;exact .cn _ _
 |A,x::xs,y::ys,b,vs,us,ps,qs,h,T,S,N,W,U,Z,Y=>by
  obtain⟨v,r,rfl,P,dr⟩:=W;obtain⟨u,G,rfl,O,M⟩:=U;simp only[c9,Æ] at T S;simp only[dB] at N;have F:=aaV (dep x) (dB xs);have E:=Ŵ (dep x) (dB xs)
  cases Z with
  |cons Z L =>
   cases Y with
   |cons Y J =>
    have R:=V7 I A T.1 S.1 (by omega) P O Z Y;simp only[iU] at h;split at h
    ·rename_i Q
     rw[Q] at R;exact .eq R (IA I A xs ys b _ _ _ _ h T.2 S.2 (by omega) dr M L J)
    ·rename_i Q
     rw[ű] at Q;rw[Q] at R;exact .lt R (JJ I A x y b _ _ _ _ h T.1 S.1 (by omega) P O Z Y)
end
def kY (x y:D) (s:aa):Res D:=if (lay x&&lay y&&decide (dep x<=30))=true then bM ((iE x y).map D.bl) s else none
def xO (hr:bP k X.A):bt X (Ė .Lt) (rO X.K Ξ kY):=by
 rintro O s σ H x y v u Q I U T ⟨w,W,V,rfl,S,R,P,h⟩;unfold kY at h;split at h
 ·rename_i Z
  simp only[Æ,Ê] at Z;obtain⟨d,e,h⟩:=fc h
  cases Y:iE W V with
  |none=>rw[Y] at e;cases e
  |some b =>
   rw[Y] at e;cases e;exact JJ I X.A W V b x y v u Y Z.1.1 Z.1.2 (by have:=hr.un;have:=Z.2;have:abV=9900:=rfl;omega) R P U T _ _ _ _ ⟨.bl b,w.H,I,rfl,au S h _ rfl⟩
 ·exact h.elim
end
end DI
namespace DI
open PySem L2
section
variable {X:Cx} {Ξ:Wd->aT->Prop} {e:Ġ} {p pos kp1 kp2 Xb aaq:Pos} {f:abZ D}
end
def p6:List D->aa->Res D:=aM 2 2 (ax (bB (bg (e2 kY (ae 1) (eB cy (af (ae 0) ah)))) (aG (e2 ar (ae 0) (ae 1))) bQ) (aG (eC (.int 0))))
def sk:List D->aa->Res D:=aM 2 3 (ax (aU (aD p6 (af (ae 0) (af (ae 1) ah))) (gN 2)) (aG (eNew (af (eB qK (af (eC (.int 0)) (af (e2 tm (ae 2) (e2 qI (eC (.int 10)) (eC (.int 18)))) ah))) (af (e2 gQ (ae 2) (eC (.int 2147483647))) ah)))))
def cH:List D->aa->Res D:=aM 2 4 (ax (bB (bg (e2 t9 (e2 ar (ae 0) (eC (.int 0))) (eC (.int 0)))) (ax (aU (e2 gQ (e2 ar (ae 0) (eC (.int 0))) (ae 1)) (gN 2)) (ax (ma (e2 oQ (e2 ar (ae 0) (eC (.int 0))) (ae 1)) (ae 0) (eC (.int 0))) (aG (ae 2)))) bQ) (ax (ma (e2 gQ (e2 bO (e2 eQ (e2 ar (ae 0) (eC (.int 1))) (eC (.int 48271))) (eC (.int 29))) (eC (.int 2147483647))) (ae 0) (eC (.int 1))) (ax (aU (e2 gQ (e2 bO (e2 bO (e2 eQ (e2 ar (ae 0) (eC (.int 1))) (e2 ar (ae 0) (eC (.int 1)))) (e2 eQ (eC (.int 39373)) (e2 ar (ae 0) (eC (.int 1))))) (eC (.int 7))) (eC (.int 2147483629))) (gN 3)) (ax (aU (e2 gQ (e2 bO (e2 eQ (ae 3) (ae 3)) (e2 eQ (eC (.int 16807)) (ae 3))) (eC (.int 2147483587))) (gN 3)) (aG (e2 gQ (e2 oQ (ae 3) (eC (.int 8))) (ae 1)))))))
def fV:Nat->List D->aa->Res D
 |0=>λ_ _=>none
 |n+1=>aM 2 2 (ax (bB (cN (e1 qW (ae 1))) (ax (bB (gY (bg (e2 dW (eB cm (af (ae 0) (af (eC (.ty "tuple")) ah))) (eB cm (af (ae 1) (af (eC (.ty "tuple")) ah))))) (bg (e2 dW (eB cm (af (ae 0) (af (eC (.ty "list")) ah))) (eB cm (af (ae 1) (af (eC (.ty "list")) ah)))))) (aG (eC (.bl false))) bQ) (aG (dA (e2 aY (eB cy (af (ae 0) ah)) (eB cy (af (ae 1) ah))) (eB l9 (af (cB 2 [] (o9 (af (ae 0) (af (ae 1) ah))) (gT [gN 0,gN 1]) dh (aD (fV n) (af (ae 0) (af (ae 1) ah)))) ah))))) bQ) (aG (dA (e2 aY (eB cm (af (ae 0) (af (eC (.ty "bool")) ah))) (eB cm (af (ae 1) (af (eC (.ty "bool")) ah)))) (e2 aY (ae 0) (ae 1)))))
def n5:List D->aa->Res D:=aM 1 1 (aG (eB l9 (af (cB 2 [] (o9 (af (ae 0) (af (pO (ae 0) (pd (eC (.int 1))) pN) ah))) (gT [gN 0,gN 1]) dh (e2 kY (ae 0) (ae 1))) ah)))
def yY:List D->aa->Res D:=aM 1 1 (aG (dA (eB cm (af (ae 0) (af (eC (.ty "int")) ah))) (dA (t5 (eB cm (af (ae 0) (af (eC (.ty "bool")) ah)))) (e2 ua (ae 0) (eC (.int 0))))))
def p9:List D->aa->Res D:=aM 2 2 (aG (dA (aD yY (af (ae 0) ah)) (e2 kY (ae 0) (ae 1))))
def rZ:List D->aa->Res D:=aM 1 1 (aG (aD p9 (af (ae 0) (af (eC (.int (8))) ah))))
def rW:List D->aa->Res D:=aM 1 1 (aG (dA (eB cm (af (ae 0) (af (eC (.ty "tuple")) ah))) (dA (eB l9 (af (cB 1 [] (cO (ae 0)) (gN 0) dh (aD rZ (af (ae 0) ah))) ah)) (aD n5 (af (ae 0) ah)))))
end DI
namespace ST
open PySem PySem.W PyProof.Rows
structure Ord (α:Type) where
 lt:α->α->Bool
 yz:∀a,lt a a=false
 tr:∀a b c,lt a b=true->lt b c=true->lt a c=true
 u6:∀a b,lt a b=false->lt b a=false->a=b
section
variable {α:Type} (O:Ord α)
def Ord.le (a b:α):Prop:=O.lt b a=false
variable {O}
def Ord.le_refl (a:α):O.le a a:=O.yz a
def Ord.le_of_lt (h:O.lt a b=true):O.le a b:=by
 unfold Ord.le
 cases Z:O.lt b a with
 |false=>rfl
 |true=>have:=O.tr _ _ _ h Z;rw[O.yz] at this;cases this
def Ord.qL (h:O.le a b) (g:O.le b c):O.le a c:=by
 unfold Ord.le at *
 cases Z:O.lt c a with
 |false=>rfl
 |true =>
  cases Y:O.lt a b with
  |true=>have:=O.tr _ _ _ Z Y;rw[g] at this;cases this
  |false =>
   have e:=O.u6 a b Y h;subst e;rw[g] at Z;cases Z
def Ord.JK (h:O.le a b) (g:O.le b a):a=b:=O.u6 _ _ g h
end
def ok {β:Type} (c:Nat->Nat->Bool) (n:Nat):KasT β->(β->Prop)->Prop
 | .ret a,Q=>Q a
 | .ask i j k,Q=>i<n/\j<n/\ok c n (k (c i j)) Q
theorem jK {β:Type} {c:Nat->Nat->Bool} {n:Nat} {Q R:β->Prop}:∀{t:KasT β},ok c n t Q->(∀a,Q a->R a)->ok c n t R
 | .ret a,h,i=>i a h
 | .ask _ _ k,h,i=>⟨h.1,h.2.1,jK (t:=k _) h.2.2 i⟩
theorem qp {β γ:Type} {c:Nat->Nat->Bool} {n:Nat} {f:β->KasT γ} {Q:γ->Prop}:∀{t:KasT β},ok c n t (λa=>ok c n (f a) Q)->ok c n (t.bind f) Q
 | .ret _,h=>h
 | .ask _ _ k,h=>⟨h.1,h.2.1,qp (t:=k _) h.2.2⟩
theorem JL {β:Type} {c:Nat->Nat->Bool} {n:Nat} {cmp:Nat->Nat->(Bool->Ä->Prop)->Ä->Prop} (hc:∀i j C,i<n->j<n->C (c i j) s->cmp i j C s) {Q:β->Ä->Prop}:∀{t:KasT β},ok c n t (λa=>Q a s)->t.kasWp cmp Q s
 | .ret _,h=>h
 | .ask _ _ k,h=>hc _ _ _ h.1 h.2.1 (JL hc (t:=k _) h.2.2)
section
variable {α:Type} {O:Ord α} {x:Nat->α} {n:Nat}
noncomputable def ky (x:Nat->α) (p:Array Nat) (i:Nat):α:=x (p.getD i 0)
def Pm (n:Nat) (p:Array Nat):Prop:=p.size=n/\p.toList.Perm (Ā n)
def Up (O:Ord α) (f:Nat->α) (k:Nat):Prop:=∀i j,i<j->j<k->O.le (f i) (f j)
def Dn (O:Ord α) (f:Nat->α) (k:Nat):Prop:=∀i j,i<j->j<k->O.le (f j) (f i)
def Up.more (h:Up O f k) (hk:1<=k) (h1:O.le (f (k-1)) (f k)):Up O f (k+1):=λi j Z X=>by
 by_cases e:j=k
 ·subst e
  by_cases Y:i=j-1
  ·subst Y;exact h1
  ·exact Ord.qL (h i (j-1) (by omega) (by omega)) h1
 ·exact h i j Z (by omega)
def Dn.more (h:Dn O f k) (hk:1<=k) (h1:O.le (f k) (f (k-1))):Dn O f (k+1):=λi j Z X=>by
 by_cases e:j=k
 ·subst e
  by_cases Y:i=j-1
  ·subst Y;exact h1
  ·exact Ord.qL h1 (h i (j-1) (by omega) (by omega))
 ·exact h i j Z (by omega)
def Pm.lt (h:Pm n p) (hi:i<n):p.getD i 0<n:=by
 have hs:i<p.size:=by rw[h.1];exact hi
 have:p[i]∈p.toList:=by simp
 have e:p.getD i 0=p[i]:=by simp[abS,hs]
 rw[e];exact ú.mp (h.2.mem_iff.mp this)
def Pm.rev (h:Pm n p) (i j:Nat):Pm n (kas_rev p i j):=⟨by rw[kas_rev_size];exact h.1,(Array.perm_iff_toList_perm.mp (mirror_perm p i j _)).trans h.2⟩
def Pm.YR (h:Pm n p) (i j:Nat):Pm n (bubble p i j):=⟨by rw[bubble_size];exact h.1,(Array.perm_iff_toList_perm.mp (bubble_perm p i j)).trans h.2⟩
def sy {p q:Array Nat} {i j:Nat} (h:p[i]?=q[j]?):p.getD i 0=q.getD j 0:=by
 rw[Array.getD_eq_getD_getElem?,Array.getD_eq_getD_getElem?,h]
def AM {p:Array Nat} {i j:Nat} (hj:j<=p.size) (k:Nat):ky x (kas_rev p i j) k=if i<=k/\k<j then ky x p (i+j-1-k) else ky x p k:=by
 have e:=getElem?_mirror_all (i:=i) hj k;unfold ky kas_rev
 split<;>rename_i h
 ·rw[Þ h] at e;rw[sy e]
 ·rw[ì h] at e;rw[sy e]
def IC {p:Array Nat} {k d:Nat} (hk:k<p.size) (hd:d<=k) (i:Nat):ky x (bubble p k d) i=if i=k-d then ky x p k else if k-d<i/\i<=k then ky x p (i-1) else ky x p i:=by
 have e:=getElem?_bubble hk d hd i;by_cases h:i=k-d
 ·rw[Þ h] at e |-;exact Ľ x (sy e)
 ·rw[ì h] at e |-
  by_cases Z:k-d<i/\i<=k
  ·rw[Þ Z] at e |-;exact Ľ x (sy e)
  ·rw[ì Z] at e |-;exact Ľ x (sy e)
def Hx (hj:j<=p.size) (he:∀k,i<=k->k<j->ky x p k=ky x p (j-1)):ky x (kas_rev p i j)=ky x p:=funext λk=>by
 rw[AM hj];split
 ·rw[he _ (by omega) (by omega),he k (by omega) (by omega)]
 ·rfl
noncomputable abbrev asks (O:Ord α) (x:Nat->α) (i j:Nat):Bool:=O.lt (x i) (x j)
theorem AN {p:Array Nat} (hp:Pm n p):∀(f m:Nat),1<=m->m+f<=n->Up O (ky x p) m->ok (asks O x) n (kas_asc p f m) λr=>m<=r/\r<=m+f/\Up O (ky x p) r/\(r<m+f->O.lt (ky x p r) (ky x p (r-1))=true)
 |0,m,Y,V,Z=>⟨ab3 _,ab3 _,Z,λz=>absurd z (ñ _)⟩
 |f+1,m,Y,V,Z=>by
  refine⟨hp.lt (by omega),hp.lt (by omega),?_⟩
  show ok _ _ (if O.lt (ky x p m) (ky x p (m-1))=true then _ else _) _
  cases X:O.lt (ky x p m) (ky x p (m-1)) with
  |true =>
   rw[Þ rfl];exact⟨ab3 _,by omega,Z,λ_=>X⟩
  |false =>
   rw[ì Õ];refine jK (AN hp f (m+1) (by omega) (by omega) (Z.more Y X)) λr W=>⟨by omega,by omega,W.2.2.1,λz=>W.2.2.2 (by omega)⟩
structure DS (O:Ord α) (x:Nat->α) (n:Nat) (p:Array Nat) (m q:Nat):Prop where
 pm:Pm n p
 q1:q+1<=m
 mn:m<=n
 dn:Dn O (ky x p) m
 bl:∀k,m-(q+1)<=k->k<m->ky x p k=ky x p (m-1)
def DS.turn (D:DS O x n p m q):Pm n (kas_rev p (m-(q+1)) m)/\ky x (kas_rev p (m-(q+1)) m)=ky x p :=
 ⟨D.pm.rev _ _,Hx (by rw[D.pm.1];exact D.mn) D.bl⟩
theorem wq:∀(f:Nat) (p:Array Nat) (m q:Nat),m+f<=n->DS O x n p m q->ok (asks O x) n (kas_desc f p m q) λr=>m<=r.2.1/\DS O x n r.1 r.2.1 r.2.2
 |0,p,m,q,_,D=>⟨ab3 _,D⟩
 |f+1,p,m,q,P,D=>by
  have q1:=D.q1;refine⟨D.pm.lt (by omega),D.pm.lt (by omega),?_⟩
  show ok _ _ (if O.lt (ky x p m) (ky x p (m-1))=true then _ else _) _
  cases X:O.lt (ky x p m) (ky x p (m-1)) with
  |true =>
   rw[Þ rfl];have one:∀Y,Pm n Y->ky x Y=ky x p->DS O x n Y (m+1) 0:=λY V U=>⟨V,by omega,by omega,by rw[U];exact D.dn.more (by omega) (Ord.le_of_lt X),λk T S=>by rw[show k=m+1-1 by omega]⟩;by_cases W:q > 0
   ·rw[Þ W]
    exact jK (wq f _ (m+1) 0 (by omega) (one _ D.turn.1 D.turn.2)) λr Z=>⟨by omega,Z.2⟩
   ·rw[ì W]
    exact jK (wq f _ (m+1) 0 (by omega) (one _ D.pm rfl)) λr Z=>⟨by omega,Z.2⟩
  |false =>
   rw[ì Õ];refine⟨D.pm.lt (by omega),D.pm.lt (by omega),?_⟩
   show ok _ _ (if O.lt (ky x p (m-1)) (ky x p m)=true then _ else _) _
   cases R:O.lt (ky x p (m-1)) (ky x p m) with
   |true =>
    rw[Þ rfl];exact⟨ab3 _,D⟩
   |false =>
    rw[ì Õ];have e:ky x p m=ky x p (m-1):=O.u6 _ _ X R;refine jK (wq f p (m+1) (q+1) (by omega) ⟨D.pm,by omega,by omega,D.dn.more (by omega) (by rw[e];exact Ord.le_refl _),λk T S=>?_⟩) λr Z=>⟨by omega,Z.2⟩;show _=ky x p m;by_cases Q:k=m
    ·rw[Q]
    ·rw[D.bl k (by omega) (by omega),e]
def Hy {p:Array Nat} {m:Nat} (hp:Pm n p) (h1:1<=m) (hm:m<=n) (hd:Dn O (ky x p) m):ok (asks O x) n (kas_tail3 m n p) λr=>1<=r.1/\r.1<=n/\Pm n r.2/\Up O (ky x r.2) r.1:=by
 refine qp ?_;have Z:Up O (ky x (kas_rev p 0 m)) m:=λi j W Y=>by
  rw[AM (by rw[hp.1];exact hm),AM (by rw[hp.1];exact hm),Þ ⟨by omega,by omega⟩,Þ ⟨by omega,Y⟩];exact hd _ _ (by omega) (by omega)
 exact jK (AN (hp.rev 0 m) (n-m) m h1 (by omega) Z) λr X=>⟨by show 1<=r;omega,by show r<=n;omega,hp.rev 0 m,X.2.2.1⟩
def Fn {p:Array Nat} {m:Nat} (hp:Pm n p) (h1:1<=m) (hm:m+1<=n) (hd:Dn O (ky x p) (m+1)):ok (asks O x) n (kas_descPart m n p) λr=>1<=r.1/\r.1<=n/\Pm n r.2/\Up O (ky x r.2) r.1:=by
 refine qp (jK (wq (n-(m+1)) p (m+1) 0 (by omega) ⟨hp,by omega,hm,hd,λk Y X=>by rw[show k=m+1-1 by omega]⟩) λr Z=>?_);obtain⟨W,D⟩:=Z;split
 ·exact Hy D.turn.1 (by have:=D.q1;omega) D.mn (by rw[D.turn.2];exact D.dn)
 ·exact Hy D.pm (by have:=D.q1;omega) D.mn D.dn
def Qu {p:Array Nat} (hp:Pm n p) (hn:1<=n):ok (asks O x) n (kas_count n p) λr=>1<=r.1/\r.1<=n/\Pm n r.2/\Up O (ky x r.2) r.1:=by
 refine qp (jK (AN hp (n-1) 1 (ab3 _) (by omega) λi j U X=>by omega) λm S=>?_);obtain⟨Z,Q,Y,R⟩:=S;split
 ·rename_i e
  rw[beq_iff_eq] at e;exact⟨Z,by omega,hp,Y⟩
 ·rename_i e
  have P:m≠n:=λz=>e (by rw[z];exact ą n);have hs:=R (by omega);split
  ·refine⟨hp.lt (by omega),hp.lt (by omega),?_⟩
   show ok _ _ (if O.lt (ky x p 0) (ky x p (m-1))=true then _ else _) _
   cases T:O.lt (ky x p 0) (ky x p (m-1)) with
   |true =>
    rw[Þ rfl];exact⟨Z,by omega,hp,Y⟩
   |false =>
    rw[ì Õ];have W:∀k,0<=k->k<m->ky x p k=ky x p (m-1):=λk _ V=>by
     have a1:O.le (ky x p k) (ky x p (m-1)):=by
      by_cases e:k=m-1
      ·rw[e];exact Ord.le_refl _
      ·exact Y k (m-1) (by omega) (by omega)
     have a2:O.le (ky x p (m-1)) (ky x p k):=by
      by_cases e:k=0
      ·rw[e];exact T
      ·exact Ord.qL T (Y 0 k (by omega) V)
     exact Ord.JK a1 a2
    have V:=Hx (x:=x) (p:=p) (i:=0) (j:=m) (by rw[hp.1];omega) W;refine Fn (hp.rev 0 m) Z (by omega) ?_;rw[V];refine Dn.more (λi j U X=>?_) Z (Ord.le_of_lt hs);rw[W i (by omega) (by omega),W j (by omega) X];exact Ord.le_refl _
  ·refine Fn hp Z (by omega) (Dn.more (λi j U X=>by omega) Z (Ord.le_of_lt hs))
theorem zE (hp:Pm n p) (hk:k<n) (hu:Up O (ky x p) k):∀(f l r:Nat),r-l<=f->l<=r->r<=k->(∀i,i<l->O.le (ky x p i) (ky x p k))->(∀i,r<=i->i<k->O.le (ky x p k) (ky x p i)) ->
  ok (asks O x) n (kas_place p k f l r) λm=>m<=k/\(∀i,i<m->O.le (ky x p i) (ky x p k))/\(∀i,m<=i->i<k->O.le (ky x p k) (ky x p i))
 |0,l,r,X,W,Y,a,b=>⟨by omega,a,λi hi=>b i (by omega)⟩
 |f+1,l,r,X,W,Y,a,b=>by
  unfold kas_place;by_cases h:l ≥ r
  ·rw[Þ h]
   exact⟨by omega,a,λi hi=>b i (by omega)⟩
  ·rw[ì h]
   refine⟨hp.lt hk,hp.lt (by omega),?_⟩
   show ok _ _ (if O.lt (ky x p k) (ky x p ((l+r) / 2))=true then _ else _) _
   cases Z:O.lt (ky x p k) (ky x p ((l+r) / 2)) with
   |true =>
    rw[Þ rfl];refine zE hp hk hu f l ((l+r) / 2) (by omega) (by omega) (by omega) a λi hi V=>?_;by_cases e:i=(l+r) / 2
    ·rw[e];exact Ord.le_of_lt Z
    ·exact Ord.qL (Ord.le_of_lt Z) (hu _ _ (by omega) V)
   |false =>
    rw[ì Õ];refine zE hp hk hu f ((l+r) / 2+1) r (by omega) (by omega) Y (λi hi=>?_) b;by_cases e:i=(l+r) / 2
    ·rw[e];exact Z
    ·exact Ord.qL (hu _ _ (by omega) (by omega)) Z
theorem ID:∀(f:Nat) (p:Array Nat) (k:Nat),Pm n p->k+f=n->Up O (ky x p) k->ok (asks O x) n (kas_bin f p k) λq=>Pm n q/\Up O (ky x q) n
 |0,p,k,Y,X,Z=>⟨Y,by rw[<- X];exact Z⟩
 |f+1,p,k,Y,X,Z=>by
  refine qp (jK (zE Y (by omega) Z k 0 k (by omega) (ē _) (ab3 _) (λi hi=>by omega) λi Q W=>by omega) λm P=>?_);obtain⟨Q,W,N⟩:=P;refine ID f _ (k+1) (Y.YR _ _) (by omega) λi j M K=>?_;have V:k<p.size:=by rw[Y.1];omega
  have L:k-(k-m)=m:=by omega
  rw[IC V (by omega),IC V (by omega),L];by_cases U:i=m
  ·rw[Þ U,ì (by omega),Þ (by omega)]
   exact N _ (by omega) (by omega)
  ·rw[ì U]
   by_cases T:m<i/\i<=k
   ·rw[Þ T,ì (by omega),Þ (by omega)]
    exact Z _ _ (by omega) (by omega)
   ·rw[ì T]
    by_cases S:j=m
    ·rw[Þ S];exact W _ (by omega)
    ·rw[ì S]
     by_cases R:m<j/\j<=k
     ·rw[Þ R]
      by_cases e:i=j-1
      ·rw[e];exact Ord.le_refl _
      ·exact Z _ _ (by omega) (by omega)
     ·rw[ì R];exact Z _ _ M (by omega)
def Sh (hn:1<=n):ok (asks O x) n (kas_sort n) λq=>Pm n q/\Up O (ky x q) n:=by
 refine qp (jK (Qu (p:=abj (Ā n)) ⟨by simp,by simp⟩ hn) λr X=>?_);obtain⟨W,V,Y,Z⟩:=X;split
 ·rw[Nat.max_eq_left W]
  exact ID _ _ _ Y (by omega) Z
 ·rw[show r.1=n by omega] at Z
  exact⟨Y,Z⟩
end
section
variable {α:Type} {O:Ord α} {x:Nat->α} {prog:â} {w:Ą} {A:î} {E:Å->Ä->Prop} {s:Ä}
def xP (prog:â) (w:Ą) (A:î) (O:Ord α) (x:Nat->α) (us:List Å) (t:Ä):Prop :=
 Û (ã prog w) A (keyKind' us.toArray) (fun Z Y=>Y=t/\∀i j (C:Bool->Ä->Prop),i<us.length->j<us.length->C (O.lt (x i) (x j)) t->Û (ã prog w) A (keyLt' Z (us.getD i Value.none) (us.getD j Value.none)) C (λ_ _=>False) t) (λ_ _=>False) t
def lE (us:List Å) (h:us.length<2):(us.toArray.zip us.toArray).map (·.2)=((abj (Ā us.length)).toList.map λi=>us.getD i Value.none).toArray:=by
 rcases us with _ | ⟨u,_ | ⟨v,r⟩⟩
 ·exact Array.toList_inj.mp (by simp)
 ·exact Array.toList_inj.mp (by simp)
 ·(simp at h;omega)
def MR (hb:s.heap.get? b=some (abK "list" us.toArray m)) (hz:us.length<64)
 (hk:2<=us.length->∀h1,(∀c o,c≠b->s.heap.get? c=some o->h1.get? c=some o)->xP prog w A O x us { s with heap:=h1 })
 (hR:∀(q:Array Nat) h' e,Pm us.length q->Up O (ky x q) us.length->(∀c o,c≠b->s.heap.get? c=some o->h'.get? c=some o)->h'.get? b=some (abK "list" (q.toList.map λi=>us.getD i Value.none).toArray e)->R (.done (.ret .none)) { s with heap:=h' }) :
  Û (ã prog w) A (ū.«list.sort» ⟨[.ref b],[]⟩) R E s:=by
 have B:b<s.heap.objs.size:=Ì hb;have line:us.length<=Ñ:=by rw[ŕ];omega
 obtain⟨e1,N⟩:∃e1,(s.heap.update b (Œ λ_=>(#[]:Array Å))).get? b=some (abK "list" #[] e1):=⟨_,get?_update_seq hb λ_=>#[]⟩;generalize U:((s.heap.update b (Œ λ_=>(#[]:Array Å))).push (abK "tuple" us.toArray 0)).push (abK "list" #[] 0)=Z;have X:Z.get? b=some (abK "list" #[] e1):=by rw[<- U];exact Á _ (Á _ N)
 have old:∀c o,c≠b->s.heap.get? c=some o->Z.get? c=some o:=λc o W e=>by
  rw[<- U];exact Á _ (Á _ (by rw[aaB _ _ _ _ W];exact e))
 have last:∀(q:Array Nat),Pm us.length q->Up O (ky x q) us.length->R (.done (.ret .none)) { s with heap:=Z.update b (Œ λ_=>(q.toList.map λi=>us.getD i Value.none).toArray) }:=λq h1 T =>
  hR q _ _ h1 T (λc o W e=>by rw[aaB _ _ _ _ W];exact old c o W e) (get?_update_seq X λ_=>(q.toList.map λi=>us.getD i Value.none).toArray)
 rw[list_sort_plain];refine À (listItems_at hb rfl (À (listUpdate_at hb rfl ?_ (by rw[Ù];exact line) (ē _))));refine À (seqEpoch_at N rfl (À (wpAny_newTuple (À (wpAny_newList (Ĉ ?_) (ē _))) (by show us.length<=_;exact line))))
 show Û (ã prog w) A _ R E { s with heap:=_ }
 rw[U];dsimp only;by_cases Y:us.toArray.size<2
 ·rw[Þ Y,Þ Y]
  refine À (Ã ?_);rw[StateT.run_pure];refine À (Ã ?_);dsimp only;have L:(us.toArray.zip us.toArray).map (·.2)=((abj (Ā us.length)).toList.map λi=>us.getD i Value.none).toArray:=by
   exact lE us (by rw[<- Ù];exact Y)
  refine À (seqEpoch_at X rfl (À (listUpdate_at X rfl ?_ (ē _) ?_)))
  ·simp only[Đ,Â,ä]
   show Û _ _ _ _ _ { s with heap:=Z.update b (Œ λ_=>(us.toArray.zip us.toArray).map (·.2)) }
   rw[L];refine Ã (last _ ⟨by simp,by simp⟩ λi j y M=>?_);rw[Ù] at Y;omega
  ·show ((us.toArray.zip us.toArray).map (·.2)).size<=Ñ+1
   simp;omega
 ·rw[ì Y,ì Y]
  rw[Ù] at Y;refine À (Ĕ (hk (by omega) Z old) (fun K t S=>?_) λ_ _ z=>z.elim);obtain⟨rfl,S⟩:=S
  have tree:(kas_sort us.length).kasWp (kas_ask prog w A K us) (λq t=>t={ s with heap:=Z }/\Pm us.length q/\Up O (ky x q) us.length) { s with heap:=Z } :=
   JL (c:=asks O x) (n:=us.length) (λi j C hi M J=>S i j C hi M J) (jK (Sh (by omega)) λq P=>⟨rfl,P⟩)
  refine À (Ĕ (kat_run (Q:=λV t=>∃q:Array Nat,q.size=us.length/\arrOf V=q.map (kas_item (us.toArray.zip us.toArray))/\failedOf V=none/\t={ s with heap:=Z }/\Pm us.length q/\Up O (ky x q) us.length)
   rfl (by omega) hz (λq V t a1 a2 I H=>⟨q,a1,a2,I,H⟩) tree) ?_ λ_ _ z=>z)
  rintro ⟨⟨⟩,V⟩ t ⟨q,P,G,F,rfl,T,D⟩;dsimp only;rw[kat_snds rfl G];refine À (seqEpoch_at X rfl (À (listUpdate_at X rfl ?_ (ē _) ?_)))
  ·rw[F]
   simp only[Đ,Â,ä];exact Ã (last q T D)
  ·show ((q.toList.map λi=>us.getD i Value.none).toArray).size<=Ñ+1
   rw[Ù,É,ò,P];omega
def OY (hl:s.heap.IsList l us.toArray) (hz:us.length<64)
 (hk:2<=us.length->∀h1,(∀c o,s.heap.get? c=some o->h1.get? c=some o)->xP prog w A.in1.in1 O x us { s with heap:=h1 })
 (hQ:∀(q:Array Nat) h' b e,Pm us.length q->Up O (ky x q) us.length->(∀c o,s.heap.get? c=some o->h'.get? c=some o)->s.heap.objs.size<=b->h'.get? b=some (abK "list" (q.toList.map λi=>us.getD i Value.none).toArray e)->Q (.ref b) { s with heap:=h' }) :
  Û (ã prog w) A (call (.builtin "sorted") [.ref l]) Q E s:=by
 have line:us.length<=Ñ:=by rw[ŕ];omega
 refine Calls.call_function_entry kind_sorted plain_sorted entry_sorted (args_sorted1 _) ?_;unfold ū.«sorted»;refine À (m:=checkCount "sorted" 1 1 _) (Ã (À (collect_list hl (À (wpAny_newList ?_ line)) line)));generalize X:((s.heap.push (abK "list" #[] 0)).update s.heap.objs.size (Œ (·++us.toArray)))=h1;have W:h1.objs.size=s.heap.objs.size+1:=by rw[<- X,Heap.size_update,size_push']
 have U:∀c o,s.heap.get? c=some o->h1.get? c=some o:=λc o e=>by
  have Z:c<s.heap.objs.size:=Ì e;rw[<- X,aaB _ _ _ _ (ß Z)];exact Á _ e
 show Û _ _ _ _ _ { s with heap:=h1.push (abK "list" us.toArray 0) }
 have V:(h1.push (abK "list" us.toArray 0)).get? h1.objs.size=some (abK "list" us.toArray 0):=Í _ rfl;have old:∀c o,s.heap.get? c=some o->c≠h1.objs.size/\(h1.push (abK "list" us.toArray 0)).get? c=some o:=λc o e=>by
  have Z:c<s.heap.objs.size:=Ì e;exact⟨ß (by rw[W];exact Ģ Z),Á _ (U c o e)⟩
 refine À (Ĉ (Ċ slot_list_sort ⟨_,V,rfl⟩ entry_list_sort (MR V hz (λz h' Y=>hk z h' λc o e=>Y c o (old c o e).1 (old c o e).2) λq h' e T S Y R=>⟨_,rfl,?_⟩) (args_list_sort _)));exact Ã ⟨_,rfl,hQ q h' _ e T S (λc o e=>Y c o (old c o e).1 (old c o e).2) (by show _<=h1.objs.size;rw[W];exact aay _) R⟩
end
open HT
def Am:∀a:List Int,lexLt a a=false:=λa=>by
 induction a with
 |nil=>rfl
 |cons i r ih=>rw[jc,Þ rfl];exact ih
def Ux:∀a b c:List Int,lexLt a b=true->lexLt b c=true->lexLt a c=true:=λa=>by
 induction a with
 |nil =>
  intro b c h g
  cases b with
  |nil=>cases h
  |cons j s=>cases c with
   |nil=>cases g
   |cons k t=>rfl
 |cons i r ih =>
  intro b c h g
  cases b with
  |nil=>cases h
  |cons j s =>
   cases c with
   |nil=>cases g
   |cons k t =>
    rw[jc] at h g |-;by_cases e1:i=j
    ·subst e1
     rw[Þ rfl] at h;by_cases e2:i=k
     ·rw[Þ e2] at g |-;exact ih s t h g
     ·rw[ì e2] at g |-;exact g
    ·rw[ì e1] at h
     have h:=ð h;by_cases e2:j=k
     ·subst e2
      rw[ì e1];exact Ó h
     ·rw[ì e2] at g
      have g:=ð g;rw[ì (by omega)];exact Ó (by omega)
def Si:∀a b:List Int,lexLt a b=false->lexLt b a=false->a=b:=λa=>by
 induction a with
 |nil =>
  intro b h g
  cases b with
  |nil=>rfl
  |cons j s=>cases h
 |cons i r ih =>
  intro b h g
  cases b with
  |nil=>cases g
  |cons j s =>
   rw[jc] at h g;by_cases e:i=j
   ·subst e
    rw[Þ rfl] at h g;rw[ih s h g]
   ·rw[ì e] at h
    rw[ì (Ź e)] at g;have h:=of_decide_eq_false h;have g:=of_decide_eq_false g;omega
section
variable {prog:â} {w:Ą} {A:î} {E:Å->Ä->Prop} {s:Ä}
inductive nA (h:Ī):List Å->List (List Int)->Prop where
 |nil:nA h [] []
 |cons {a:Ú} {its:Array Å} {ns:List Int} {us:List Å} {jE:List (List Int)}:IsTup h a its->aa3 its.toList ns->nA h us jE->nA h (.ref a::us) (ns::jE)
def nA.keep (k:∀c o,h.get? c=some o->h'.get? c=some o) (t:nA h us jE):nA h' us jE:=by
 induction t with
 |nil=>exact .nil
 |cons a b _ ih =>
  obtain⟨o,Z,r⟩:=a;exact .cons ⟨o,k _ _ Z,r⟩ b ih
theorem nA.at (t:nA h us jE):∀i,i<us.length->∃a its,us.getD i Value.none=.ref a/\IsTup h a its/\aa3 its.toList (jE.getD i []):=by
 induction t with
 |nil=>intro i hi;simp at hi
 |cons a b _ ih =>
  intro i hi
  cases i with
  |zero=>exact⟨_,_,rfl,a,b⟩
  |succ i =>
   obtain⟨c,its,e,r⟩:=ih i (by simpa using hi);exact⟨c,its,by simpa using e,r⟩
inductive u7:List (Option Å)->List (List Int)->Prop where
 |nil:u7 [] []
 |ao {fs:List (Option Å)} {jE:List (List Int)}:u7 fs jE->u7 (none::fs) ([]::jE)
 |one {fs:List (Option Å)} {jE:List (List Int)} {n:Int} {t:Tok} {r:List Int}:u7 fs jE->u7 (some (.int n t)::fs) ((n::r)::jE)
noncomputable def ins {α:Type} (O:Ord α) (a:α):List α->List α
 | []=>[a]
 |b::r=>if O.lt b a=true then b::ins O a r else a::b::r
def dR {α:Type} (O:Ord α):List α->List α
 | []=>[]
 |a::r=>ins O a (dR O r)
end
section
variable {α:Type} {O:Ord α}
def GO (a:α) (l:List α):(ins O a l).Perm (a::l):=by
 induction l with
 |nil=>exact .refl _
 |cons b r ih =>
  unfold ins;split
  ·exact(List.Perm.cons b ih).trans (List.Perm.swap a b r)
  ·exact .refl _
def n9 (l:List α):(dR O l).Perm l:=by
 induction l with
 |nil=>exact .refl _
 |cons a r ih=>exact(GO a _).trans (ih.cons a)
def Uy (a:α) (l:List α) (h:l.Pairwise O.le):(ins O a l).Pairwise O.le:=by
 induction l with
 |nil=>exact List.pairwise_singleton _ _
 |cons b r ih =>
  obtain⟨X,W⟩:=ó.mp h;unfold ins
  split<;>rename_i Z
  ·refine ó.mpr ⟨λc Y=>?_,ih W⟩
   rcases Ô.mp ((GO a r).mem_iff.mp Y) with e|e
   ·rw[e];exact Ord.le_of_lt Z
   ·exact X c e
  ·have Z:O.le a b:=by rw[ű] at Z;exact Z
   refine ó.mpr ⟨λc Y=>?_,h⟩
   rcases Ô.mp Y with e|e
   ·rw[e];exact Z
   ·exact Ord.qL Z (X c e)
def sm (l:List α):(dR O l).Pairwise O.le:=by
 induction l with
 |nil=>exact .nil
 |cons a r ih=>exact Uy a _ ih
def zi:∀{l m:List α},l.Perm m->l.Pairwise O.le->m.Pairwise O.le->l=m:=by
 intro l
 induction l with
 |nil=>intro m h _ _;exact h.nil_eq
 |cons a r ih =>
  intro m h Z Y
  cases m with
  |nil=>exact absurd h.length_eq (by simp)
  |cons b t =>
   obtain⟨a1,a2⟩:=ó.mp Z;obtain⟨X,W⟩:=ó.mp Y;have e:a=b:=by
    rcases Ô.mp (h.mem_iff.mp Ø) with e|e
    ·exact e
    ·rcases Ô.mp (h.mem_iff.mpr Ø) with e'|e'
     ·exact e'.symm
     ·exact Ord.JK (a1 b e') (X a e)
   subst e;rw[ih h.cons_inv a2 W]
def Qv (h:l.Perm m):dR O l=dR O m:=zi ((n9 l).trans (h.trans (n9 m).symm)) (sm l) (sm m)
def OZ (hp:Pm xs.length q) (hu:Up O (ky (λi=>xs.getD i d) q) xs.length):q.toList.map (λi=>xs.getD i d)=dR O xs:=by
 refine zi ?_ ?_ (sm xs)
 ·refine(hp.2.map _).trans ?_
  have:(Ā xs.length).map (λi=>xs.getD i d)=xs:=by
   apply χ;intro i;by_cases hi:i<xs.length
   ·simp[hi]
   ·simp[hi,Ű hi]
  rw[this];exact(n9 xs).symm
 ·rw[List.pairwise_iff_getElem]
  intro i j hi W Z;have V:(q.toList.map λi=>xs.getD i d).length=xs.length:=by rw[É,ò,hp.1]
  have Y:j<q.size:=by rw[hp.1];omega
  have X:i<q.size:=by omega
  have:=hu i j Z (by omega);unfold ky at this;simpa [abS,X,Y] using this
end
end ST
namespace DI
open PySem L2
section
variable {X:Cx} {Ξ:Wd->aT->Prop} {a e tg:Ġ} {p pos:Pos} {f:abZ D} {fa:abZ (List D)}
end
end DI
namespace L2
open PySem PySem.Spec PyProof.Rows
structure IE (sc:ſ) (cl gu:List (Str×Ú)) (C:Nat) (h:Ī):Prop where
 old:∀n c,gu.lookup n=some c->(C<c/\(n,NameKind.cell)∈sc.names/\∃v,h.IsCell c v)\/cl.lookup n=some c
 own:∀n,sc.names.lookup n=some .cell\/(cl.lookup n).isSome=true->∃c,gu.lookup n=some c
 inj:(∀x y c,cl.lookup x=some c->cl.lookup y=some c->x=y)->(∀x c,cl.lookup x=some c->c<C)->∀x y c,gu.lookup x=some c->gu.lookup y=some c->x=y
theorem zj:∀(names:List (Str×ť)) (n:Nat) (acc:List (Str×Ú)),(aad n names acc).lookup x=some c->((x,NameKind.cell)∈names/\n<=c)\/acc.lookup x=some c
 | [],n,acc,h=>.inr h
 |(y,k)::r,n,acc,h=>by
  unfold aad at h;split at h
  ·rename_i Z
   have Z:k=.cell:=by simpa using Z
   subst Z
   rcases zj r (n+1) _ h with ⟨h1,Y⟩|h1
   ·exact .inl ⟨Ï _ h1,by omega⟩
   ·rw[ğ] at h1
    split at h1
    ·rename_i e
     have e:x=y:=by simpa using e
     subst e;cases h1;exact .inl ⟨Ø,ab3 _⟩
    ·exact .inr h1
  ·rcases zj r n acc h with ⟨h1,Y⟩|h1
   ·exact .inl ⟨Ï _ h1,Y⟩
   ·exact .inr h1
theorem zk:∀(names:List (Str×ť)) (n:Nat) (acc:List (Str×Ú)),(∀x y c,acc.lookup x=some c->acc.lookup y=some c->x=y)->(∀x c,acc.lookup x=some c->c<n)->∀x y c,(aad n names acc).lookup x=some c->(aad n names acc).lookup y=some c->x=y
 | [],n,acc,hi,X=>hi
 |(z,k)::r,n,acc,hi,X=>by
  unfold aad;split
  ·refine zk r (n+1) _ (λx y c Z Y=>?_) λx c Z=>?_
   ·rw[ğ] at Z Y
    split at Z
    ·rename_i e1
     split at Y
     ·rename_i e2
      exact(by simpa using e1:x=z).trans (by simpa using e2:y=z).symm
     ·cases Z
      exact absurd (X y _ Y) (ñ _)
    ·split at Y
     ·cases Y
      exact absurd (X x _ Z) (ñ _)
     ·exact hi x y c Z Y
   ·rw[ğ] at Z
    split at Z
    ·cases Z;exact ų _
    ·exact Ģ (X x c Z)
  ·exact zk r n acc hi X
theorem zF {lo:Nat}:∀(names:List (Str×ť)) (h:Ī) (acc:List (Str×Ú)),lo<=h.objs.size->(∀x c,acc.lookup x=some c->lo<=c->h.IsCell c none)->(aad h.objs.size names acc).lookup x=some c->lo<=c->(pushCells h names).IsCell c none
 | [],h,acc,_,Z,e,Y=>Z x c e Y
 |(z,k)::r,h,acc,V,Z,e,Y=>by
  unfold aad at e;unfold pushCells;split at e
  ·rename_i W
   rw[Þ W];have U:(h.push { cls:=.type "cell",data:=.cell none }).objs.size=h.objs.size+1:=ĉ ..;refine zF (lo:=lo) r _ ((z,h.objs.size)::acc) (by omega) (λy d X T=>?_) (by rw[U];exact e) Y;rw[ğ] at X;split at X
   ·cases X
    exact⟨_,Í _ rfl,rfl⟩
   ·exact(Z y d X T).keeps λb o q=>Á _ q
  ·rename_i W
   rw[ì W];exact zF r h acc V Z e Y
def My {E:Å->Ä->Prop} {Q:Env->Ä->Prop}
 (hQ:∀gu h3,((∀x c,cl.lookup x=some c->c<s.heap.objs.size)->IE scope cl gu s.heap.objs.size h3)->h3.Ns s.heap.objs.size (λ_=>none)->(∀b o,s.heap.get? b=some o->h3.get? b=some o)->Q (newEnv scope s.heap.objs.size globals gu qual none .none (some env) bi) { s with heap:=h3 }) :
  Û M A (newFunctionEnv scope globals cl [] qual none .none (some env) bi) Q E s:=by
 simp only[newFunctionEnv,Option.isSome_some,ô];refine À (wpAny_alloc ?_)
 refine À (wpAny_layCells _ (λname kind cells=>by cases Z:kind==NameKind.cell<;>simp[Z]) _ _ _ _ ?_)
 rw[show ({ s with heap:=s.heap.push { cls:=.type "dict",data:=.dict #[] } }:Ä).heap.objs.size=s.heap.objs.size+1 from ĉ ..]
 simp only[List.forIn_nil];refine À (Ã (Ã ?_));have Y:(s.heap.push { cls:=.type "dict",data:=.dict #[] }).objs.size=s.heap.objs.size+1:=ĉ ..;refine hQ (aad (s.heap.objs.size+1) scope.names cl) _ (λX=>⟨λn c e=>?_,λn W=>?_,λhi V=>zk _ _ _ hi λx c e=>Ģ (V x c e)⟩) ((Heap.Ns.new s.heap (.type "dict")).keeps (pushCells_keeps _ _)) λb o e=>pushCells_keeps _ _ b o (Á _ e)
 ·rcases zj _ _ _ e with ⟨h1,U⟩|h1
  ·exact .inl ⟨by omega,h1,none,zF (lo:=s.heap.objs.size+1) scope.names _ cl (by omega) (λx d q T=>absurd (X x d q) (Nat.not_lt.mpr (Nat.le_of_succ_le T))) (by rw[Y];exact e) U⟩
  ·exact .inr h1
 ·exact aaC.mp (Ż scope.names _ cl W)
abbrev dO (X:Cx) (N:List Str) (sc:ſ) (cl:List (Str×Ú)) (C:Ú) (s:Ä) (H:Hp) (ex:List Ú) (pn:List (Ú×Obj)):Cx:={ dJ X N sc cl C s H ex pn with fn:=λx=>sc.names.lookup x==some .cell }
structure mT (X:Cx) (sc:ſ) (N:List Str) (nt:Nat) (cap:List Nat):Prop where
 kind:sc.kind=.function
 names:∀x∈sc.names,x.2=.local->sc.names.lookup x.1=some .local
 cells:∀x∈sc.names,x.2=.cell->sc.names.lookup x.1=some .cell
 frees:∀x∈sc.names,x.2=.free->sc.names.lookup x.1=some .free/\(X.env.scope.names.lookup x.1=some .cell\/X.env.scope.names.lookup x.1=some .free)
 len:N.length=nt+cap.length
 B1:∀(k:Nat) j,cap[k]?=some j->∃x,X.N[j]?=some x/\N[nt+k]?=some x/\(x,ë)∈sc.names
section
variable {X:Cx} {sc:ſ} {N:List Str} {nt:Nat} {cap:List Nat} {cl gu:List (Str×Ú)} {s:Ä} {h1:Ī} {H:Hp} {σ:St} {π:List (Ú×Obj)} {fp:List Ú} {C:Ú} {t':Nat}
def Inv.Uz (I:Inv X π σ H s) (S:mT X sc N nt cap) (cP:∀n c,cl.lookup n=some c↔((n,ë)∈sc.names/\X.env.cells.lookup n=some c)) (gK:IE sc cl gu C h1) (hf:∀b∈fp,fg X π H b) (fJ:∀b∈fp,b<s.heap.objs.size)
  (hk:∀b o,s.heap.get? b=some o->h1.get? b=some o) (hC:s.heap.objs.size<=C) (nE:∃m,h1.Ns C m):Inv (dO X N sc gu C s H fp (X.pn++π)) [] (kC nt cap σ) H { s with heap:=h1,toks:=t' }:=by
 have O:∀b∈b9 X.stack,b∈X.env.locals::X.fs:=I.jO;have J:∀x c,cl.lookup x=some c->c<s.heap.objs.size:=λx c e=>by
  obtain⟨v,o,V,_⟩:=I.cell x c ((cP x c).mp e).2;exact Ì V
 have G:∀x,(relabel sc X.env).names.lookup x=some .cell\/(relabel sc X.env).names.lookup x=some .free->(x,ë)∈sc.names\/sc.names.lookup x=some .cell:=λx Z=>by
  rw[vn] at Z
  cases e:sc.names.lookup x with
  |none=>rw[e] at Z;rcases Z with z|z<;>cases z
  |some k =>
   have hm:(x,k)∈sc.names:=by
    obtain⟨l1,l2,e1,_⟩:=List.lookup_eq_some_iff.mp e;rw[e1];simp
   rw[e] at Z
   cases k with
   |free=>exact .inl hm
   |cell=>exact .inr rfl
   |_=>exfalso;revert Z;simp
 have F:∀x,(x,ë)∈sc.names->∃c,X.env.cells.lookup x=some c:=λx Z=>I.ok.has x (S.frees _ Z rfl).2;have M:∀x c,(x,ë)∈sc.names->X.env.cells.lookup x=some c->gu.lookup x=some c:=λx c Z R=>by
  have e:=(cP x c).mpr ⟨Z,R⟩;obtain⟨d,hd⟩:=gK.own x (.inr (by rw[e];rfl))
  rcases gK.old x d hd with ⟨_,q,_⟩|q
  ·have T:=S.cells _ q rfl
   have W:=(S.frees _ Z rfl).1;dsimp only at T W;rw[T] at W;cases W
  ·rw[e] at q
   cases q;exact hd
 have ok:Cx.Ok (dO X N sc gu C s H fp (X.pn++π)):=by
  refine⟨I.ok.mod,?_,I.ok.glob,I.ok.blt,hC,?_,?_,?_,I.ok.hd,I.ok.frames,.inl rfl,?_,I.bs,à I.ok.iz I.sz,?_,?_,I.stack,I.sr⟩
  ·exact S.kind
  ·exact gK.inj (λx y c Z E=>I.ok.inj x y c ((cP x c).mp Z).2 ((cP y c).mp E).2) λx c e=>Ç (J x c e) hC
  ·intro x Z
   rcases G x Z with hm|hm
   ·obtain⟨c,e⟩:=F x hm
    exact⟨c,M x c hm e⟩
   ·exact gK.own x (.inl hm)
  ·intro x c Z e
   rcases gK.old x c e with ⟨q,_,_⟩|q
   ·exact à hC (Nat.le_of_lt q)
   ·have W:=(S.frees _ ((cP x c).mp q).1 rfl).1
    have T:sc.names.lookup x=some .cell:=by simpa using Z
    dsimp only at W;rw[T] at W;cases W
  ·intro b Y
   refine⟨ß (Ç (fJ b Y) hC),λx c e=>?_⟩
   rcases gK.old x c e with ⟨q,_,_⟩|q
   ·exact š (Ç (fJ b Y) (à hC (Nat.le_of_lt q)))
   ·exact(hf b Y).2.2.2.2.1 x c ((cP x c).mp q).2
  ·intro b o e Y
   rcases(hf b Y).2.2.2.1 with z|z
   ·exact I.ok.nq b o e z
   ·exact absurd (Ç (Ì e) (à I.ok.iz z)) (ñ _)
  ·intro b Y z
   rcases Ô.mp (O b z) with e|e
   ·exact(hf b Y).2.1 e
   ·exact(hf b Y).2.2.1 e
 obtain⟨m,hm⟩:=nE;obtain⟨mX,Yf,D⟩:=I.loc;refine⟨ok,rfl,I.bare,Un.kept hk,⟨m,hm,λi x v e1 e2 e3=>?_⟩,λx c e=>?_,I.aC.fresh hC,λx c e=>?_,λp B=>?_,I.aC.kept hk,?_⟩
 ·
  have hi:nt<=i:=by
   apply Ű;intro L;have:(kC nt cap σ)[i]?=some none:=by
    unfold kC;rw[Ü (by simpa using L),ĥ,Þ L]
   rw[this] at e2;cases e2
  have U:(cap.map λj=>(σ[j]?).getD none)[i-nt]?=some (some v):=by
   have e:=e2;unfold kC at e;rw[Ă (by simpa using hi)] at e;simpa using e
  rw[í] at U
  cases Q:cap[i-nt]? with
  |none=>rw[Q] at U;cases U
  |some j =>
   rw[Q] at U;have ev:(σ[j]?).getD none=some v:=ab4 U;have A:σ[j]?=some (some v):=by
    cases q:σ[j]? with
    |none=>rw[q] at ev;cases ev
    |some z=>rw[q] at ev;exact Ľ some ev
   obtain⟨y,f1,f2,K⟩:=S.B1 _ _ Q;rw[Nat.add_sub_cancel' hi] at f2;have w:y=x:=ab4 (f2.symm.trans e1);subst w;obtain⟨g1,g2⟩:=S.frees _ K rfl;have t:pA X.env.scope y:=.inr g2;obtain⟨u,r,l⟩:=D j y v f1 A t;refine⟨u,r,.inr ⟨?_,?_⟩⟩
   ·show (relabel sc X.env).names.lookup y=some .cell\/(relabel sc X.env).names.lookup y=some .free
    rw[vn,g1];simp only[θ];split
    ·exact .inl rfl
    ·exact .inr rfl
   ·rcases l with ⟨k,_⟩ | ⟨_,c,R,h⟩
    ·exfalso
     have g:X.env.scope.names.lookup y=some .local:=k;dsimp only at g2;rw[g] at g2
     rcases g2 with z|z<;>cases z
    ·obtain⟨P,V,hd⟩:=h
     exact⟨c,M y c K R,P,hk _ _ V,hd⟩
 ·rcases gK.old x c e with ⟨_,_,q⟩|q
  ·exact q
  ·obtain⟨v,P,V,hd⟩:=I.cell x c ((cP x c).mp q).2
   exact⟨v,P,hk _ _ V,hd⟩
 ·rcases gK.old x c e with ⟨q,_,_⟩|q
  ·exact I.aC.fresh (by omega)
  ·exact I.ip x c ((cP x c).mp q).2
 ·have f:p∈X.pn++π:=by simpa using B
  obtain⟨e,n,ne,a,d⟩:=I.pin p f;refine⟨hk _ _ e,n,ß (Ç (Ì e) hC),λz=>?_,d⟩
  rcases Ô.mp (O p.1 z) with q|q
  ·exact ne q
  ·exact a q
 ·unfold kC
  rw[é,ζ,É];exact S.len.symm
end
structure JM (P:â) (w:Ą) (E el tg src:Ġ) (tests:List Ġ) (new:Sem Å) (ap:String) (mk:Ú->List V->HO) (kf:List V->Prop) where
 o0:Obj
 live:o0.isFreed=false
 Ac:Ú->List V->Ī->Prop
 clauses:clausesOf E=[⟨tg,src,tests,0⟩]
 turns:∀{A:î} {R:Result->Ä->Prop} {s:Ä} {gp av:Å} {ce:Env} (J:Nat->Ä->Prop)
  (turn:∀n s,J n s->Û (ã P w) A (aac gp) (λr s1=>match r with
   |none=>R (.ok .next) s1
   |some v=>Û (ã P w) A (Ň tg gp v) (λ_ s2=>Û (ã P w) A (abH tg ce v) (λ_ s3 =>
     Û (ã P w) A (forIn tests true λc r=>if r=true then do let ok <- isTrue c ce (ļ c ce);pure (ķ ok) else pure (ķ r)) (λok s4 =>
      if ok=true then Û (ã P w) A (ļ el ce) (λy s5=>Û (ã P w) A (call (.builtin ap) [av,y]) (λ_ s6=>∃m,m<n/\J m s6) (λ_ _=>False) s5) (λ_ _=>False) s4
      else ∃m,m<n/\J m s4) (λ_ _=>False) s3) (λ_ _=>False) s2) (λ_ _=>False) s1) (λ_ _=>False) s)
  (n:Nat) (_:J n s),δ (ã P w) A (.compLoop E 0 gp av ce) R s
 new:∀{A:î} {X:Å->Ä->Prop} {s:Ä} {Q:Å->Ä->Prop},Q (.ref s.heap.objs.size) { s with heap:=s.heap.push o0 }->Û (ã P w) A new Q X s
 start:∀{A:î} {R:Result->Ä->Prop} {s:Ä} {it acc:Å} {env:Env},δ (ã P w) A (.compLoop E 0 it acc env) R s->Û (ã P w) A (pyIter it) (λlG s'=>δ (ã P w) A (.compLoop E 0 lG acc env) R s') (notedBy (ã P w) A env λx s'=>R (.error x) s') s->δ (ã P w) A (.compStart E 0 it acc env) R s
 init:∀{D:Ú} {h:Ī},h.get? D=some o0->Ac D [] h
 obj:∀{D:Ú} {acc:List V} {h:Ī},Ac D acc h->∃o,h.get? D=some o/\∀v,o.data≠.cell v
 dU:∀{D:Ú} {acc:List V} {h h':Ī},Ac D acc h->(∀o,h.get? D=some o->h'.get? D=some o)->Ac D acc h'
 IF:∀{D:Ú} {acc:List V} {h:Ī} {H:Hp},kf acc->Ac D acc h->di P w (upd H D (mk D acc)) h D (mk D acc)
 add:∀{A:î} {s:Ä} {D:Ú} {acc:List V} {v:V} {y:Å} {Q:Å->Ä->Prop},Ac D acc s.heap->RelV v y->kf acc->kf (acc++[v])->(∀h' tk,ĩ D s.heap h'->Ac D (acc++[v]) h'->Q .none { s with heap:=h',toks:=tk })->Û (ã P w) A (call (.builtin ap) [.ref D,y]) Q (λ_ _=>False) s
section
variable {X:Cx}
def FA {E el tg src:Ġ} {tests:List Ġ} {sc:ſ} {N:List Str} {nt:Nat} {cap:List Nat} {wi:TI} {g:TG} {tf:TT} {te:TE} {p1:Pos} {use:Option (Å->Sem Unit)} {R:Å->Ä->Prop} {π:List (Ú×Obj)} {s:Ä} {σ:St} {H:Hp} {Q:VK} {new:Sem Å} {ap:String} {mk:Ú->List V->HO} {kf:List V->Prop} (B:JM X.prog X.w E el tg src tests new ap mk kf) (hc:X.calm=true) (S:mT X sc N nt cap) (fL:mv g nt) (hi:PI X tg src wi)
  (hY:∀(cl:List (Str×Ú)) (C:Ú) (s:Ä) (H:Hp) (ex:List Ú) (pn:List (Ú×Obj)),PG (dO X N sc cl C s H ex pn) tg g/\PF (dO X N sc cl C s H ex pn) tests tf/\PE (dO X N sc cl C s H ex pn) el te)
  (hs:∀x,ü src X.env x=pure x) (I:Inv X π σ H s) (h:wi σ H λJ H1=>Lc mk kf J nt (lV cap σ) g tf te H1 Q)
  (Cb:∀(s':Ä) (H1:Hp) (D C:Ú) (m:Str->Option Å),(∀h',ĩ C s'.heap h'->Inv X π σ H1 { s' with heap:=h' })->s'.heap.Ns C m->H1 C=none->C≠X.env.locals->C∉X.fs->X.cM.heap.objs.size<=C->(∀x c,X.env.cells.lookup x=some c->c≠C)->(∀p∈X.pn++π,p.1≠C)->Q (.ref D) H1->compPost (ã X.prog X.w) X.A X.xe use R (.ref D) C (.ok .next) s') :
  Û (ã X.prog X.w) X.A (comprehension E sc X.env p1 new false (ļ src X.env) use) R X.xe s:=by
 obtain⟨cl,Bl,cP⟩:=Ii (env:=X.env) (sc:=sc) λn hn=>I.ok.has n (S.frees _ hn rfl).2;refine wpAny_comprehension_free (use:=use) B.clauses hs Bl S.kind S.names (aH (hi π s σ H _ I h) λxv s1 h1=>aH h1 λgp k h2=>?_);obtain⟨it,t,tn,J,H2,e,M,T,fq,f2,W,⟨m0,w0⟩,turn⟩:=h2;subst e;refine B.new (My λgu h3 j j8 nI=>?_);dsimp only at j j8 nI |-;generalize hD:k.heap.objs.size=D at j j8 nI |-;generalize hG:k.heap.push B.o0=G at j j8 nI |-;generalize Dt:G.objs.size=C at j j8 nI |-;have hC:C=D+1:=by rw[<- Dt,<- hG,ĉ,hD]
 have pS:D≠C:=by omega
 have d:k.heap.objs.size<=D:=Nat.le_of_eq hD;have l:k.heap.objs.size<=C:=by omega
 have old:∀b o,k.heap.get? b=some o->h3.get? b=some o:=λb o e=>nI b o (hG ▸ Á _ e);have j5:B.Ac D [] h3:=B.init (nI _ _ (hG ▸ hD ▸ Í _ B.live));have fJ:∀b∈t,b<k.heap.objs.size:=λb P=>by
  obtain⟨o,e,_⟩:=T.obj _ _ fq b P;exact Ì e
 have j:=j λx c e=>by
  obtain⟨v,o,ho,_⟩:=M.cell x c ((cP x c).mp e).2;exact Ç (Ì ho) l
 have IB:=M.Uz (t':=k.toks) S cP j f2 fJ old l ⟨_,j8⟩;have Du:D∉b9 X.stack:=λz=>by
  rcases Ô.mp (M.jO D z) with e|e
  ·exact absurd (Ç M.lt d) (by rw[e];exact ñ _)
  ·exact M.tR d e
 have mC:D∉t:=λz=>absurd (Ç (fJ D z) d) (ñ _);have AK:∀x c,gu.lookup x=some c->c≠D:=λx c e z=>by
  rcases j.old x c e with ⟨q,_,_⟩|e
  ·rw[z] at q
   exact absurd q (by rw[hC];exact Nat.not_lt.mpr (aay D))
  ·obtain⟨v,o,ho,_⟩:=M.cell x c ((cP x c).mp e).2
   exact absurd (Ç (Ì ho) (by rw[z];exact d)) (ñ _)
 have Bm:∀p∈X.pn++π,p.1≠D:=λp L z=>absurd (Ç (Ì (M.pin p L).1) (by rw[z];exact d)) (ñ _);generalize O:dO X N sc gu C k H2 t (X.pn++π)=Y at IB;have mE:∀{U:Hp} {pl:List (Ú×Obj)},(∀b∈t,U b=none)->(∀p∈pl,p.1∉t)->∀b∈t,fg Y pl U b:=λ{U pl} hn L b P=>by
  subst O;obtain⟨_,f1,pQ,f3,f4,f5⟩:=f2 b P;refine⟨hn b P,ß (Ç (fJ b P) l),λz=>?_,.inl P,λx c e=>(j.old x c e).elim (λq z=>š (Ç (fJ b P) (à l (Nat.le_of_lt q.1))) z) λe=>f4 x c ((cP x c).mp e).2,λp uZ=>?_⟩
  ·rcases Ô.mp (M.jO b z) with e|e
   ·exact f1 e
   ·exact pQ e
  ·rcases ċ.mp uZ with z|z
   ·exact f5 p z
   ·exact λe=>L p z (e ▸ P)
 have Dv:PG Y tg g:=by subst O;exact(hY _ _ _ _ _ _).1
 have Dw:PF Y tests tf:=by subst O;exact(hY _ _ _ _ _ _).2.1
 have YU:PE Y el te:=by subst O;exact(hY _ _ _ _ _ _).2.2
 have eP:Y.prog=X.prog:=by subst O;rfl
 have eW:Y.w=X.w:=by subst O;rfl
 have eA:Y.A=X.A:=by subst O;rfl
 have eK:Y.K=X.K:=by subst O;rfl
 have eE:Y.env=compEnvC sc gu C X.env:=by subst O;rfl
 have eX:Y.xe=λ_ _=>False:=by subst O;rfl
 have eC:Y.calm=true:=by subst O;exact hc
 have eS:Y.cM.heap.objs.size<=D:=by subst O;exact d
 have eF:D∉Y.fs:=by subst O;exact Du
 have eL:D≠Y.env.locals:=by subst O;exact pS
 have YV:∀x c,Y.env.cells.lookup x=some c->c≠D:=by subst O;exact AK
 have eN:∀p∈Y.pn,p.1≠D:=by subst O;exact Bm
 have fin:∀(s':Ä) (a:St) (U:Hp) (Z:List V),Inv Y [] a U s'->B.Ac D Z s'.heap->U D=none->kf Z->(∀D,U D=none->Q (.ref D) (upd U D (mk D Z))) ->
   compPost (ã X.prog X.w) X.A X.xe use R (.ref D) C (.ok .next) s':=by
  intro s' a U Z F pl hn hz q;subst O;obtain⟨m,hm,_⟩:=id F.loc;refine Cb s' (upd U D (mk D Z)) D C m (λh' sb=>?_) hm ?_ (λz=>absurd (Ç M.lt l) (by rw[z];exact ñ _)) (M.tR l) (à M.sz l) (λx c e z=>?_) (λp L z=>absurd (Ç (Ì (M.pin p L).1) (by rw[z];exact l)) (ñ _)) (q D hn)
  ·have Ci:cq X.prog X.w U h':=F.aC.but F.free sb
   have u:=(F.base.but l sb).adopt (o:=mk D Z) d hn
   refine M.sX (s':={ s' with heap:=h' }) (ch:=t) F.os u (Ci.adopt hn (B.IF hz (B.dU pl λo e=>(sb.2 D pS).trans e))) F.bare (λb P=>?_)
   obtain⟨_,f1,_,f3,f4,f5⟩:=f2 b P;exact⟨f3,f1,f4,f5⟩
  ·rw[aX (Ź pS)]
   exact F.free
  ·obtain⟨v,o,gJ,_⟩:=M.cell x c e
   exact absurd (Ç (Ì gJ) (by rw[z];exact l)) (ñ _)
 have loop:δ (ã X.prog X.w) X.A (.compLoop E 0 (.ref it) (.ref D) (compEnvC sc gu C X.env)) (compPost (ã X.prog X.w) X.A X.xe use R (.ref D) C)
   { k with heap:=h3 }:=by
  refine B.turns (λn s'=>∃i Z o U,Inv Y [] (o++lV cap σ) U s'/\o.length=nt/\tn i s'.heap/\(∀b∈t,U b=none)/\B.Ac D Z s'.heap/\U D=none/\W i n Z U) ?_ m0
   ⟨0,[],Ò nt none,H2,IB,by simp,T.keep _ _ _ fq λb _ o e=>old b o e,λb P=>(f2 b P).1,j5,M.aC.fresh d,w0⟩
  rintro n s3 ⟨i,Z,o3,H3,I3,Lr,jA,nB,Ls,YW,w3⟩;generalize YX:o3++lV cap σ=a at I3;obtain⟨f,ho,V8⟩:=B.obj Ls;have u0:Inv Y [(D,f)] a H3 s3:=I3.lQ λp L=>by
   have e:p=(D,f):=by simpa using L
   subst e;exact⟨ho,YW,eL,eF,V8⟩
  have pR:∀p∈[(D,f)],p.1∉t:=λp L=>by
   have e:p=(D,f):=by simpa using L
   subst e;exact mC
  have rF:∀{pl:List (Ú×Obj)} {cT:St} {U:Hp} {s':Ä},Inv Y ([(D,f)]++pl) cT U s'->B.Ac D Z s'.heap/\U D=none:=λ{pl cT U s'} F=>by
   have q:=F.pin (D,f) (Î _ (ā _ (by simp)));exact⟨B.dU Ls λo e=>by rw[ho] at e;cases e;exact q.1,q.2.1⟩
  rcases turn i n Z H3 w3 with ⟨stop,hz,q⟩ | ⟨go,hz,N',hN,step⟩
  ·have hd:=T.done Y eP eW eK eC i [(D,f)] s3 a H3 (λ_ _=>False) u0 (mE nB pR) jA stop
   rw[eA] at hd;refine aH hd λr s4 h4=>?_;obtain⟨hr,I4⟩:=h4;subst hr;obtain⟨Dr,n4⟩:=rF (pl:=[]) (by simpa using I4);exact fin s4 a H3 Z (Inv.lP (π:=[]) I4) Dr n4 hz q
  ·have hd:=T.item Y eP eW eK eC i [(D,f)] s3 a H3 (λ_ _=>False) u0 (mE nB pR) jA go
   rw[eA] at hd;refine aH hd λr s4 h4=>?_;obtain⟨u,hr,h4⟩:=h4;subst hr;refine aH h4 λ_ s5 h5=>?_;obtain⟨x,H5,I5,r5,y5,kc,uA⟩:=h5;have uB:=I5.pinned (mE uA pR) (T.obj _ _ kc);have q5:=Dv _ s5 a H5 x u _ uB r5 (YX ▸ fL x o3 _ H5 _ Lr (step o3 x H5 Lr y5));rw[eP,eW,eA,eE,eX] at q5;refine aH q5 λ_ s6 h6=>?_;obtain⟨rG,H6,I6,⟨o6,u4,xN⟩,q6⟩:=h6;have q7:=Dw _ s6 rG H6 _ I6 q6;rw[eP,eW,eA,eE,eX] at q7;refine aH q7 λb s7 h7=>?_;obtain⟨H7,I7,q7⟩:=h7;have uh:∀{cT:St} {U:Hp} {s':Ä},Inv Y ([(D,f)]++mQ t s5.heap) cT U s'->tn (i+1) s'.heap/\∀b∈t,U b=none:=λ{cT U s'} F=>by
    refine⟨T.keep _ _ _ kc λb P o e=>(F.pin (b,o) (Î _ (Î _ (pY P e)))).1,λb P=>?_⟩;obtain⟨o,e,_⟩:=T.obj _ _ kc b P;exact(F.pin (b,o) (Î _ (Î _ (pY P e)))).2.1
   cases b with
   |false =>
    rw[ì Õ] at q7 |-;obtain⟨m',hm,w7⟩:=hN _ _ q7;obtain⟨yu,n7⟩:=rF I7;obtain⟨t7,f7⟩:=uh I7;exact⟨m',hm,i+1,Z,o6,H7,xN ▸ I7.lQ (λp L=>by simp at L),u4,t7,f7,yu,n7,w7⟩
   |true =>
    rw[Þ rfl] at q7 |-;have q8:=YU _ s7 rG H7 _ I7 q7;rw[eP,eW,eA,eE,eX] at q8;refine aH q8 λy s8 h8=>?_;obtain⟨v,H8,I8,r8,q9⟩:=h8;obtain⟨m',hm,w8⟩:=hN _ _ q9;obtain⟨Dj,n8⟩:=rF I8;obtain⟨t8,f8⟩:=uh I8;have gM:kf (Z++[v]):=by
     rcases turn (i+1) m' (Z++[v]) H8 w8 with q|q
     ·exact q.2.1
     ·exact q.2.1
    refine B.add Dj r8 hz gM λh9 YY yt Dl=>?_;have Dp:Inv Y [] rG H8 s8:=I8.lQ (λp L=>by simp at L)
    have I9:Inv Y [] rG H8 { s8 with heap:=h9,toks:=YY }:=Dp.turned (it:=D) (λb o P e=>(yt.2 b P).trans e) n8 eL (.inr eS) YV (λp L=>eN p (by simpa using L))
    exact⟨m',hm,i+1,Z++[v],o6,H8,xN ▸ I9,u4,T.keep _ _ _ t8 λb P o e=>(yt.2 b (λz=>mC (z ▸ P))).trans e,f8,Dl,n8,w8⟩
 exact B.start loop (T.self _ _ _ _ _ (T.keep _ _ _ fq λb _ o e=>old b o e) loop)
def KC {P:â} {w:Ą} {el tg src:Ġ} {tests:List Ġ} {sc:ſ} {ps:Pos}:JM P w (.ListComp el [⟨tg,src,tests,0⟩] sc ps) el tg src tests (newList []) "list.append" (λ_ acc=>.lst acc) (λacc=>acc.length<=Ñ) where
 o0:={ cls:=.type "list",dict:=none,data:=.seq ([]:List Å).toArray }
 live:=rfl
 Ac:=λD acc h=>∃Z,h.PlainList D Z/\Vals acc Z.toList
 clauses:=rfl
 turns:=NT
 new:=λh=>ù h
 start:=codeAny_compStart_list
 init:=λe=>⟨#[],⟨_,e⟩,.nil⟩
 obj:=λ⟨_,⟨_,e⟩,_⟩=>⟨_,e,λ_ z=>by cases z⟩
 dU:=λ⟨Z,⟨n,e⟩,r⟩ k=>⟨Z,⟨n,k _ e⟩,r⟩
 IF:=λY ⟨Z,⟨n,e⟩,r⟩=>⟨Y,Z.toList,n,r,by simpa using e⟩
 add:=λ{A s D acc v y Q} ⟨Z,X,r⟩ W Y _ q=>wpAny_list_append_plain (hsz:=by have e:=r.length;simp only[ò] at e;omega) X λV U T=>q V s.toks T ⟨Z.push y,U,by rw[aa7];exact Vals.append r (.cons W .nil)⟩
def GP (hc:X.calm=true) (S:mT X sc N nt cap) (fL:mv g nt) (hi:PI X tg src wi)
 (hY:∀(cl:List (Str×Ú)) (C:Ú) (s:Ä) (H:Hp) (ex:List Ú) (pn:List (Ú×Obj)),PG (dO X N sc cl C s H ex pn) tg g/\PF (dO X N sc cl C s H ex pn) tests tf/\PE (dO X N sc cl C s H ex pn) el te)
 (hs:∀x,ü src X.env x=pure x:=by intro _;rfl):PE X (.ListComp el [⟨tg,src,tests,0⟩] sc ps) (mY wi nt cap g tf te):=by
 intro T s σ H Q I h;rw[eval_ListComp];exact FA KC (use:=none) hc S fL hi hY hs I h λR Z D C m Y W _ _ _ _ _ _ q=>⟨m,W,λV U=>⟨.ref D,Z,Y V U,rfl,q⟩⟩
def Qw {el tg src:Ġ} {tests:List Ġ} {sc:ſ} {ps pos pos':Pos} {N:List Str} {nt:Nat} {cap:List Nat} {wi:TI} {g:TG} {tf:TT} {te:TE} {i0:Nat} {x0:Str} (DD:X.N.Nodup) (DE:X.N[i0]?=some x0) (DF:Loc X.env.scope x0) (hc:X.calm=true) (S:mT X sc N nt cap) (fL:mv g nt) (hi:PI X tg src wi)
  (hY:∀(cl:List (Str×Ú)) (C:Ú) (s:Ä) (H:Hp) (ex:List Ú) (pn:List (Ú×Obj)),PG (dO X N sc cl C s H ex pn) tg g/\PF (dO X N sc cl C s H ex pn) tests tf/\PE (dO X N sc cl C s H ex pn) el te)
  (hs:∀x,ü src X.env x=pure x:=by intro _;rfl)
  (DG:swapsWith (.ListComp el [⟨tg,src,tests,0⟩] sc ps) (some (.Name x0 pos')) pos.line X.env=pure true:=by rfl)
  (DH:X.fn x0=true\/X.env.scope.names.lookup x0=some .local:=by first|exact .inl rfl|exact .inr rfl|assumption):PS X (.Assign [.Name x0 pos'] (.ListComp el [⟨tg,src,tests,0⟩] sc ps) pos) (qN (mY wi nt cap g tf te) (lU i0)):=by
 intro W s σ H V I h;rw[exec_Assign_Name_used _ _ _ _ DG];refine À (Š (À ?_));obtain⟨Q,P⟩:∃Q:VK,Q=λv Z=>lU i0 v σ Z V.nx:=⟨_,rfl⟩;have h:mY wi nt cap g tf te σ H Q:=by rw[P];exact h
 have G:∀v Z,Q v Z->V.nx (σ.set i0 (some v)) Z:=λv Z q=>by rw[P] at q;exact q
 unfold evalThenUse
 refine À (Ĕ (Q:=λ_ Y=>SP X W V .next Y) ?_ (λ_ Y q=>Ã (Ã q)) (λ_ _ z=>z))
 refine FA KC (use:=some (abH (.Name x0 pos') X.env)) hc S fL hi hY hs I h λY Z D C m F E O M B A y w q=>?_;have L:Inv X W σ Z Y:=F Y.heap (Heap.SameBut.refl _ _);obtain⟨U,u,t,r,K,n⟩:=id E;have l:Inv X ((C,U)::W) σ Z Y:=L.lQ λp T=>by
  rcases Ô.mp T with e|e
  ·subst e
   exact⟨r,O,M,B,λv z=>by rw[K] at z;cases z⟩
  ·exact L.pin p (Î _ e)
 show Û _ _ (abH (.Name x0 pos') X.env (.ref D)) _ _ Y;refine wpAny_assign_Name (lO l DD DE DF (show RelV (.ref D) (.ref D) from rfl) (λJ R=>?_) DH);have k:=(R.pin (C,U) (Î _ (Ø ..))).1;refine⟨m,⟨U,u,t,k,K,n⟩,λd j=>⟨_,Z,?_,G _ _ q⟩⟩;have i:Inv X W (σ.set i0 (some (.ref D))) Z J:=R.lQ λp T=>R.pin p (Î _ (Ï _ T));exact i.turned (it:=C) (t':=J.toks) (λb o f e=>(j.2 b f).trans e) O M (.inr A) y w
end
noncomputable def AO (sc:ſ) (on:List (Str×ť)) (oN N:List Str) (nt:Nat) (cap:List Nat):Bool :=
 decide (sc.kind=.function)&&sc.names.all (λx=>decide (x.2=.local->sc.names.lookup x.1=some .local))&&sc.names.all (λx=>decide (x.2=.cell->sc.names.lookup x.1=some .cell)) &&
 sc.names.all (λx=>decide (x.2=.free->sc.names.lookup x.1=some .free/\(on.lookup x.1=some .cell\/on.lookup x.1=some .free)))&&decide (N.length=nt+cap.length) &&
 (Ā cap.length).all (λk=>match cap[k]? with
  |some j=>match oN[j]? with
   |some x=>decide (N[nt+k]?=some x)&&decide ((x,ë)∈sc.names)
   |none=>false
  |none=>true)
def xn (h:AO sc X.env.scope.names X.N N nt cap=true):mT X sc N nt cap:=by
 unfold AO at h;simp only[Æ,æ,Ê] at h;obtain⟨⟨⟨⟨⟨Z,Y⟩,W⟩,V⟩,U⟩,T⟩:=h;refine⟨Z,Y,W,λx S e=>V x S e,U,λk j e=>?_⟩;have R:k<cap.length:=(È.mp e).1;have:=T k (ú.mpr R);rw[e] at this;dsimp only at this
 cases ex:X.N[j]? with
 |none=>rw[ex] at this;cases this
 |some x =>
  rw[ex] at this;simp only[Æ,Ê] at this;exact⟨x,rfl,this.1,this.2⟩
end L2
namespace DI
open PySem L2
section
variable {X:Cx} {Ξ:Wd->aT->Prop} {e a b c tg el src:Ġ} {es rest tests:List Ġ} {pos:Pos} {f g h:abZ D} {fa:abZ (List D)} {ft gt:abZ Bool}
def Hz (hc:X.calm=true) (S:mT X sc N nt cap) (T:Tg X.K g0 gd nt) (hi:PI X tg src (eU X.K Ξ it))
 (hY:∀(cl:List (Str×Ú)) (C:Ú) (s:Ä) (H:Hp) (ex:List Ú) (pn:List (Ú×Obj)),PG (dO X N sc cl C s H ex pn) tg g0/\PF (dO X N sc cl C s H ex pn) tests (tT X.K bL ft)/\PE (dO X N sc cl C s H ex pn) el (tE X.K bL f))
 (hs:∀x,ü src X.env x=pure x:=by intro _;rfl):PE X (.ListComp el [⟨tg,src,tests,0⟩] sc ps) (tE X.K Ξ (cB nt cap it gd ft f)) :=
 cg (GP hc S T.kj hi hY hs) fun σ H Q h=>zd T.imp (λR Z i h=>GD R Z i h) (GC σ H Q h)
def Sj {sc:ſ} {ps pos':Pos} {N:List Str} {nt:Nat} {cap:List Nat} {it:abZ (List D)} {gd:D->Env->Option Env} {g0:TG} (i0:Nat) {x0:Str} (DD:X.N.Nodup) (hc:X.calm=true) (S:mT X sc N nt cap) (T:Tg X.K g0 gd nt) (hi:PI X tg src (eU X.K Ξ it))
  (hY:∀(cl:List (Str×Ú)) (C:Ú) (s:Ä) (H:Hp) (ex:List Ú) (pn:List (Ú×Obj)),PG (dO X N sc cl C s H ex pn) tg g0/\PF (dO X N sc cl C s H ex pn) tests (tT X.K bL ft)/\PE (dO X N sc cl C s H ex pn) el (tE X.K bL f))
  (DE:X.N[i0]?=some x0:=by rfl) (DF:Loc X.env.scope x0:=by first|exact aa1 rfl|exact Or.inr rfl)
  (hs:∀x,ü src X.env x=pure x:=by intro _;rfl)
  (DG:swapsWith (.ListComp el [⟨tg,src,tests,0⟩] sc ps) (some (.Name x0 pos')) pos.line X.env=pure true:=by rfl)
  (DH:X.fn x0=true\/X.env.scope.names.lookup x0=some .local:=by first|exact .inl rfl|exact .inr rfl):PS X (.Assign [.Name x0 pos'] (.ListComp el [⟨tg,src,tests,0⟩] sc ps) pos) (tS X.K Ξ (aU (cB nt cap it gd ft f) (gN i0))) :=
 jP (Qw DD DE DF hc S T.kj hi hY hs DG DH) λD σ H h=>by
  have Z:=Ga (te:=tE X.K Ξ f) D σ H (Ai D σ H h);exact zd T.imp (λR Y i h=>GD R Y i h) (GC σ H _ Z)
end
end DI
namespace L2
open PySem PySem.Spec PyProof.Rows
section
variable {X:Cx} {tg:Ġ}
end
end L2
namespace DI
open PySem L2
section
variable {X:Cx} {Ξ:Wd->aT->Prop} {a b c tg:Ġ} {pos:Pos} {fa:abZ (List D)}
end
end DI
namespace L2
open PySem PySem.Spec PyProof.Rows
section
variable {X:Cx}
theorem FC:∀(ys:List Å) (k:Nat),(∀(i:Nat) (v:Å),ys[i]?=some v->∃t,v=abw (0+((k+i:Nat):Int)*1) t)->Vals ((List.range' k ys.length).map λi:Nat=>V.int (0+(i:Int))) ys
 | [],k,_=>.nil
 |y::ys,k,h=>by
  rw[õ,List.range'_succ,á];refine .cons ?_ (FC ys (k+1) λi v e=>?_)
  ·obtain⟨t,e⟩:=h 0 y rfl
   rw[e];exact⟨t,by rw[Int.mul_one];rfl⟩
  ·obtain⟨t,e⟩:=h (i+1) v (by simpa using e)
   exact⟨t,by rw[e,show k+(i+1)=k+1+i by omega]⟩
end
end L2
namespace DI
open PySem L2
section
variable {X:Cx} {Ξ:Wd->aT->Prop} {a:Ġ} {p pos:Pos} {fa:abZ (List D)}
def Sm (n:Nat):ak K w (cj 0 n) ((Ā n).map λi:Nat=>V.int (0+(i:Int))):=by
 have:cj 0 n=((Ā n).map λi:Nat=>(0:Int)+(i:Int)).map D.int:=by
  unfold cj;rw[ė];rfl
 rw[this,show ((Ā n).map λi:Nat=>V.int (0+(i:Int)))=((Ā n).map λi:Nat=>(0:Int)+(i:Int)).map V.int by rw[ė];rfl];exact ak.ints _
end
section
variable {X:Cx} {Ξ:Wd->aT->Prop} {a:Ġ} {p pos:Pos} {f g:abZ D} {fa:abZ (List D)}
def xQ (d i:D) (s:aa):Res D:=match d,i with
 | .az k,.int n=>match s[k]? with
  |some (.lst Z)=>match dY Z.length n with
   |some j=>match Z[j]? with
    |some x=>if decide (Z.length<Ñ)=true then ok x (s.set k (.lst (Z.eraseIdx j))) else none
    |none=>none
   |none=>none
  |_=>none
 |_,_=>none
def xR (f g:abZ D):abZ D:=λenv s=>aj (f env s) λd s=>if kU d s=true then aj (g env s) λx s=>xQ d x s else none
theorem ak.erase:∀{ds:List D} {xs:List V} (j:Nat),ak K w ds xs->ak K w (ds.eraseIdx j) (xs.eraseIdx j)
 | [],xs,j,h=>by
  have e:xs=[]:=h;subst e;exact h
 |d::ds,xs,0,h=>by
  obtain⟨v,r,rfl,_,dr⟩:=h;exact dr
 |d::ds,xs,j+1,h=>by
  obtain⟨v,r,rfl,Z,dr⟩:=h;exact⟨v,r.eraseIdx j,rfl,Z,ak.erase j dr⟩
def UA (S:aI K w) (dv:DV K w d v) (dn:DV K w i n) (h:Out K Ξ w (xQ d i w.aw) q):∃a xs m j y,v=.ref a/\n=.int m/\w.H a=some (.lst xs)/\dY xs.length m=some j/\xs[j]?=some y/\xs.length<Ñ/\∃w' x,w'.H=upd w.H a (.lst (xs.eraseIdx j))/\q w' x/\DV K w' x y:=by
 unfold xQ at h;split at h
 ·rename_i k m
  split at h
  ·rename_i Y X
   split at h
   ·rename_i j V
    split at h
    ·rename_i x U
     split at h
     ·rename_i T
      obtain⟨a,e1,rfl⟩:=dv;have e2:n=.int m:=dn;subst e2;obtain⟨xs,R,Z⟩:=S.cell k a _ e1 X;obtain⟨y,Q,P⟩:=Z.get' j x U;have W:(Cell.lst Y)≠.dead:=by intro z;cases z
      have le:=(Fw.put (K:=K) (o:=.lst (xs.eraseIdx j)) (c:=.lst (Y.eraseIdx j)) S e1 X W).le;refine⟨a,xs,m,j,y,rfl,rfl,R,by rw[<- Z.length];exact V,Q,by rw[<- Z.length];exact ð T,w.put k a (.lst (xs.eraseIdx j)) (.lst (Y.eraseIdx j)),x,rfl,?_,le _ _ P⟩;exact h _ le (S.xF e1 X W ⟨_,cu,le.all (Z.erase j)⟩) rfl
     ·exact h.elim
    ·exact h.elim
   ·exact h.elim
  ·exact h.elim
 ·exact h.elim
def V9 {o:Ġ} {apos aO:Pos} (ho:PE X o (tE X.K Ξ f)) (ha:PE X a (tE X.K Ξ g))
  (iL:Ţ o "pop" X.env (ļ o X.env)=ļ o X.env:=by rfl)
  (iS:((Ħ aO (Ë [a] X.env)).all (λx=>!x.1)&&(abJ aO (η [] X.env)).all (λx=>x.1.isSome)
   && decide (([a]:List Ġ).length+([]:List ź).length+(if ([]:List ź).isEmpty then 0 else 1)<30))=true:=by rfl)
  (iM:(apos.endLine==aO.line)=true:=by rfl) (hs:Ë [a] X.env=(false,ļ a X.env)::Ë [] X.env:=by rfl) (fW:(Ħ aO (Ë [] X.env)).any (·.1)=false:=by rfl) :
  PE X (.Call (.Attribute o "pop" apos) [a] [] aO) (tE X.K Ξ (xR f g)) :=
 cg (qG ů PySem.F.slot_list_pop PySem.F.type_list_pop P7 ho (gy ha iI hs) iL iS iM hs fW) fun σ H Q T=>by
  obtain⟨w,env,Z,S,W,h⟩:=T;subst Z;refine⟨w,env,rfl,S,W,(Out.aj h).mono λR d P V Y v U=>?_⟩;split at Y
  ·rename_i O
   obtain⟨k,p,n,N,rfl,rfl,e1,e2,M,l⟩:=Hv V U O;refine⟨.inl ⟨rfl,N,aZ.of M⟩,R,env,rfl,V,W.le P,(Out.aj Y).mono λi y L J I u G=>?_⟩;obtain⟨E,D,m,j,z,C,rfl,B,A,t,e,c,x,Z,s,r⟩:=UA J (L _ _ U) G I;obtain⟨q,b,s3,s4⟩:=z3 A;have hz:Ñ=16777216:=ŕ;refine⟨E,D,m,j,z,C,rfl,B,by omega,by omega,q,t,?_⟩;rw[<- Z];exact s _ r
  ·exact Y.elim
end
open HT PyProof.Rows
section
variable {X:Cx} {Ξ:Wd->aT->Prop}
def O0 (h:Vals xs us):∀{q:List Nat},(∀i∈q,i<us.length)->Vals (q.map λi=>xs.getD i .ao) (q.map λi=>us.getD i Value.none):=by
 intro q
 induction q with
 |nil=>intro _;exact .nil
 |cons i q ih =>
  intro Z;refine .cons ?_ (ih λj Y=>Z j (Ï _ Y));have hi:=Z i Ø;clear ih Z
  induction h generalizing i with
  |nil=>simp at hi
  |cons a _ ih =>
   cases i with
   |zero=>exact a
   |succ i=>simpa using ih i (by simpa using hi)
def Qx {K:Ē} {w:Wd} {ds:List D} {xs:List V} (h:ak K w ds xs):∀{q:List Nat},(∀i∈q,i<ds.length)->ak K w (q.map λi=>ds.getD i .ao) (q.map λi=>xs.getD i .ao):=by
 intro q
 induction q with
 |nil=>intro _;exact rfl
 |cons i q ih =>
  intro Z;have hi:=Z i Ø;obtain⟨v,e,Y⟩:=h.get' i _ (Ð hi);refine⟨_,_,rfl,?_,ih λj X=>Z j (Ï _ X)⟩;have e1:ds.getD i .ao=ds[i]:=by simp[hi]
  have e2:xs.getD i .ao=v:=by simp[e]
  show DV K w (ds.getD i .ao) (xs.getD i .ao);rw[e1,e2];exact Y
def Qy {α:Type} {O:ST.Ord α} {ks:List α} {f:α->D} {d:α} {q:Array Nat} (hp:ST.Pm ks.length q) (hu:ST.Up O (ST.ky (λi=>ks.getD i d) q) ks.length):q.toList.map (λi=>(ks.map f).getD i .ao)=(ST.dR O ks).map f:=by
 rw[<- ST.OZ hp hu,ė];refine List.map_congr_left λi hi=>?_;have:i<ks.length:=ú.mp (hp.2.mem_iff.mp hi);simp[this]
end
end DI
namespace TK
open PySem PySem.W PyProof.Rows DI
mutual
noncomputable def kd:D->Bool
 | .int _=>true
 | .str x=>abk x
 | .tup Z=>dE Z
 |_=>false
noncomputable def dE:List D->Bool
 | []=>true
 |k::Z=>kd k&&dE Z
end
mutual
def KA (h:Ī):D->Å->Prop
 | .int i,v=>∃t,v=.int i t
 | .str x,v=>∃t,v=.str x t
 | .tup Z,v=>∃a o its n,v=.ref a/\h.get? a=some o/\o.cls=.type "tuple"/\o.data=.seq its n/\cU h Z its.toList
 |_,_=>False
def cU (h:Ī):List D->List Å->Prop
 | [],Z=>Z=[]
 |k::Y,Z=>∃v r,Z=v::r/\KA h k v/\cU h Y r
end
mutual
theorem oB:∀k:D,kd k=true->lay k=true
 | .int _,_=>rfl
 | .str _,h=>h
 | .tup Z,h=>by simp only[kd] at h;simp only[lay];exact vU Z h
 | .ao,h=>by cases h
 | .bl _,h=>by cases h
 | .lst _,h=>by cases h
 | .bK _,h=>by cases h
 | .az _,h=>by cases h
 | .ty _,h=>by cases h
 | .bJ _,h=>by cases h
 | .exc _ _,h=>by cases h
 | .cA _ _ _,h=>by cases h
theorem vU:∀ks:List D,dE ks=true->c9 ks=true
 | [],_=>rfl
 |k::ks,h=>by
  simp only[dE,c9,Æ] at h |-;exact⟨oB k h.1,vU ks h.2⟩
end
mutual
theorem wM:∀x y:D,kd x=true->kd y=true->(beq x y=true↔x=y)
 | .int i,.int j,_,_=>by simp[beq]
 | .str i,.str j,_,_=>by simp[beq]
 | .tup Z,.tup Y,h,g=>by
  simp only[kd] at h g;simp only[beq,zG Z Y h g];exact⟨λe=>by rw[e],λe=>by injection e⟩
 | .int _,.str _,_,_=>by simp[beq]
 | .int _,.tup _,_,_=>by simp[beq]
 | .str _,.int _,_,_=>by simp[beq]
 | .str _,.tup _,_,_=>by simp[beq]
 | .tup _,.int _,_,_=>by simp[beq]
 | .tup _,.str _,_,_=>by simp[beq]
 | .ao,_,h,_=>by cases h
 | .bl _,_,h,_=>by cases h
 | .lst _,_,h,_=>by cases h
 | .bK _,_,h,_=>by cases h
 | .az _,_,h,_=>by cases h
 | .ty _,_,h,_=>by cases h
 | .bJ _,_,h,_=>by cases h
 | .exc _ _,_,h,_=>by cases h
 | .cA _ _ _,_,h,_=>by cases h
 |_,.ao,_,h=>by cases h
 |_,.bl _,_,h=>by cases h
 |_,.lst _,_,h=>by cases h
 |_,.bK _,_,h=>by cases h
 |_,.az _,_,h=>by cases h
 |_,.ty _,_,h=>by cases h
 |_,.bJ _,_,h=>by cases h
 |_,.exc _ _,_,h=>by cases h
 |_,.cA _ _ _,_,h=>by cases h
theorem zG:∀xs ys:List D,dE xs=true->dE ys=true->(fG xs ys=true↔xs=ys)
 | [],[],_,_=>by simp[fG]
 | [],_::_,_,_=>by simp[fG]
 |_::_,[],_,_=>by simp[fG]
 |x::xs,y::ys,h,g=>by
  simp only[dE,Æ] at h g;simp only[fG,Æ,wM x y h.1 g.1,zG xs ys h.2 g.2,ν]
end
mutual
theorem KA.reads:∀(k:D) (v:Å),KA h k v->∃as,Reads h v (py k) as
 | .int i,v,q=>by obtain⟨t,rfl⟩:=q;exact⟨_,.int i t⟩
 | .str x,v,q=>by obtain⟨t,rfl⟩:=q;exact⟨_,.str x t⟩
 | .tup Z,v,q=>by
  simp only[KA] at q;obtain⟨a,o,its,n,rfl,Y,X,W,r⟩:=q;obtain⟨as,r⟩:=cU.reads Z _ r;exact⟨as,.tuple Y X W r⟩
 | .ao,_,q=>by cases q
 | .bl _,_,q=>by cases q
 | .lst _,_,q=>by cases q
 | .bK _,_,q=>by cases q
 | .az _,_,q=>by cases q
 | .ty _,_,q=>by cases q
 | .bJ _,_,q=>by cases q
 | .exc _ _,_,q=>by cases q
 | .cA _ _ _,_,q=>by cases q
theorem cU.reads:∀(ks:List D) (vs:List Å),cU h ks vs->∃as,ReadsAll h vs (eV ks) as
 | [],vs,q=>by cases q;exact⟨_,.nil⟩
 |k::ks,vs,q=>by
  obtain⟨v,r,rfl,Z,Y⟩:=q;obtain⟨as,Z⟩:=KA.reads k v Z;obtain⟨bs,Y⟩:=cU.reads ks r Y;exact⟨_,.cons Z Y⟩
end
def UB (q:KA h y (.int i t)):y=.int i:=by
 cases y with
 |int j=>obtain⟨_,e⟩:=q;cases e;rfl
 |str j=>obtain⟨_,e⟩:=q;cases e
 |tup Z=>simp only[KA] at q;obtain⟨_,_,_,_,e,_⟩:=q;cases e
 |_=>cases q
def UC (q:KA h y (.str i t)):y=.str i:=by
 cases y with
 |str j=>obtain⟨_,e⟩:=q;cases e;rfl
 |int j=>obtain⟨_,e⟩:=q;cases e
 |tup Z=>simp only[KA] at q;obtain⟨_,_,_,_,e,_⟩:=q;cases e
 |_=>cases q
def UD (q:KA h y (.ref a)):∃ks o its n,y=.tup ks/\h.get? a=some o/\o.cls=.type "tuple"/\o.data=.seq its n/\cU h ks its.toList:=by
 cases y with
 |str j=>obtain⟨_,e⟩:=q;cases e
 |int j=>obtain⟨_,e⟩:=q;cases e
 |tup ks =>
  simp only[KA] at q;obtain⟨_,o,its,n,e,r⟩:=q;cases e;exact⟨ks,o,its,n,rfl,r⟩
 |_=>cases q
mutual
theorem KA.inj:∀(x y:D) (v:Å),KA h x v->KA h y v->x=y
 | .int i,y,v,p,q=>by
  obtain⟨t,rfl⟩:=p;exact(UB q).symm
 | .str i,y,v,p,q=>by
  obtain⟨t,rfl⟩:=p;exact(UC q).symm
 | .tup Y,y,v,p,q=>by
  simp only[KA] at p;obtain⟨a,o,its,n,rfl,X,S,W,r⟩:=p;obtain⟨R,Q,Z,P,rfl,V,O,U,T⟩:=UD q;cases X.symm.trans V;cases W.symm.trans U;rw[cU.inj Y _ _ r T]
 | .ao,_,_,q,_=>by cases q
 | .bl _,_,_,q,_=>by cases q
 | .lst _,_,_,q,_=>by cases q
 | .bK _,_,_,q,_=>by cases q
 | .az _,_,_,q,_=>by cases q
 | .ty _,_,_,q,_=>by cases q
 | .bJ _,_,_,q,_=>by cases q
 | .exc _ _,_,_,q,_=>by cases q
 | .cA _ _ _,_,_,q,_=>by cases q
theorem cU.inj:∀(xs ys:List D) (vs:List Å),cU h xs vs->cU h ys vs->xs=ys
 | [],ys,vs,p,q=>by
  cases p
  cases ys with
  |nil=>rfl
  |cons y ys=>obtain⟨_,_,e,_⟩:=q;cases e
 |x::xs,ys,vs,p,q=>by
  obtain⟨v,r,rfl,Z,Y⟩:=p
  cases ys with
  |nil=>cases q
  |cons y ys =>
   obtain⟨X,W,e,g1,g2⟩:=q;cases e;rw[KA.inj x y v Z g1,cU.inj xs ys r Y g2]
end
mutual
theorem KA.keep (hk:∀a o,h.get? a=some o->o.cls=.type "tuple"->(∃its n,o.data=.seq its n)->h'.get? a=some o):∀(x:D) (v:Å),KA h x v->KA h' x v
 | .int i,v,p=>p
 | .str i,v,p=>p
 | .tup X,v,p=>by
  simp only[KA] at p |-;obtain⟨a,o,its,n,e,W,Z,Y,r⟩:=p;exact⟨a,o,its,n,e,hk a o W Z ⟨its,n,Y⟩,Z,Y,cU.keep hk X _ r⟩
 | .ao,_,q=>by cases q
 | .bl _,_,q=>by cases q
 | .lst _,_,q=>by cases q
 | .bK _,_,q=>by cases q
 | .az _,_,q=>by cases q
 | .ty _,_,q=>by cases q
 | .bJ _,_,q=>by cases q
 | .exc _ _,_,q=>by cases q
 | .cA _ _ _,_,q=>by cases q
theorem cU.keep (hk:∀a o,h.get? a=some o->o.cls=.type "tuple"->(∃its n,o.data=.seq its n)->h'.get? a=some o):∀(xs:List D) (vs:List Å),cU h xs vs->cU h' xs vs
 | [],vs,p=>p
 |x::xs,vs,p=>by
  obtain⟨v,r,e,Z,Y⟩:=p;exact⟨v,r,e,KA.keep hk x v Z,cU.keep hk xs r Y⟩
end
def HA (h:k∈ks):dep k<=dB ks:=by
 induction ks with
 |nil=>cases h
 |cons x Z ih =>
  simp only[dB]
  rcases Ô.mp h with rfl|h
  ·exact aaV _ _
  ·exact à (ih h) (Ŵ _ _)
mutual
noncomputable def hs (w:Ą):D->Int
 | .int i=>hashInt i
 | .str x=>hashStr w x
 | .tup Z=>reduceHash (aaj (lH w Z))
 |_=>0
noncomputable def lH (w:Ą):List D->List Int
 | []=>[]
 |k::Z=>hs w k::lH w Z
end
mutual
noncomputable def dr:D->Nat
 | .int _=>1
 | .str _=>1
 | .tup Z=>ko Z+1
 |_=>0
noncomputable def ko:List D->Nat
 | []=>0
 |k::Z=>dr k+ko Z
end
def HB (w:Ą) (xs ys:List D):lH w (xs++ys)=lH w xs++lH w ys:=by
 induction xs with
 |nil=>rfl
 |cons x xs ih=>simp only[Ę,lH,ih]
def HC (xs ys:List D):ko (xs++ys)=ko xs+ko ys:=by
 induction xs with
 |nil=>simp[ko]
 |cons x xs ih=>simp only[Ę,ko,ih,abt]
section
variable {prog:â} {w:Ą}
def Qz (hu:A.units<abV) (ho:s.heap.get? a=some o) (hc:o.cls=.type "tuple") (hd:o.data=.seq items m) (hi:cU s.heap ks items.toList)
 (ih:∀k∈ks,∀(A':î) (s':Ä) (v:Å) (E':Å->Ä->Prop) (Q':Int->Ä->Prop),A'.units<=A.units+1->KA s'.heap k v->Q' (hs w k) { s' with toks:=s'.toks+dr k }->Û (ã prog w) A' (pyHash v) Q' E' s')
 (h:Q (hs w (.tup ks)) { s with toks:=s.toks+dr (.tup ks) }):Û (ã prog w) A (pyHash (.ref a)) Q E s:=by
 have Z:s.TypeIs (.ref a) "tuple":=⟨o,ho,hc⟩;unfold pyHash
 first|unfold pyHashByItsType|skip
 first|refine À (wpAny_cRoomFor_or (.inr hu) ?_)|skip
 refine À (aaT Z aba.lookup ?_)
 show Û _ _ (if (some (Value.builtin "tuple.__hash__")==some Value.none)=true then _ else _) Q E s
 rw[ì (by rw[beq_builtin_none];exact Õ)];refine À (aaT Z aba.lookup ?_);show Û _ _ (callSpecialIfBoundUnlessNone? (.ref a) "__hash__" _ >>= _) Q E s;refine À (wpAny_callSpecialIfBoundUnlessNone?_slot Z aba (Ċ aba Z F.entry_tuple_hash ?_ (F.args_tuple_hash_1 _)));show Û _ _ (Ř (.ref a) >>= _) _ _ s;refine À (wpAny_tupleItemsOf ho hd ?_);refine À ?_;rw[<- Array.forIn_toList];refine wpAny_forIn_list _
  (λrest (b:Array Int) s'=>∃done left,ks=done++left/\cU s.heap left rest/\b.toList=lH w done/\s'={ s with toks:=s.toks+ko done })
  _ ?_ ?_ _ _ ⟨[],ks,rfl,hi,rfl,rfl⟩
 ·rintro x rest b s' ⟨done,left,e,Y,X,rfl⟩
  cases left with
  |nil=>cases Y
  |cons k left =>
   obtain⟨T,S,ex,U,V⟩:=Y;cases ex
   refine À (ih k (by rw[e];simp) _ { s with toks:=s.toks+ko done } _ _ _ ?_ U ?_)
   ·exact ab3 _
   ·first
     |exact Ã ⟨done++[k],left,by simp[e],V,by simp[X,HB,lH],by simp[abt,HC,ko]⟩
     |exact À (Ã (Ã ⟨done++[k],left,by simp[e],V,by simp[X,HB,lH],by simp[abt,HC,ko]⟩))
 ·rintro b s' ⟨done,left,e,Y,X,rfl⟩
  cases left with
  |cons k left=>obtain⟨_,_,ex,_⟩:=Y;cases ex
  |nil =>
  rw[þ] at e;subst e;simp only[hs,dr] at h;show Û _ _ (retInt (aaj b.toList)) _ _ _;rw[X];generalize aaj (lH w ks)=z at h |-;refine wpAny_ret_mkInt ?_
  show Û _ _ (if (decide (-(2:Int) ^ 63<=z)&&decide (z<2 ^ 63))=true then _ else _) Q E _
  unfold reduceHash at h;by_cases W:(decide (-(2:Int) ^ 63<=z)&&decide (z<2 ^ 63))=true
  ·rw[Þ W]
   rw[Þ W] at h;exact Ã (by simpa [abt] using h)
  ·rw[ì W]
   rw[ì W] at h;exact À (ś (Ã (by simpa [abt] using h)))
def Sn:∀(n:Nat) (k:D),dep k<=n->∀(A:î) (s:Ä) (v:Å) (E:Å->Ä->Prop) (Q:Int->Ä->Prop),KA s.heap k v->A.units+n<abV->Q (hs w k) { s with toks:=s.toks+dr k }->Û (ã prog w) A (pyHash v) Q E s:=by
 intro n
 induction n with
 |zero =>
  intro k Z A s v E Q q Y h
  cases k with
  |int i=>obtain⟨t,rfl⟩:=q;exact wpAny_pyHash_int h
  |str i=>obtain⟨t,rfl⟩:=q;exact wpAny_pyHash_str h
  |tup X=>simp[dep] at Z
  |_=>cases q
 |succ n ih =>
  intro k Z A s v E Q q Y h
  cases k with
  |int i=>obtain⟨t,rfl⟩:=q;exact wpAny_pyHash_int h
  |str i=>obtain⟨t,rfl⟩:=q;exact wpAny_pyHash_str h
  |tup X =>
   simp only[dep] at Z;simp only[KA] at q;obtain⟨a,o,items,m,rfl,W,V,U,hi⟩:=q;exact Qz (by omega) W V U hi (λk T S R v P O L N M=>ih k (by have:=HA T;omega) S R v P O N (by omega) M) h
  |_=>cases q
def QA:∀(n:Nat) (k:D),dep k<=n->∀{A:î} {s:Ä} {v:Å} {E:Å->Ä->Prop} {Q:Bool->Ä->Prop},KA s.heap k v->Q true s->Û (ã prog w) A (eqIsQuiet n v) Q E s:=by
 intro n
 induction n with
 |zero =>
  intro k Z A s v E Q q h
  cases k with
  |int i=>obtain⟨t,rfl⟩:=q;rw[abb _ rfl];exact Ã h
  |str i=>obtain⟨t,rfl⟩:=q;rw[abb _ rfl];exact Ã h
  |tup W=>simp[dep] at Z
  |_=>cases q
 |succ n ih =>
  intro k Z A s v E Q q h
  cases k with
  |int i=>obtain⟨t,rfl⟩:=q;rw[abb _ rfl];exact Ã h
  |str i=>obtain⟨t,rfl⟩:=q;rw[abb _ rfl];exact Ã h
  |tup W =>
   simp only[dep] at Z;simp only[KA] at q;obtain⟨a,o,items,m,rfl,V,R,P,hi⟩:=q;have U:s.TypeIs (.ref a) "tuple":=⟨o,V,R⟩;unfold eqIsQuiet;refine À (aaT U F.slot_tuple_eq.lookup ?_);show Û _ _ (isInstance (.ref a) (.type "tuple") >>= _) _ _ s;refine À (abo U isSubtype_tuple_tuple ?_);simp only[å,Â,ä];refine À (ī V P ?_);refine À ?_;show Û _ _ (forIn items _ _) _ _ s;rw[<- Array.forIn_toList];refine wpAny_forIn_list _ (λrest r Y=>r.1=none/\Y=s/\∃left,cU s.heap left rest/\∀k∈left,dep k<=n) _ ?_ ?_ _ _ ⟨rfl,rfl,W,hi,λk O=>by have:=HA O;omega⟩
   ·rintro v rest r Y ⟨X,rfl,left,T,S⟩
    cases left with
    |nil=>cases T
    |cons k left =>
     obtain⟨K,J,ex,N,M⟩:=T;cases ex;refine À (ih k (S k Ø) N ?_);simp only[å,Â,ä];exact Ã ⟨rfl,rfl,left,M,λu L=>S u (Ï _ L)⟩
   ·rintro ⟨I,H⟩ Y ⟨X,rfl,_⟩
    simp only at X;subst X;exact Ã h
  |_=>cases q
def DJ (h:Ī) (ks:List D) (a:Ú):Prop:=dE ks=true/\dB ks<=6/\KA h (.tup ks) (.ref a)
noncomputable instance aar:DecidableEq (List D):=λa b=>Classical.propDecidable (a=b)
def UE (hu:A.units+10<abV) (hx:DJ s.heap x a) (hy:DJ s.heap y b) (h:Q (decide (x=y)) s):Û (ã prog w) A (PySem.eqBool (.ref a) (.ref b)) Q E s:=by
 obtain⟨W,N,Z⟩:=hx;obtain⟨V,M,Y⟩:=hy;obtain⟨as,Z⟩:=KA.reads _ _ Z;obtain⟨bs,Y⟩:=KA.reads _ _ Y;have U:lay (.tup x)=true:=by simp only[lay];exact vU x W
 have T:lay (.tup y)=true:=by simp only[lay];exact vU y V
 obtain⟨S,R⟩:=jQ _ U;obtain⟨P,O⟩:=jQ _ T;have e:=SeqAt.eqAt_reads _ _ A s _ _ as bs Z Y S P (by rw[R,O];simp only[dep];omega);rw[qA _ _ U T] at e;refine e prog w E Q ?_;have:beq (.tup x) (.tup y)=decide (x=y):=by
  have:=zG x y W V;simp only[beq]
  cases X:fG x y with
  |true=>exact(Ó (this.mp X)).symm
  |false=>exact(ç λz=>by rw[this.mpr z] at X;cases X).symm
 rw[this];exact h
def kind (prog:â) (w:Ą):HeapKind prog w (List D) where
 is:=DJ
 hash:=λX=>hs w (.tup X)
 draws:=λX=>dr (.tup X)
 room:=λA=>A.units+10<abV
 inj:=λW V=>by have:=KA.inj _ _ _ W.2.2 V.2.2;injection this
 keeps:=λ{h Q k a d o P O} x S R hs=>⟨x.1,x.2.1,KA.keep (λb u U N Y=>(hs.2 b (λe=>by
  subst e;rw[S] at U;cases U;obtain⟨_,_,Y⟩:=Y;rw[R] at Y;cases Y)).trans U) _ _ x.2.2⟩
 pyHash:=λT Z h=>Sn 7 _ (by simp only[dep];have:=Z.2.1;omega) _ _ _ _ _ Z.2.2 (by omega) h
 eqBool:=λT W V h=>UE T W V h
 quiet:=λZ h=>QA 8 _ (by simp only[dep];have:=Z.2.1;omega) Z.2.2 h
end
end TK
namespace TK
open PySem PySem.W PyProof.Rows DI L2
def DX.dU (h1 h2:Ī) (h:DX a es h1) (k:∀o,h1.get? a=some o->h2.get? a=some o):DX a es h2:=by
 obtain⟨z,o,Z,Y,X,r⟩:=h;exact⟨z,o,Z,Y,k o X,r⟩
def AllK (w:Ą) (aB:List (D×Int)):Prop:=∀p∈aB,∃Z,p.1=.tup Z/\dE Z=true/\dB Z<=6/\p.2=hs w p.1
noncomputable def its:D->List D
 | .tup Z=>Z
 |_=>[]
section
variable {X:Cx} {π:List (Ú×Obj)} {σ:L2.St} {s:Ä} {w:Wd}
mutual
theorem Wa (I:Inv X π σ w.H s):∀(d:D) (v:V) (u:Å),kd d=true->DI.DV X.K w d v->RelV v u->KA s.heap d u
 | .int i,v,u,_,h,r=>by cases h;exact r
 | .str x,v,u,_,h,r=>by cases h;exact r
 | .tup Z,v,u,k,h,r=>by
  simp only[DI.DV] at h;obtain⟨a,Y,rfl,W,U⟩:=h;cases r;obtain⟨its,T,⟨o,S,R,n,Q⟩,_⟩:=I.tuple W;simp only[kd] at k;simp only[KA];exact⟨a,o,_,n,rfl,S,R,Q,AQ I Z Y _ k U (by simpa using T)⟩
 | .ao,_,_,k,_,_=>by cases k
 | .bl _,_,_,k,_,_=>by cases k
 | .lst _,_,_,k,_,_=>by cases k
 | .bK _,_,_,k,_,_=>by cases k
 | .az _,_,_,k,_,_=>by cases k
 | .ty _,_,_,k,_,_=>by cases k
 | .bJ _,_,_,k,_,_=>by cases k
 | .exc _ _,_,_,k,_,_=>by cases k
 | .cA _ _ _,_,_,k,_,_=>by cases k
theorem AQ (I:Inv X π σ w.H s):∀(ds:List D) (vs:List V) (us:List Å),dE ds=true->DI.ak X.K w ds vs->Vals vs us->cU s.heap ds us
 | [],vs,us,_,h,r=>by cases h;cases r;rfl
 |d::ds,vs,us,k,h,r=>by
  obtain⟨v,Z,rfl,Y,W⟩:=h;simp only[dE,Æ] at k
  cases r with
  |cons r U=>exact⟨_,_,rfl,Wa I d v _ k.1 Y r,AQ I ds Z _ k.2 W U⟩
end
end
def xS (w:Ą) (aB:List (D×Int)) (k:D):List (D×Int):=if (aB.any λp=>beq p.1 k)=true then aB else aB++[(k,hs w k)]
def keyOk (w:Ą) (p:D×Int):Bool:=match p.1 with
 | .tup Z=>dE Z&&decide (dB Z<=6)&&decide (p.2=hs w p.1)
 |_=>false
def su (k:AllK w aB) (hk:dE ks=true):(aB.any λp=>beq p.1 (.tup ks))=true↔D.tup ks∈aB.map (·.1):=by
 rw[ŝ,ć];constructor
 ·rintro ⟨p,Z,Y⟩
  obtain⟨ls,e,X,_⟩:=k p Z;refine⟨p,Z,?_⟩;exact(wM p.1 (.tup ks) (by rw[e];simpa only [kd] using X) (by simpa only [kd] using hk)).mp Y
 ·rintro ⟨p,Z,e⟩
  exact⟨p,Z,by rw[e];exact(wM _ _ (by simpa only [kd] using hk) (by simpa only [kd] using hk)).mpr rfl⟩
def xT (w:Ą) (d k x:D) (s:aa):Option aa:=match d,k,x with
 | .az j,.tup Z,.bl true=>match s[j]? with
  |some (.dT Y)=>if (dE Z&&decide (dB Z<=6)&&Y.all (keyOk w)&&decide (Y.length<Ñ))=true then some (s.set j (.dT (xS w Y (.tup Z)))) else none
  |_=>none
 |_,_,_=>none
def JN (w:Ą) (f o i:DI.abZ D):DI.abZ Fl:=λenv s=>aj (f env s) λx s=>aj (o env s) λd s=>aj (i env s) λn s=>match xT w d n x s with
 |some Z=>ok (.nx env) Z
 |none=>none
def Wb:DI.abZ D:=λ_ s=>ok (.az s.length) (s++[.dT []])
section
variable {X:Cx} {Ξ:Wd->aT->Prop} {e o i:Ġ} {pos ny:Pos} {f fo fi:DI.abZ D}
end
end TK
namespace TK
open PySem PySem.W PyProof.Rows DI L2
def ph (h:Ī) (d:Ú) (es:Array DictEntry) (ep:Nat):Prop:=∃o,h.get? d=some o/\o.ExactDict/\o.data=.dict es ep
section
variable {prog:â} {w:Ą} {A:î} {E:Å->Ä->Prop} {s:Ä} {d it:Ú} {es:Array DictEntry} {ep i:Nat}
def ph.ty (r:ph s.heap d es ep):s.TypeIs (.ref d) "dict":=by obtain⟨o,Z,x,_⟩:=r;exact⟨o,Z,x.1⟩
def ph.lt (r:ph h d es ep):d<h.objs.size:=by obtain⟨o,Z,_⟩:=r;exact Ì Z
def ph.at (r:ph h d es ep) (k:∀o,h.get? d=some o->h'.get? d=some o):ph h' d es ep:=by obtain⟨o,Z,x⟩:=r;exact⟨o,k o Z,x⟩
end
def UG (ds:List D) (s:aa):Res D:=match ds with
 | [.az j]=>match s[j]? with
  |some (.dT Z)=>if Z.length<=Ñ then ok (.lst (Z.map (·.1))) s else none
  |_=>none
 |_=>none
section
variable {X:Cx} {Ξ:Wd->aT->Prop}
end
open HT
section
variable {s:Ä}
def Wc (kx:kd x=true) (ky:kd y=true) (hu:A.units+dep x<abV) (hx:KA s.heap x vx) (hy:KA s.heap y vy):SeqAt.EqAt A s vx vy (beq x y):=by
 obtain⟨as,Z⟩:=KA.reads _ _ hx;obtain⟨bs,Y⟩:=KA.reads _ _ hy;obtain⟨X,W⟩:=jQ _ (oB _ kx);obtain⟨V,U⟩:=jQ _ (oB _ ky);have:=SeqAt.eqAt_reads _ _ A s vx vy as bs Z Y X V (by rw[W];omega);rw[qA _ _ (oB _ kx) (oB _ ky)] at this;exact this
mutual
theorem We:∀(A:î) (x y:D) (b:Bool) (vx vy:Å),iE x y=some b->kd x=true->kd y=true->A.units+5*dep x+5<abV->KA s.heap x vx->KA s.heap y vy->Cm A s vx vy b
 |A,.int i,y,b,vx,vy,h,_,_,_,Z,Y=>by
  cases y with
  |int j =>
   cases h;obtain⟨t,rfl⟩:=Z;obtain⟨X,rfl⟩:=Y;exact λprog w E Q q=>Gw A s i t j X prog w E Q q
  |_=>cases h
 |A,.str i,y,b,vx,vy,h,_,_,_,Z,Y=>by
  cases y with
  |str j =>
   cases h;obtain⟨t,rfl⟩:=Z;obtain⟨X,rfl⟩:=Y;exact λprog w E Q q=>(PyProof.Rows.lt_str q:Û (ã prog w) A (Ė .Lt (.str i t) (.str j X)) Q E s)
  |_=>cases h
 |A,.tup U,y,b,vx,vy,h,W,ky,T,Z,Y=>by
  cases y with
  |tup S =>
   simp only[iE] at h;simp only[KA] at Z Y;obtain⟨a,o,its,n,rfl,R,P,O,r⟩:=Z;obtain⟨G,N,V,M,rfl,L,K,J,I⟩:=Y;simp only[dep] at T;simp only[kd] at W ky;exact λprog w E Q q=>Hw ⟨o,R,P,n,O⟩ ⟨N,L,K,M,J⟩ (λH F=>AR H U S b _ _ h W ky (by omega) r I) (by omega) q
  |_=>cases h
 |_,.ao,_,_,_,_,_,k,_,_,_,_=>by cases k
 |_,.bl _,_,_,_,_,_,k,_,_,_,_=>by cases k
 |_,.lst _,_,_,_,_,_,k,_,_,_,_=>by cases k
 |_,.bK _,_,_,_,_,_,k,_,_,_,_=>by cases k
 |_,.az _,_,_,_,_,_,k,_,_,_,_=>by cases k
 |_,.ty _,_,_,_,_,_,k,_,_,_,_=>by cases k
 |_,.bJ _,_,_,_,_,_,k,_,_,_,_=>by cases k
 |_,.exc _ _,_,_,_,_,_,k,_,_,_,_=>by cases k
 |_,.cA _ _ _,_,_,_,_,_,k,_,_,_,_=>by cases k
theorem AR:∀(A:î) (xs ys:List D) (b:Bool) (ps qs:List Å),iU xs ys=some b->dE xs=true->dE ys=true->A.units+5*dB xs+5<abV->cU s.heap xs ps->cU s.heap ys qs->iJ A s ps qs b
 |A,[],ys,b,ps,qs,h,_,_,_,V,Z=>by
  cases V
  cases ys with
  |nil=>cases h;cases Z;exact .nn
  |cons y ys=>cases h;obtain⟨v,r,rfl,_⟩:=Z;exact .nc _ _
 |A,x::xs,ys,b,ps,qs,h,Y,ky,T,V,Z=>by
  obtain⟨v,r,rfl,U,S⟩:=V
  cases ys with
  |nil=>cases h;cases Z;exact .cn _ _
  |cons y ys =>
   obtain⟨u,R,rfl,g1,g2⟩:=Z;simp only[dE,Æ] at Y ky;simp only[dB] at T;have Q:=aaV (dep x) (dB xs);have P:=Ŵ (dep x) (dB xs);have X:=Wc (A:=A) Y.1 ky.1 (by omega) U g1;simp only[iU] at h;split at h
   ·rename_i W
    rw[W] at X;exact .eq X (AR A xs ys b _ _ h Y.2 ky.2 (by omega) S g2)
   ·rename_i W
    rw[ű] at W;rw[W] at X;exact .lt X (We A x y b _ _ h Y.1 ky.1 (by omega) U g1)
end
end
section
variable {prog:â} {w:Ą} {A:î} {E:Å->Ä->Prop} {s:Ä}
def O1 (h:iJ A s xs ys b):∀(i:Nat),fin=decide (xs.length<ys.length)->Q b s->KatLex prog w A t fin Q (xs.zip ys) (i+1) s:=by
 induction h with
 |nn=>intro i Z q;rw[Z];exact q
 |nc y ys=>intro i Z q;rw[Z];exact q
 |cn x xs=>intro i Z q;rw[Z];exact q
 |eq Y _ ih =>
  intro i Z q;rw[ě];exact kat_cons (Y prog w _ _ (kat_yes (ih (i+1) (by rw[Z];simp) q)))
 |lt Y X =>
  intro i Z q;rw[ě];refine kat_cons (Y prog w _ _ (kat_no ?_));rw[show (t&&(i+1==0))=false by simp];exact kat_one _ _ (X prog w _ _ q)
def O2 (hs:x=y->iJ A s xs ys b) (hf:fin=decide (xs.length<ys.length)) (q:Q (if x=y then b else decide (x.cps.toList<y.cps.toList)) s) :
  KatLex prog w A true fin Q ((.str x t::xs).zip (.str y u::ys)) 0 s:=by
 rw[ě];refine kat_cons (wpAny_eqBool_str ?_);by_cases e:x=y
 ·rw[Þ e] at q
  rw[Ó e];exact kat_yes (O1 (hs e) 0 hf q)
 ·rw[ì e] at q
  rw[ç e];exact kat_no (oneLt_str q)
end
inductive Pg where
 |made (m d:Int) (h l:List Int)
 |bI (m d k:Int)
noncomputable def ti (l:List Int):D:=.tup (l.map D.int)
def Pg.d:Pg->D
 | .made m d h l=>.tup [.str "made",.int m,.int d,.tup [ti h,ti l]]
 | .bI m d k=>.tup [.str "mended",.int m,.int d,.int k]
def IG (h:ti a=ti b):a=b:=by
 injection h with h
 exact List.map_inj_right (λx y e=>by injection e) |>.mp h
def Pg.Wf {p q:Pg} (h:p.d=q.d):p=q:=by
 cases p<;>cases q<;>simp only[Pg.d,D.tup.injEq,ν,D.int.injEq,and_true,reduceCtorEq,and_false,false_and] at h
 ·obtain⟨_,Z,Y,X,W⟩:=h
  rw[Z,Y,IG X,IG W]
 ·obtain⟨_,Z,Y,X⟩:=h
  rw[Z,Y,X]
noncomputable def encL:List Int->List Int
 | []=>[0]
 |x::Z=>1::x::encL Z
def Pg.enc:Pg->List Int
 | .made m d h l=>0::m::d::(encL h++encL l)
 | .bI m d k=>[1,m,d,k]
theorem zH:∀{a b u v:List Int},encL a++u=encL b++v->a=b/\u=v
 | [],[],u,v,h=>by simpa [encL] using h
 | [],y::b,u,v,h=>by simp[encL] at h
 |x::a,[],u,v,h=>by simp[encL] at h
 |x::a,y::b,u,v,h=>by
  simp only[encL,Ę,ν,true_and] at h;obtain⟨Z,Y⟩:=zH h.2;exact⟨by rw[h.1,Z],Y⟩
def Pg.So {p q:Pg} (h:p.enc=q.enc):p=q:=by
 cases p<;>cases q<;>simp only[Pg.enc,ν,and_true,true_and,reduceCtorEq,false_and,Int.reduceEq] at h
 ·obtain⟨Y,X,W⟩:=h
  have Z:=zH (u:=encL _++[]) (v:=encL _++[]) (by simpa using W);have V:=zH Z.2;rw[Y,X,Z.1,V.1]
 ·rw[h.1,h.2.1,h.2.2]
def cb:ST.Ord Pg where
 lt p q:=lexLt p.enc q.enc
 yz p:=ST.Am _
 tr _ _ _ h g:=ST.Ux _ _ _ h g
 u6 _ _ h g:=Pg.So (ST.Si _ _ h g)
theorem vI:∀a b:List Int,fG (a.map D.int) (b.map D.int)=decide (a=b)
 | [],[]=>rfl
 | [],_::_=>rfl
 |_::_,[]=>rfl
 |x::a,y::b=>by
  simp only[á,fG,beq,vI a b]
  by_cases e:x=y<;>simp[e]
theorem Gg:∀a b:List Int,iU (a.map D.int) (b.map D.int)=some (lexLt a b)
 | [],[]=>rfl
 | [],_::_=>rfl
 |_::_,[]=>rfl
 |x::a,y::b=>by
  simp only[á,iU,beq,iE,jc,Gg a b]
  by_cases e:x=y<;>simp[e]
theorem An:∀a b u v:List Int,lexLt (encL a++u) (encL b++v)=if a=b then lexLt u v else lexLt a b
 | [],[],u,v=>by simp[encL,jc]
 | [],y::b,u,v=>by simp[encL,jc];rfl
 |x::a,[],u,v=>by simp[encL,jc];rfl
 |x::a,y::b,u,v=>by
  simp only[encL,Ę,jc,ô,An a b u v,ν]
  by_cases e:x=y<;>simp[e]
def JO (p q:Pg):iE p.d q.d=some (cb.lt p q):=by
 have T:¬ ((ý "made")=ý "mended"):=by decide +kernel
 have S:¬ ((ý "mended")=ý "made"):=by decide +kernel
 have R:decide ((ý "made").cps.toList<(ý "mended").cps.toList)=true:=by decide +kernel
 have Q:decide ((ý "mended").cps.toList<(ý "made").cps.toList)=false:=by decide +kernel
 show _=some (lexLt p.enc q.enc)
 cases p with
 |made m d h l =>
  cases q with
  |made Z Y V X =>
   simp only[Pg.d,Pg.enc,iE,iU,beq,fG,ti,jc,vI,Gg,An,ą,ô,Bool.and_true];have:=An l X [] [];simp only[þ] at this;rw[this]
   by_cases e1:m=Z<;>by_cases e2:d=Y<;>by_cases W:h=V<;>by_cases P:l=X<;>simp[e1,e2,W,P,ST.Am]
  |bI Z Y U=>simp only[Pg.d,Pg.enc,iE,iU,beq,jc,beq_iff_eq,T,R,ä];simp
 |bI m d k =>
  cases q with
  |made Z Y V X=>simp only[Pg.d,Pg.enc,iE,iU,beq,jc,beq_iff_eq,S,Q,ä];simp
  |bI Z Y U =>
   simp only[Pg.d,Pg.enc,iE,iU,beq,jc,ą,ô]
   by_cases e1:m=Z<;>by_cases e2:d=Y<;>by_cases W:k=U<;>simp[e1,e2,W,ST.Am]
def Sq (l:List Int):dE (l.map D.int)=true:=by
 induction l with
 |nil=>rfl
 |cons x l ih=>simpa only [á,dE,kd,ă] using ih
def QC (l:List Int):dB (l.map D.int)=0:=by
 induction l with
 |nil=>rfl
 |cons x l ih=>simp only[á,dB,dep,ih];rfl
def oU (p:Pg):kd p.d=true:=by
 have Z:abk "made"=true:=by decide +kernel
 have Y:abk "mended"=true:=by decide +kernel
 cases p<;>simp only[Pg.d,kd,dE,ti,Sq,Z,Y,Ĭ]
def wN (p:Pg):dep p.d<=3:=by
 cases p<;>simp only[Pg.d,dep,dB,ti,QC]<;>decide
def GQ (p:Pg):∃(x:Str) (r:List D),p.d=.tup (.str x::r):=by
 cases p<;>exact⟨_,_,rfl⟩
def Bn {h:Ī} {p:Pg} {v:Å} (q:KA h p.d v):∃(x:Str) (r:List D) (a:Ú) (o:Obj) (its:Array Å) (n:Nat) (t:Tok) (us:List Å),p.d=.tup (.str x::r)/\v=.ref a/\h.get? a=some o/\o.cls=.type "tuple"/\o.data=.seq its n/\its.toList=.str x t::us/\cU h r us/\dE r=true:=by
 obtain⟨x,r,e⟩:=GQ p;have k:=oU p;rw[e] at q k;simp only[KA] at q;obtain⟨a,o,its,n,e1,Z,Y,X,u,us,e2,⟨t,W⟩,V⟩:=q;simp only[kd,dE,Æ] at k;exact⟨x,r,a,o,its,n,t,us,e,e1,Z,Y,X,by rw[e2,W],V,k.2⟩
section
variable {prog:â} {w:Ą} {A:î} {E:Å->Ä->Prop} {s:Ä}
def O3:∀{ps:List Pg} {us:List Å},cU s.heap (ps.map Pg.d) us->∃fs,KatTups s.heap us fs/\(∀v∈fs,∃x t,v=Value.str x t)/\fs.length=us.length:=by
 intro ps
 induction ps with
 |nil=>intro us h;cases h;exact⟨[],KatTups.nil,λv (hv:v∈[])=>(ï hv).elim,rfl⟩
 |cons p ps ih =>
  intro us h;obtain⟨v,r,rfl,Z,Y⟩:=h;obtain⟨fs,X,W,V⟩:=ih Y;obtain⟨x,_,a,o,its,n,t,R,_,rfl,U,T,S,hi,_⟩:=Bn Z;refine⟨.str x t::fs,.cons U T S (by rw[<- Ĥ,hi];rfl) X,λv hv=>?_,by simp[V]⟩
  rcases Ô.mp hv with rfl|hv
  ·exact⟨x,t,rfl⟩
  ·exact W v hv
def kas_get:∀{ds:List D} {us:List Å},cU h ds us->∀i,i<us.length->KA h (ds.getD i .ao) (us.getD i Value.none):=by
 intro ds
 induction ds with
 |nil=>intro us h i hi;cases h;cases hi
 |cons d ds ih =>
  intro us h i hi;obtain⟨v,r,rfl,Z,Y⟩:=h
  cases i with
  |zero=>exact Z
  |succ i=>exact ih Y i (by simpa using hi)
def Sr:∀{ds:List D} {us:List Å},cU h ds us->ds.length=us.length:=by
 intro ds
 induction ds with
 |nil=>intro us h;cases h;rfl
 |cons d ds ih=>intro us h;obtain⟨v,r,rfl,Y,Z⟩:=h;simp[ih Z]
def UH (hu:A.units+100<abV) (h1:KA s.heap p.d v) (h2:KA s.heap q.d u) (hC:C (cb.lt p q) s):Û (ã prog w) A (keyLt' (tuples' true) v u) C E s:=by
 obtain⟨x,r,a,o,its,n,t,N,e,rfl,W,M,V,hi,U,k⟩:=Bn h1;obtain⟨Z,T,L,K,Y,J,I,H,S,rfl,R,G,Q,X,P,O⟩:=Bn h2;have dl:=wN p;rw[e] at dl;simp only[dep,dB] at dl;have lt:=JO p q;rw[e,S] at lt;simp only[iE,iU] at lt;have be:beq (.str x) (.str Z)=true↔x=Z:=by simp[beq]
 refine kat_lt W V R Q ?_;rw[hi,X];refine O2 (b:=cb.lt p q) (λex=>?_) ?_ ?_
 ·rw[Þ (be.mpr ex)] at lt
  exact AR A r T _ _ _ lt k O (by have:=Ŵ (0:Nat) (dB r);omega) U P
 ·simp[<- ò,hi,X]
 ·by_cases ex:x=Z
  ·rw[Þ ex];exact hC
  ·rw[ì λz=>ex (be.mp z)] at lt
   rw[ì ex,ab4 lt];exact hC
def QD {us:List Å} {ps:List Pg} (t:cU s.heap (ps.map Pg.d) us) (h2:2<=us.length) (hu:A.units+100<abV) (d:Pg):ST.xP prog w A cb (λi=>ps.getD i d) us s:=by
 obtain⟨fs,Z,Y,S⟩:=O3 t;have X:=Sr t;rw[É] at X;have at_:∀i,i<us.length->KA s.heap (ps.getD i d).d (us.getD i Value.none):=λi hi=>by
  have:=kas_get t i hi;rwa [show (ps.map Pg.d).getD i .ao=(ps.getD i d).d by simp[Ū,í,Ð (show i<ps.length by omega)]] at this
 unfold ST.xP;refine kat_kind (T:=.type "str") Z (by omega) (λv W=>?_) (by decide) ⟨rfl,λi j C hi V U=>?_⟩
 ·obtain⟨x,R,rfl⟩:=Y v W
  exact .of_pure rfl
 ·exact UH hu (at_ i hi) (at_ j V) U
end
end TK
namespace TK
open PySem PySem.W PyProof.Rows DI L2
open Classical in
def tH (xs:List D):Option D:=if h:∃Z:List Pg,xs=Z.map Pg.d then some (.lst ((ST.dR cb (Classical.choose h)).map Pg.d)) else none
def N6:∀{a b:List Pg},a.map Pg.d=b.map Pg.d->a=b:=λh=>List.map_inj_right (λ_ _ e=>Pg.Wf e) |>.mp h
def zI (ps:List Pg):tH (ps.map Pg.d)=some (.lst ((ST.dR cb ps).map Pg.d)):=by
 unfold tH;have h:∃Z:List Pg,ps.map Pg.d=Z.map Pg.d:=⟨ps,rfl⟩;rw[dif_pos h];have:=N6 (Classical.choose_spec h);rw[<- this]
def mU (ds:List D) (s:aa):Res D:=match ds with
 | [d]=>match res d s with
  | .lst Z=>if Z.length<64 then bM (tH Z) s else none
  |_=>none
 |_=>none
section
variable {X:Cx} {Ξ:Wd->aT->Prop}
def Ss (ps:List Pg):dE (ps.map Pg.d)=true:=by
 induction ps with
 |nil=>rfl
 |cons p ps ih=>simp only[á,dE,oU,ih,Ĭ]
def HD (hr:bP k X.A):bY X (.builtin "sorted") (rC X.K Ξ mU):=by
 rintro n s σ H N m Q I r ⟨w,l,rfl,S,Y,h⟩;unfold mU at h;split at h
 ·obtain⟨v,rfl,G⟩:=kE Y
  split at h
  ·rename_i F e1
   obtain⟨a,N,rfl,E,Y⟩:=fU S G e1;split at h
   ·rename_i j
    obtain⟨g,e2,h⟩:=fc h;obtain⟨u,rfl,D⟩:=vals1 r;cases D;obtain⟨its,W,C,B⟩:=I.list (aZ.of E);have R:its.length=F.length:=W.length.symm.trans Y.length.symm;have V:=e2;unfold tH at V;split at V
    ·rename_i Z
     obtain⟨U,z⟩:=Z;clear V;subst z;rw[zI] at e2;cases e2;have M:U.length=its.length:=by rw[R,É]
     refine ST.OY (O:=cb) (x:=λi=>U.getD i (.bI 0 0 0)) C.isList (by omega) (λy f P=>QD (cU.keep (λb o T _ _=>P b o T) _ _ (AQ I _ _ _ (Ss U) Y W)) y (by have:=hr.un;show X.A.units+1+1+100<abV;have:abV=9900:=rfl;omega) _) λq c b e Z L P T t=>?_;have J:∀i∈q.toList,i<(U.map Pg.d).length:=λi hi=>by rw[<- R];exact ú.mp (Z.2.mem_iff.mp hi)
     rw[<- M] at Z L;have p:=I.aC.fresh T;refine⟨.ref b,_,I.laid (o:=.lst (q.toList.map λi=>N.getD i .ao)) (t':=s.toks) P T ⟨?_,_,e,O0 W (by rw[R];exact J),t⟩,rfl,?_⟩
     ·rw[É,ò,Z.1,M,W.length.symm];exact B
     ·refine xK S ?_ h b p
      rw[<- Qy Z L];exact Qx Y J
    ·cases V
   ·exact h.elim
  ·exact h.elim
 ·exact h.elim
end
section
variable {prog:â} {w:Ą} {A:î} {E:Å->Ä->Prop} {s:Ä}
end
section
variable {X:Cx} {Ξ:Wd->aT->Prop} {e:Ġ} {te:TE} {pos p2 p4:Pos} {f:DI.abZ D}
end
def Bo (f:DI.abZ D):DI.abZ D:=λenv s=>aj (f env s) λx s=>aj (truth x s) λb s=>ok (.bl (!b)) s
def UI (ha:PE X a (tE X.K Ξ f)):PE X (.UnaryOp .Not a pos) (tE X.K Ξ (Bo f)):=by
 rintro Y s σ H Q I ⟨w,env,rfl,S,U,h⟩;refine UnaryOp_ (aH (ha Y s σ w.H (λv W=>∃b,oY X.K v W b/\Q (.bl (!b)) W) I ⟨w,env,rfl,S,U,(Out.aj h).mono λE x D V T v R=>?_⟩) λv P ⟨x,O,N,M,b,L,J⟩=>?_)
 ·obtain⟨b,t,G⟩:=oY.of V R (Out.aj T)
  exact⟨b,t,au V G _ rfl⟩
 ·refine not_of (Ĕ (AB Y P σ O x v (λc Z=>Q (.bl (!c)) Z) N M ⟨b,L,J⟩) (λc C ⟨Z,F,q⟩=>⟨.bl (!c),Z,F,rfl,q⟩) λ_ _ z=>z)
end TK
namespace ST
open PySem PySem.Spec PyProof.Rows
section
variable {prog:â} {w:Ą} {A:î} {E:Å->Ä->Prop} {s:Ä}
end
end ST
namespace DI
open PySem L2
section
variable {X:Cx} {Ξ:Wd->aT->Prop}
end
section
variable {X:Cx} {Ξ:Wd->aT->Prop} {e o i:Ġ} {pos ny:Pos} {f fo fi:abZ D}
end
end DI
namespace L2
open PySem PySem.Spec PyProof.Rows
section
variable {X:Cx}
end
end L2
namespace DI
open PySem L2
section
variable {X:Cx} {Ξ:Wd->aT->Prop}
end
end DI
namespace L2
open PySem PySem.Spec PyProof.Rows
section
variable {X:Cx}
end
end L2
namespace DI
open PySem L2
section
variable {X:Cx} {Ξ:Wd->aT->Prop} {a:Ġ} {pos:Pos} {f:abZ D}
end
end DI
namespace L2
open PySem PySem.Spec PyProof.Rows
section
variable {X:Cx}
end
end L2
namespace DI
open PySem L2
section
variable {X:Cx} {Ξ:Wd->aT->Prop} {pos:Pos}
def KD {K:Ē} {w:Wd} {ds:List D} {vs:List V} {Q:VK} (S:aI K w) (ai:ak K w ds vs) (h:Out K Ξ w (ok (D.az w.aw.length) (w.aw++[.lst ds])) λw' d=>∀v,DV K w' d v->Q v w'.H):∀p,w.H p=none->Q (.ref p) (upd w.H p (.lst vs)):=λp Z=>by
 have le:=(Fw.cell (K:=K) (o:=.lst vs) (c:=.lst ds) S Z).le;refine h (w.cell p (.lst vs) (.lst ds)) le (S.Jp Z ⟨_,cu,le.all ai⟩) rfl (.ref p) ⟨p,?_,rfl⟩;show (w.ρ++[p])[w.aw.length]?=some p;rw[<- S.len];simp
end
end DI
namespace L2
open PySem PySem.Spec PyProof.Rows
end L2
namespace DI
open PySem L2
section
variable {X:Cx} {Ξ:Wd->aT->Prop}
end
end DI
namespace L2
open PySem PySem.Spec PyProof.Rows
open AutoSeq1 (wpAny_loadPart')
section
variable {prog:â} {w:Ą} {A:î} {E:Å->Ä->Prop} {s:Ä}
def Mz {a b c:Int} {n:Nat} {Q:List Å->Ä->Prop} (hh:A.handled=none) (hr:IsRange s.heap r a b c t u v) (AS:Builtin.Range.small a b c=true)
 (hn:aaI a b c=n) (hlen:n<=2 ^ 24)
 (hQ:∀(h':Ī) (tk:Nat) (acc:Array Å),(∀b o,s.heap.get? b=some o->h'.get? b=some o)->ItemsOf (λi v=>∃t,v=.int (a+i*c) t) acc n->Q acc.toList { s with heap:=h',toks:=tk }) :
  Û (ã prog w) A (collect (.ref r)) Q E s:=by
 unfold collect;refine À (wpAny_runValue (ĸ PySem.F.entry_proto_collect ?_));rw[ħ PySem.F.plain_proto_collect _];show Û _ A.in1 (newList [] >>= λl=>again (.builtin "list.__iadd__" ⟨[l,.ref r],[]⟩)) _ _ s;refine À (ù ?_);refine Ã ⟨aaQ PySem.F.plain_list_iadd _,ĸ PySem.F.entry_list_iadd ?_⟩;rw[ħ PySem.F.plain_list_iadd _];show Û _ A.in1 (μ (.ref s.heap.objs.size) (.ref r) (.ref s.heap.objs.size)) _ _ _;have V:(s.heap.push { cls:=.type "list",data:=.seq ([]:List Å).toArray }).get? s.heap.objs.size=some { cls:=.type "list",data:=.seq #[] 0 }:=Í _ rfl
 have X:∀(Z:Ä),(∃acc Y,Z.heap.get? s.heap.objs.size=some { cls:=.type "list",dict:=none,data:=.seq acc Y,slots:=#[] }/\Q acc.toList Z)->Û (ã prog w) A (match aab s.heap.objs.size with
   |aab a=>do
    match (<- load a).data with
     |Data.seq U _=>pure U.toList
     |_=>unsupported "internal:collect"
   |_=>unsupported "internal:collect") Q E Z:=λZ ⟨acc,Y,T,S⟩=>by
  show Û _ A (load s.heap.objs.size >>= _) _ _ _;exact À (wpAny_load T (Ã S))
 refine Ĕ (wpAny_extend_range (A:=A) (R:=λr Z=>r=.ok (.ret (.ref s.heap.objs.size))/\∃acc Y,Z.heap.get? s.heap.objs.size=some { cls:=.type "list",dict:=none,data:=.seq acc Y,slots:=#[] }/\Q acc.toList Z) (s:={ s with heap:=s.heap.push { cls:=.type "list",data:=.seq ([]:List Å).toArray } }) hh (Á _ hr) AS hn hlen _ _ 0 V λh' tk W Y P O N=>⟨rfl,W,Y,O,hQ h' tk W (λb o e=>P b o (ß (Ì e)) (Á _ e)) N⟩) (λfin Z h=>?_) (λe Z h=>?_)
 ·cases fin with
  |done f =>
   obtain⟨e,h⟩:=h;cases e;exact X _ h
  |again Y=>exact⟨h.1,Ŏ h.2 λr M hr=>by obtain⟨rfl,hr⟩:=hr;exact X _ hr⟩
 ·exact absurd h.1 (by simp)
def Mc {a b c:Int} {n:Nat} {Q:Å->Ä->Prop} (hh:A.handled=none) (hr:IsRange s.heap r a b c t u v) (AS:Builtin.Range.small a b c=true)
 (hn:aaI a b c=n) (hlen:n<=2 ^ 24)
 (hQ:∀(h':Ī) (tk:Nat) (acc:Array Å),(∀b o,s.heap.get? b=some o->h'.get? b=some o)->ItemsOf (λi v=>∃t,v=.int (a+i*c) t) acc n->Q (.ref h'.objs.size) { s with heap:=h'.push { cls:=.type "tuple",data:=.seq acc },toks:=tk }) :
  Û (ã prog w) A (call (.type "tuple") [.ref r]) Q E s:=by
 have Y:n<=Ñ:=by rw[ŕ];omega
 refine callType_codes (Q₁:=λobj Z=>Z.TypeIs obj "tuple"/\Q obj Z) abr (PySem.F.typeCall_tuple_1 _) PySem.F.entry_object_init ?_ λobj Z X=>?_
 ·refine abC ?_
  show Û _ A.in1.in1 (do abp "tuple.__new__" ⟨[.type "tuple",.ref r],[]⟩;again (.builtin "tuple.__new__" ⟨[.type "tuple",.ref r],[]⟩)) _ _ s
  refine À (wpAny_of_eq (PySem.F.newCall_tuple_1 _) (Ã ⟨aaQ PySem.F.plain_tuple_new _,ĸ PySem.F.entry_tuple_new ?_⟩));rw[ħ PySem.F.plain_tuple_new _];have R:=sub_tuple_self;have V:=init_tuple_lookup;have U:=madeHere_tuple;have T:s.TypeIs (.ref r) "range":=⟨_,hr,rfl⟩
  wp_walk using aaE T,Mz (A:=A.in1.in1) hh hr AS hn hlen
  intro h' tk acc S W;show Û _ _ (ģ acc.toList.toArray >>= λv=>ret v) _ _ _;unfold ģ;refine À (ù ?_ (by show acc.toList.toArray.size<=Ñ;simp only[Array.toArray_toList];rw[W.1];exact Y));refine Ã ?_;have e:acc.toList.toArray=acc:=by simp
  rw[e];exact⟨⟨_,Í _ rfl,rfl⟩,hQ h' tk acc S W⟩
 ·exact⟨X.1,PySem.F.args_object_init_2 obj _,object_init_meets abr.init.lookup abr.made (by decide) prog w A.in1 _ Z ⟨X.1,rfl,X.2⟩⟩
end
section
variable {X:Cx}
def O4 (hc:X.calm=true):bY X (.type "tuple") (λxs H Q=>∃(p:Ú) (n:Nat),xs=[.ref p]/\H p=some (.cj 0 n)/\n<=1000000/\∀q,H q=none->Q (.ref q) (upd H q (.tup ((Ā n).map λi:Nat=>V.int (0+(i:Int)))))):=by
 intro T s σ H xs J Q I r h;obtain⟨p,n,rfl,P,O,q⟩:=h;obtain⟨u,rfl,N⟩:=vals1 r;cases N;obtain⟨t1,G,t3,M⟩:=I.aC p _ P;refine Mc (I.ok.hd hc) M (small_one (by omega) (by omega) (by omega) (by omega)) (n:=n) ?_ (by omega) λY W Z L hit=>?_
 ·rw[rangeSize_one]
  split<;>omega
 ·obtain⟨U,hit⟩:=hit
  have S:=FC Z.toList 0 λi v e=>by
   obtain⟨t,e⟩:=hit i v (by simpa using e);exact⟨t,by rw[e,Nat.zero_add]⟩
  rw[ò,U,<- List.range_eq_range'] at S
  have R:Inv X T σ H { s with heap:=Y,toks:=W }:=I.kept (t':=W) L
  have K:Inv X T σ (upd H Y.objs.size (.tup ((Ā n).map λi:Nat=>V.int (0+(i:Int))))) { s with heap:=Y.push { cls:=.type "tuple",data:=.seq Z },toks:=W } :=
   R.laid (t':=W) (λb o e=>Á _ e) (ab3 _) (show di X.prog X.w _ _ _ (.tup _) from ⟨?_,Z.toList,S,by simpa using IsTup.new Y Z⟩)
  ·exact⟨.ref Y.objs.size,_,K,rfl,q _ (R.aC.fresh (ab3 _))⟩
  ·rw[É,List.length_range]
   exact à O (by decide)
end
end L2
namespace DI
open PySem L2
section
variable {X:Cx} {Ξ:Wd->aT->Prop} {a:Ġ} {p pos:Pos} {fa:abZ (List D)}
def Bp (ds:List D) (s:aa):Res D:=match ds with
 | [.int j]=>if (decide (0<=j)&&decide (j<=1000000))=true then ok (.tup (cj 0 j.toNat)) s else none
 |_=>none
def UJ {p2 md:Pos} (ha:PA X [a] (tA X.K Ξ fa)) (hc:X.calm=true) (hg:Gl X "tuple") (hm:X.mg "tuple"=none) (Dg:Gl X "range") (Dh:X.mg "range"=none)
  (he:Ë [a] X.env=(false,ļ a X.env)::Ë [] X.env:=by rfl) (bw:(Ħ md (Ë [] X.env)).any (·.1)=false:=by rfl)
  (uY:Ë [.Call (.Name "range" p2) [a] [] md] X.env=(false,ļ (.Call (.Name "range" p2) [a] [] md) X.env)::Ë [] X.env:=by rfl) (Cg:(Ħ pos (Ë [] X.env)).any (·.1)=false:=by rfl) :
  PE X (.Call (.Name "tuple" p) [.Call (.Name "range" p2) [a] [] md] [] pos) (tE X.K Ξ (eB Bp fa)) :=
 cg (vH (O4 hc) hg hm (by decide +kernel) (gy (vH Nn Dg Dh (by decide +kernel) ha (by decide) (by decide) he bw) iI uY) (by decide) (by decide) uY Cg) fun σ H Q R=>by
  obtain⟨w,env,P,S,O,h⟩:=R;subst P;refine⟨w,env,rfl,S,O,(Out.aj h).mono λY G F N Z E M=>?_⟩;unfold Bp at Z;split at Z
  ·rename_i j
   split at Z
   ·rename_i W
    simp only[Æ,Ê] at W;obtain⟨v,r,rfl,L,dr⟩:=M;have e1:v=.int j:=L;have e2:r=[]:=dr;subst e1 e2;refine⟨j,rfl,λq U=>⟨q,j.toNat,rfl,by rw[cu,Int.toNat_of_nonneg W.1],by omega,λl J=>?_⟩⟩;have T:(Y.grow q (.cj 0 j)).H l=none:=J;have I:=N.grow (o:=.cj 0 j) U;exact Z ((Y.grow q (.cj 0 j)).grow l (.tup ((Ā j.toNat).map λi:Nat=>V.int (0+(i:Int))))) ((Fw.grow U).le.trans (Fw.grow T).le) (I.grow T) rfl (.ref l) ⟨l,_,rfl,bp.of cu,Sm _⟩
   ·exact Z.elim
  ·exact Z.elim
end
end DI
namespace L2
open PySem PySem.Spec PyProof.Rows
section
variable {X:Cx} {pos:Pos}
def Wg (i j k:Nat) (ta:TA):TS:=λD σ H=>ta σ H λZ Y=>∃v w u,Z=[v,w,u]/\D.nx (((σ.set i (some v)).set j (some w)).set k (some u)) Y
def vals3 (r:Vals [v,w,u] us):∃a b c,us=[a,b,c]/\RelV v a/\RelV w b/\RelV u c:=by
 cases r with
 |cons p q =>
  obtain⟨b,c,rfl,Z,Y⟩:=vals2 q;exact⟨_,b,c,rfl,p,Z,Y⟩
def Su {kt k2 gZ} (hc:X.calm=true) (hN:X.N.Nodup) (hi:X.N[i]?=some x) (hj:X.N[j]?=some y) (hk:X.N[k]?=some z) (eI:i≠j) (pK:i≠k) (DK:j≠k)
 (hx:X.env.scope.names.lookup x=some .local) (hy:X.env.scope.names.lookup y=some .local) (hz:X.env.scope.names.lookup z=some .local) (ha:PA X [a,b,c] ta)
 (hw:υ [.Tuple [.Name x px,.Name y py,.Name z pz] kt pt] (.Tuple [a,b,c] k2 gZ) X.env=pure (some [x,y,z]))
 (hs:ς [.Tuple [.Name x px,.Name y py,.Name z pz] kt pt] (.Tuple [a,b,c] k2 gZ) pos.line X.env=pure false) :
  PS X (.Assign [.Tuple [.Name x px,.Name y py,.Name z pz] kt pt] (.Tuple [a,b,c] k2 gZ) pos) (Wg i j k ta):=by
 intro U s σ H D I h;rw[exec_Assign_arm];refine À (Š ?_);rw[hs];refine À (Ã ?_);rw[ì (by decide)];refine À (Tuple_ (aH (ha _ U s σ H _ I h) λB Z R=>?_));obtain⟨t,T,Q,P,v,w,u,e1,O⟩:=R;subst e1;obtain⟨Y,W,V,rfl,M,L,K⟩:=vals3 P;refine ù ?_ (by show 3<=Ñ;decide)
 have J:Inv X U σ T { Z with heap:=Z.heap.push { cls:=.type "tuple",data:=.seq [Y,W,V].toArray } }:=Q.kept (t':=Z.toks) λb o e=>Á _ e
 rw[hw];refine À (Ã ?_)
 show Û (ã X.prog X.w) X.A (do rule "assign.swapped-stores";let items <- unpackItems (.ref Z.heap.objs.size) 3 none;aaH [λv=>abc X.env z v,λv=>abc X.env y v,λv=>abc X.env x v] items.reverse;pure Flow.next) _ _ _
 refine À (ś (À (unpackItems_tuple (items:=#[Y,W,V]) (I.ok.hd hc) (IsTup.new Z.heap _) λh' G=>?_)));have F:=J.kept (h':=h') (t':=Z.toks) λb o e=>G b o (ß (Ì e)) e
 show Û _ _ (aaH [λv=>abc X.env z v,λv=>abc X.env y v,λv=>abc X.env x v] [V,W,Y] >>= λ_=>pure Flow.next) _ _ _
 refine À (ş (abd (lO F hN hk (.inl hz) K (λr E=>?_) (.inr hz))));refine ş (abd (lO E hN hj (.inl hy) L (λq C=>?_) (.inr hy)));refine ş (abd (lO C hN hi (.inl hx) M (λp S=>assignInOrder_nil (Ã ?_)) (.inr hx)));rw[List.set_comm _ _ (Ź DK),List.set_comm _ _ (Ź pK),List.set_comm _ _ (Ź eI)] at S;exact⟨_,T,S,O⟩
end
end L2
namespace DI
open PySem L2
section
variable {X:Cx} {Ξ:Wd->aT->Prop} {a b c:Ġ} {pos:Pos} {fa:abZ (List D)}
def xU (i j k:Nat) (fa:abZ (List D)):abZ Fl:=λenv s=>aj (fa env s) λZ s=>match Z with
 | [x,y,z]=>ok (.nx (((env.set i (some x)).set j (some y)).set k (some z))) s
 |_=>none
def UK (i j k:Nat) {x y z:Str} {px py pz pt:Pos} {kt k2 gZ} (hc:X.calm=true) (hN:X.N.Nodup) (ha:PA X [a,b,c] (tA X.K Ξ fa)) (hi:X.N[i]?=some x:=by rfl) (hj:X.N[j]?=some y:=by rfl) (hk:X.N[k]?=some z:=by rfl) (eI:i≠j:=by decide) (pK:i≠k:=by decide) (DK:j≠k:=by decide)
  (hx:X.env.scope.names.lookup x=some .local:=by rfl) (hy:X.env.scope.names.lookup y=some .local:=by rfl) (hz:X.env.scope.names.lookup z=some .local:=by rfl)
  (hw:υ [.Tuple [.Name x px,.Name y py,.Name z pz] kt pt] (.Tuple [a,b,c] k2 gZ) X.env=pure (some [x,y,z]):=by rfl)
  (hs:ς [.Tuple [.Name x px,.Name y py,.Name z pz] kt pt] (.Tuple [a,b,c] k2 gZ) pos.line X.env=pure false:=by rfl) :
  PS X (.Assign [.Tuple [.Name x px,.Name y py,.Name z pz] kt pt] (.Tuple [a,b,c] k2 gZ) pos) (tS X.K Ξ (xU i j k fa)):=jP (Su hc hN hi hj hk eI pK DK hx hy hz ha hw hs) λM σ H W=>by
 obtain⟨w,env,V,S,Y,h⟩:=W;subst V;refine⟨w,env,rfl,S,Y,(Out.aj h).mono λL J U T Z I R=>?_⟩;split at Z
 ·obtain⟨v,r,rfl,Q,dr⟩:=R
  obtain⟨u,t,rfl,P,O⟩:=oz dr;exact⟨v,u,t,rfl,au T Z _ ((((Y.le U).set Q i).set P j).set O k)⟩
 ·exact Z.elim
end
def QE:List D->aa->Res D:=aM 2 6 (ax (xU 2 3 4 (af (e2 aY (aD cH (af (ae 0) (af (eC (.int 3)) ah))) (eC (.int 0))) (af (eNew ah) (af (e2 bO (eC (.int 2)) (aD cH (af (ae 0) (af (eC (.int 9)) ah)))) ah)))) (ax (fQ (dM (af (eC (.int 31)) ah)) (gN 5) (ax (aU (dA (nL (ae 2) (e2 aY (aD cH (af (ae 0) (af (ae 4) ah))) (eC (.int 0)))) (e2 ig (ae 5) (ae 1))) (gN 2)) (bB (cN (ae 2)) (kN (nv (ae 3) (ae 5))) bQ))) (aG (B7 (ae 3)))))
def qq (W:Ą):List D->aa->Res D:=aM 1 12 (ax (aU (cD (af TK.Wb (af (e2 bO (eC (.int 1)) (aD cH (af (ae 0) (af (eC (.int 3)) ah)))) (af (e2 bO (eC (.int 1)) (aD cH (af (ae 0) (af (eC (.int 3)) ah)))) ah)))) (gT [(gN 1),(gN 2),(gN 3)])) (ax (fQ (dM (af (ae 2) ah)) (gN 4) (ax (aU (cD (af (cB 1 [] (dM (af (eC (.int 8)) ah)) (gN 0) dh (eNew ah)) (af (eNew ah) ah))) (gT [(gN 5),(gN 6)])) (ax (fQ (dM (af (aD cH (af (ae 0) (af (eC (.int 4)) ah))) ah)) (gN 7) (ax (aU (cD (af (aD cH (af (ae 0) (af (eC (.int 8)) ah))) (af (aD cH (af (ae 0) (af (eC (.int 31)) ah))) ah))) (gT [(gN 8),(gN 9)])) (ax (kN (nv (e2 ar (ae 5) (ae 8)) (ae 9))) (TK.JN W (eC (.bl true)) (ae 1) (cD (af (eC (.str "mended")) (af (ae 4) (af (ae 9) (af (ae 8) ah))))))))) (ax (fQ (dM (af (eC (.int 8)) ah)) (gN 8) (kN (nv (ae 6) (aD QE (af (ae 0) (af (e2 ar (ae 5) (ae 8)) ah)))))) (fQ (dM (af (aD cH (af (ae 0) (af (eC (.int 5)) ah))) ah)) (gN 7) (ax (aU (aD cH (af (ae 0) (af (eC (.int 31)) ah))) (gN 9)) (ax (aU (cB 1 [0,3] (dM (af (eC (.int 8)) ah)) (gN 0) (bg (e2 aY (aD cH (af (ae 1) (af (ae 2) ah))) (eC (.int 0)))) (ae 0)) (gN 10)) (ax (aU (eB ij (af (cB 1 [9,6] (cO (ae 10)) (gN 0) (bg (e2 fm (ae 1) (e2 ar (ae 2) (ae 0)))) (ae 0)) ah)) (gN 11)) (TK.JN W (eC (.bl true)) (ae 1) (cD (af (eC (.str "made")) (af (ae 4) (af (ae 9) (af (cD (af (ae 11) (af (eB ij (af (cB 1 [9,6] (cO (ae 10)) (gN 0) (bg (e2 ig (ae 1) (e2 ar (ae 2) (ae 0)))) (ae 0)) ah)) ah))) ah)))))))))))))) (aG (eB ij (af (eB TK.mU (af (eB TK.UG (af (ae 1) ah)) ah)) ah)))))
def vt:List D->aa->Res D:=aM 2 2 (aG (t5 (eB qU (af (cB 1 [1] (cO (ae 0)) (gN 0) dh (e2 fm (ae 0) (ae 1))) ah))))
def vB:List D->aa->Res D:=aM 1 3 (ax (bB (gY (eG (cN (eB cm (af (ae 0) (af (eC (.ty "tuple")) ah))))) (bg (e2 dW (eB cy (af (ae 0) ah)) (eC (.int 2))))) (aG (eC (.bl false))) bQ) (ax (aU (ae 0) (gT [(gN 1),(gN 2)])) (aG (dA (aD rW (af (ae 1) ah)) (dA (aD rW (af (ae 2) ah)) (aD vt (af (ae 1) (af (ae 2) ah))))))))
def vC:List D->aa->Res D:=aM 1 1 (aG (aD p9 (af (ae 0) (af (eC (.int (4))) ah))))
def vV:List D->aa->Res D:=aM 1 1 (aG (aD p9 (af (ae 0) (af (eC (.int (31))) ah))))
def vJ:List D->aa->Res D:=aM 1 5 (ax (bB (gY (eG (cN (eB cm (af (ae 0) (af (eC (.ty "tuple")) ah))))) (bg (e2 dW (eB cy (af (ae 0) ah)) (eC (.int 4))))) (aG (eC (.bl false))) bQ) (ax (aU (ae 0) (gT [(gN 1),(gN 2),(gN 3),(gN 4)])) (ax (bB (gY (eG (cN (aD vC (af (ae 2) ah)))) (eG (cN (aD vV (af (ae 3) ah))))) (aG (eC (.bl false))) bQ) (ax (bB (bg (e2 aY (ae 1) (eC (.str "made")))) (aG (aD vB (af (ae 4) ah))) bQ) (aG (dA (e2 aY (ae 1) (eC (.str "mended"))) (aD rZ (af (ae 4) ah))))))))
def vD:List D->aa->Res D:=aM 1 1 (aG (dA (eB cm (af (ae 0) (af (eC (.ty "tuple")) ah))) (dA (e2 pb (eB cy (af (ae 0) ah)) (eC (.int (24)))) (dA (eB l9 (af (cB 1 [] (cO (ae 0)) (gN 0) dh (aD vJ (af (ae 0) ah))) ah)) (aD n5 (af (ae 0) ah))))))
def mK:List D->aa->Res D:=aM 4 4 (aG (cB 1 [1,2,3] (cO (ae 0)) (gN 0) (gb (bg (e2 aY (e2 ar (ae 0) (eC (.int 0))) (eC (.str "made")))) (gb (bg (e2 aY (e2 ar (ae 0) (eC (.int 1))) (ae 1))) (bg (e2 fm (ae 2) (e2 ar (e2 ar (ae 0) (eC (.int 3))) (ae 3)))))) (e2 ar (ae 0) (eC (.int 2)))))
def vm:List D->aa->Res D:=aM 3 3 (aG (cB 1 [1,2] (cO (ae 0)) (gN 0) (gb (bg (e2 aY (e2 ar (ae 0) (eC (.int 0))) (eC (.str "mended")))) (gb (bg (e2 aY (e2 ar (ae 0) (eC (.int 1))) (ae 1))) (bg (e2 aY (e2 ar (ae 0) (eC (.int 3))) (ae 2))))) (e2 ar (ae 0) (eC (.int 2)))))
def vf:List D->aa->Res D:=aM 3 3 (aG (eB qU (af (cB 1 [1,2] (cO (ae 0)) (gN 0) dh (rB kY pb (ae 1) (ae 0) (ae 2))) ah)))
def sd:List D->aa->Res D:=aM 3 5 (ax (aU (aD mK (af (ae 0) (af (ae 1) (af (ae 2) (af (eC (.int (1))) ah))))) (gN 3)) (ax (aU (aD vm (af (ae 0) (af (ae 1) (af (ae 2) ah)))) (gN 4)) (aG (Iy 2 [3,4] (cO (e1 qe (aD mK (af (ae 0) (af (ae 1) (af (ae 2) (af (eC (.int (0))) ah))))))) (gN 0) dh (yr (af (ae 0) (af (eC (.int (31))) ah))) (gN 1) (gb (gY (bg (e2 fm (ae 1) (ae 2))) (gb (bg (e2 aY (ae 1) (ae 0))) (bg (e2 fm (ae 0) (ae 3))))) (eG (cN (aD vf (af (ae 3) (af (ae 0) (af (ae 1) ah))))))) (cD (af (ae 0) (af (ae 1) ah)))))))
def vv:List D->aa->Res D:=aM 1 1 (aG (Iz 4 [0] (dM (af (eC (.int (4))) ah)) (gN 0) dh (dM (af (eC (.int (8))) ah)) (gN 1) dh (cO (aD sd (af (ae 4) (af (ae 0) (af (ae 1) ah))))) (gT [gN 2,gN 3]) dh (cD (af (ae 0) (af (ae 1) (af (ae 2) (af (ae 3) ah)))))))
def qa:List D->aa->Res D:=aM 1 1 (aG (dA (aD vD (af (ae 0) ah)) (TK.Bo (aD vv (af (ae 0) ah)))))
def pX:List D->aa->Res D:=aM 1 1 (bB (eG (cN (aD qa (af (ae 0) ah)))) YA bQ)
section
variable {X:Cx} {Ξ:Wd->aT->Prop} {el tg src jD iy:Ġ} {tests kF:List Ġ} {sc:ſ} {ps pos:Pos} {N:List Str} {nt:Nat} {cap:List Nat} {it iC:abZ (List D)} {gd pT:D->Env->Option Env} {g0 u5:TG} {sl cz:List Nat} {ft jC:abZ Bool} {f:abZ D}
end
open Classical in
def jL (nt:Nat) (caps:Env) (g:D->Env->Option Env) (t:abZ Bool) (f:abZ D) (γ:aa->Prop):List D->aa->Res (List D)
 | [],s=>if γ s then ok [] s else none
 |d::Z,s=>if γ s then (match g d (Ò nt none++caps) with
  |none=>none
  |some env=>aj (ne (t env s)) λb s=>if b=true then aj (ne (f env s)) λx s=>aj (jL nt caps g t f γ Z s) λY s=>ok (x::Y) s
   else jL nt caps g t f γ Z s) else none
def sM (nt:Nat) (cap:List Nat) (it:abZ (List D×(aa->Prop))) (g:D->Env->Option Env) (t:abZ Bool) (f:abZ D):abZ D:=λenv s =>
 aj (it env s) λp s=>iN p.1 (aj (jL nt (f6 cap env) g t f p.2 p.1 s) λZ s=>ok (.lst Z) s)
def Lz (K:Ē) (w:Wd) (J:It) (ds:List D) (γ:aa->Prop):Prop:=∀Z,Le K w Z->aI K Z->γ Z.aw->∀i,
 (∀d,ds[i]?=some d->J.go i Z.H/\∀x X,J.pB i Z.H x X->∃Y,Y.H=X/\Le K Z Y/\aI K Y/\Y.aw=Z.aw/\DV K Y d x)/\(ds.length<=i->J.stop i Z.H)
def ui (K:Ē) (Ξ:Wd->aT->Prop) (f:abZ (List D×(aa->Prop))):TI:=fun σ H R=>∃w env,w.H=H/\aI K w/\bG K w env σ/\Out K Ξ w (f env w.aw) λZ p=>∀J,Lz K Z J p.1 p.2->R J Z.H
section
variable {K:Ē} {Ξ:Wd->aT->Prop}
def N7 (σ:St) (H:Hp) (Q:VK) :
  tE K Ξ (sM nt cap it g ft f) σ H Q->mY (ui K Ξ it) nt cap (gD K g) (tT K bL ft) (tE K bL f) σ H Q:=by
 rintro ⟨w,env,rfl,S,r,h⟩;refine⟨w,env,rfl,S,r,(Out.aj h).mono λD p l1 S1 C J n=>?_⟩;obtain⟨U,F⟩:=p;obtain⟨l,C⟩:=qc C;have l:U.length<=Ñ:=l;refine⟨λi m R k=>m=U.length-i/\i<=U.length/\R.length<=i/\∃X Y,X.H=k/\Le K D X/\aI K X/\ak K X Y R/\Out K Ξ X (jL nt (f6 cap env) g ft f F (U.drop i) X.aw) λV M=>∀T,ak K V (Y++M) T->∀p,V.H p=none->Q (.ref p) (upd V.H p (.lst T)),
  ⟨U.length,rfl,ē _,ē _,D,[],rfl,Le.refl _,S1,rfl,(Out.aj C).mono λV M O L h2 T E p P=>?_⟩,?_⟩
 ·exact h2 (V.grow p (.lst T)) (Fw.grow P).le (L.grow P) rfl (.ref p) ⟨p,T,rfl,⟨(show ¬ V.Z p from kD L P),cu⟩,(Fw.grow P).le.all E⟩
 rintro i m R k ⟨rfl,hi,ha,X,Y,rfl,I,B,A,W⟩;by_cases z:i<U.length
 ·right
  rw[Ņ z] at W;unfold jL at W;by_cases N:F X.aw
  ·rw[Þ N] at W
   obtain⟨fL,hy⟩:=(n X I B N i).1 _ (Ð z)
   cases u:g U[i] (Ò nt none++f6 cap env) with
   |none=>rw[u] at W;exact W.elim
   |some t =>
    rw[u] at W;refine⟨fL,by omega,λs j=>s.length<=i+1/\∃X Y,X.H=j/\Le K D X/\aI K X/\ak K X Y s/\Out K Ξ X (jL nt (f6 cap env) g ft f F (U.drop (i+1)) X.aw) λV M=>∀T,ak K V (Y++M) T->∀p,V.H p=none->Q (.ref p) (upd V.H p (.lst T)),
     λs j ⟨Dc,q⟩=>⟨U.length-(i+1),by omega,rfl,z,Dc,q⟩,λo x H3 ho y=>?_⟩
    obtain⟨V,rfl,O,L,es,dv⟩:=hy x H3 y;refine⟨V,_,U[i],t,rfl,L,(r.le (l1.trans (I.trans O))).block nt cap o ho,dv,u,fun lu c=>?_⟩;rw[<- es] at W;refine⟨V,t,rfl,L,c,(Out.aj (W.from O)).ne.mono λa b G S3 h3=>?_⟩
    cases b with
    |true =>
     refine⟨a,t,rfl,S3,c.le G,(Out.aj h3).ne.mono λw4 d l4 S4 h4 v uU=>⟨by rw[é];simp;omega,w4,Y++[d],rfl,I.trans (O.trans (G.trans l4)),S4,ak.append ((O.trans (G.trans l4)).all A) (ak.one uU),(Out.aj h4).mono λw5 M l5 S5 h5 T E p P=>?_⟩⟩;exact au S5 h5 T (by rw[Ł] at E;exact E) p P
    |false =>
     exact⟨by omega,a,Y,rfl,I.trans (O.trans G),S3,(O.trans G).all A,h3⟩
  ·rw[ì N] at W
   exact W.elim
 ·left
  have e:i=U.length:=by omega
  subst e;rw[abq] at W;unfold jL at W;by_cases N:F X.aw
  ·rw[Þ N] at W
   exact⟨(n X I B N _).2 (ab3 _),by omega,λp P=>au B W R (by rw[þ];exact A) p P⟩
  ·rw[ì N] at W
   exact W.elim
def O5 (R R':It->Hp->Prop) (i:∀J H',R J H'->R' J H') (h:ui K Ξ it σ H R):ui K Ξ it σ H R':=by
 obtain⟨w,env,Z,S,Y,h⟩:=h;exact⟨w,env,Z,S,Y,h.mono λV p _ _ X J W=>i J _ (X J W)⟩
def Sv (h:DV K w x (.ref a)) (g:DV K w y (.ref b)):Lz K w (Xp K a b) (fk ds es) λs=>res x s=.lst ds/\res y s=.lst es:=λD U Z T i=>by
 obtain⟨p,Y,e,X,S⟩:=fU Z (U _ _ h) T.1;obtain⟨q,W,N,V,R⟩:=fU Z (U _ _ g) T.2;cases e;cases N;refine⟨λd M=>?_,λL=>⟨Y,W,aZ.of X,aZ.of V,?_⟩⟩
 ·obtain⟨x,y,e1,e2,rfl⟩:=GF M
  obtain⟨v,ev,J⟩:=S.get' i x e1;obtain⟨u,Q,I⟩:=R.get' i y e2;refine⟨⟨Y,W,v,u,aZ.of X,aZ.of V,ev,Q⟩,λz C ⟨r,B,y1,H,G,F,E⟩=>?_⟩;obtain⟨P,O⟩:=E Y W (aZ.of X) (aZ.of V);rw[ev] at P;rw[Q] at O;cases P;cases O;subst G F;exact Gb Z H J I
 ·rw[si] at L
  have:=S.length;have:=R.length;omega
end
def Cn (ds:List D) (s:aa):Res (List D×(aa->Prop)):=match ds with
 | [x,y]=>match res x s,res y s with
  | .tup Z,.tup Y=>ok (fk Z Y,λ_=>True) s
  | .lst Z,.lst Y=>ok (fk Z Y,λs=>res x s=.lst Z/\res y s=.lst Y) s
  |_,_=>none
 |_=>none
def lY (fa:abZ (List D)):abZ (List D×(aa->Prop)):=λenv s=>aj (fa env s) Cn
section
variable {X:Cx} {Ξ:Wd->aT->Prop} {a b:Ġ} {fa:abZ (List D)} {pos:Pos}
def UL {p:Pos} {elts:List Ġ} {kk:Nat} {oZ:Pos} (hg:Gl X "zip") (hm:X.mg "zip"=none) (ha:PA X [a,b] (tA X.K Ξ fa)) (hs:Ë [a,b] X.env=[(false,ļ a X.env),(false,ļ b X.env)]:=by rfl) (cX:Ë [b] X.env=[(false,ļ b X.env)]:=by rfl) :
  PI X (.Tuple elts kk oZ) (.Call (.Name "zip" p) [a,b] [] pos) (ui X.K Ξ (lY fa)):=by
 intro Q s σ H R I V;obtain⟨w,env,C,S,P,h⟩:=V;subst C
 cases Z:fa env w.aw with
 |none=>rw[show lY fa env w.aw=none by unfold lY;rw[Z];rfl] at h;exact h.elim
 |some r =>
  obtain⟨r,F⟩:=r
  cases r with
  |error x =>
   rw[show lY fa env w.aw=some (.error x,F) by unfold lY;rw[Z];rfl] at h;refine Ab hg hm ha hs cX Q s σ w.H R I ⟨w,env,rfl,S,P,?_⟩;rw[Z];exact h
  |ok B =>
   have A:lY fa env w.aw=Cn B F:=by unfold lY;rw[Z];rfl
   rw[A] at h;unfold Cn at h;split at h
   ·rename_i x y
    split at h
    ·rename_i t o ex O
     have e1:=dG ex (by intro _ z;cases z);have e2:=dG O (by intro _ z;cases z);refine Ab hg hm ha hs cX Q s σ w.H R I ⟨w,env,rfl,S,P,?_⟩;rw[Z];intro N le U T n M;obtain⟨v,u,rfl,Y,W⟩:=oz M;rw[e1] at Y;rw[e2] at W;have E:=Y;have D:=W;simp only[DV] at E D;obtain⟨p,L,rfl,V,_⟩:=E;obtain⟨q,J,rfl,G,_⟩:=D;exact⟨p,q,L,J,rfl,V,G,h N le U T _ λm l k _ i=>GH Y W m l k i⟩
    ·rename_i t o ex O
     refine R3 hg hm ha hs cX Q s σ w.H R I ⟨w,env,rfl,S,P,?_⟩;rw[Z];intro N le U T n M;obtain⟨v,u,rfl,Y,W⟩:=oz M;obtain⟨p,L,rfl,V,_⟩:=fU U Y (by rw[T];exact ex);obtain⟨q,J,rfl,G,_⟩:=fU U W (by rw[T];exact O);exact⟨p,q,L,J,rfl,aZ.of V,aZ.of G,h N le U T _ (Sv Y W)⟩
    ·exact h.elim
   ·exact h.elim
def QG (hc:X.calm=true) (S:mT X sc N nt cap) (T:Tg X.K g0 gd nt) (hi:PI X tg src (ui X.K Ξ it))
 (hY:∀(cl:List (Str×Ú)) (C:Ú) (s:Ä) (H:Hp) (ex:List Ú) (pn:List (Ú×Obj)),PG (dO X N sc cl C s H ex pn) tg g0/\PF (dO X N sc cl C s H ex pn) tests (tT X.K bL ft)/\PE (dO X N sc cl C s H ex pn) el (tE X.K bL f))
 (hs:∀x,ü src X.env x=pure x:=by intro _;rfl):PE X (.ListComp el [⟨tg,src,tests,0⟩] sc ps) (tE X.K Ξ (sM nt cap it gd ft f)) :=
 cg (GP hc S T.kj hi hY hs) fun σ H Q h=>zd T.imp (λR Z i h=>O5 R Z i h) (N7 σ H Q h)
end
section
variable {X:Cx} {Ξ:Wd->aT->Prop} {a b:Ġ} {pos:Pos} {fa:abZ (List D)}
def wO (ds:List D) (s:aa):Res D:=match ds with
 | [d]=>match res d s with
  | .lst Z=>ok (.az s.length) (s++[.lst Z])
  | .tup Z=>ok (.az s.length) (s++[.lst Z])
  |_=>none
 |_=>none
def Sw:bY X (.type "list") (rC X.K Ξ wO):=by
 rintro U s σ H Y T Q I r ⟨w,P,rfl,S,Z,h⟩;unfold wO at h;split at h
 ·obtain⟨v,rfl,W⟩:=kE Z
  split at h
  ·rename_i R e1
   obtain⟨a,Y,rfl,V,Z⟩:=fU S W e1;exact E4 U s σ w.H _ T Q I r ⟨a,Y,rfl,.inl (aZ.of V),KD S Z h⟩
  ·rename_i R e1
   rw[dG e1 (by intro _ z;cases z)] at W;simp only[DV] at W;obtain⟨a,Y,rfl,V,Z⟩:=W;exact E4 U s σ w.H _ T Q I r ⟨a,Y,rfl,.inr V,KD S Z h⟩
  ·exact h.elim
 ·exact h.elim
end
section
variable {X:Cx} {Ξ:Wd->aT->Prop} {e:Ġ} {es:List Ġ} {f:abZ D} {fa:abZ (List D)} {pos:Pos}
end
section
variable {X:Cx} {Ξ:Wd->aT->Prop} {pos:Pos}
end
end DI
namespace L2
open PySem
def bZ {α:Type}:Sem α->Prop
 | .pure _=>True
 | .raise _=>True
 | .unsupported _=>True
 | .finish _=>True
 | .rule _ k=>bZ (k ())
 | .at _ k=>bZ (k ())
 | .load _ _ k=>∀o,bZ (k o)
 | .update _ _ f k=>(∀o,(f o).dict=o.dict)/\bZ (k ())
 | .loadIfAlive _ k=>∀o,bZ (k o)
 | .point _ k=>bZ (k ())
 | .register _ _=>True
 | .alloc _ k=>∀a,bZ (k a)
 | .fresh k=>∀t,bZ (k t)
 | .ask k=>∀t,bZ (k t)
 | .choose _ _ k=>∀n,bZ (k n)
 | .os _ _ k=>∀r,bZ (k r)
 | .call ..=>False
 | .handled _ k=>∀v,bZ (k v)
 | .genState _ k=>∀v,bZ (k v)
 | .newGen _ k=>∀v,bZ (k v)
 | .resume ..=>False
 | .yield ..=>True
 | .stack k=>∀v,bZ (k v)
 | .fork ..=>True
 | .thread k=>∀v,bZ (k v)
 | .await ..=>True
def Dk (h0 h:Ī):Prop:=h0.objs.size<=h.objs.size/\∀b o,h0.get? b=some o->∀Z,h.get? b=some Z->Z.dict=o.dict
def Dk.refl (h:Ī):Dk h h:=⟨ab3 _,λb o e Y Z=>by rw[e] at Z;cases Z;rfl⟩
theorem Dk.push {h0 h:Ī} (k:Dk h0 h) (o:Obj):Dk h0 (h.push o):=by
 refine⟨à k.1 (by rw[ĉ];exact aay _),λb p e X W=>k.2 b p e X ?_⟩;have Z:=Ç (Ì e) k.1;obtain⟨Y,V⟩:=aaW.mp W;refine aaW.mpr ⟨?_,V⟩;have:(h.push o).objs[b]?=h.objs[b]?:=by
  show (h.objs.push o)[b]?=_;rw[Array.getElem?_push_lt Z,Array.getElem?_eq_getElem Z]
 rw[this] at Y;exact Y
def Dk.upd {h0 h:Ī} (k:Dk h0 h) {a:Ú} {f:Obj->Obj} (hf:∀o,(f o).dict=o.dict) (ha:(h.get? a).isSome):Dk h0 (h.update a f):=by
 refine⟨by rw[Heap.size_update];exact k.1,λb p e Y X=>?_⟩;by_cases U:b=a
 ·subst U
  obtain⟨W,e1⟩:=aaC.mp ha;have T:=k.2 b p e W e1;obtain⟨Z,S⟩:=aaW.mp X;obtain⟨V,R⟩:=aaW.mp e1;have:Y=f W:=by
   obtain⟨objs,l⟩:=h;have Z:(objs.modify b f)[b]?=some Y:=Z;have V:objs[b]?=some W:=V;rw[Array.getElem?_modify,Þ rfl,V] at Z;exact(ab4 Z).symm
  rw[this,hf,T]
 ·rw[aaB _ _ _ _ U] at X
  exact k.2 b p e Y X
def QH {α:Type} (M:Model) (Γ:Ctx) (t:Sem α):∀{Q:α->Pos->Ä->Prop} {E:Å->Pos->Ä->Prop} {p:Pos} {s:Ä},bZ t->ŵ M Γ t Q E p s->∀{h0:Ī},Dk h0 s.heap ->
  ŵ M Γ t (λa p' s'=>Q a p' s'/\Dk h0 s'.heap) (λe p' s'=>E e p' s'/\Dk h0 s'.heap) p s:=by
 induction t with
 |pure a=>intro Q E p s d h h0 k;rw[ŵ] at h |-;exact⟨h,k⟩
 |raise e=>intro Q E p s d h h0 k;rw[ŵ] at h |-;exact⟨h,k⟩
 |unsupported w=>intro Q E p s d h h0 k;rw[ŵ] at h;exact h.elim
 |finish w=>intro Q E p s d h h0 k;rw[ŵ] at h;exact h.elim
 |rule t Z ih=>intro Q E p s d h h0 k;rw[ŵ] at h |-;exact ih () d h k
 | «at» t Z ih=>intro Q E p s d h h0 k;rw[ŵ] at h |-;exact ih () d h k
 |load a pt Z ih=>intro Q E p s d h h0 k;rw[ŵ] at h |-;obtain⟨o,e,h⟩:=h;exact⟨o,e,ih o (d o) h k⟩
 |loadIfAlive a Z ih=>intro Q E p s d h h0 k;rw[ŵ] at h |-;exact ih _ (d _) h k
 |point a Z ih=>intro Q E p s d h h0 k;rw[ŵ] at h |-;exact ih () d h k
 |register a Z ih=>intro Q E p s d h h0 k;rw[ŵ] at h;exact h.elim
 |fresh Z ih=>intro Q E p s d h h0 k;rw[ŵ] at h |-;exact ih _ (d _) h k
 |ask Z ih=>intro Q E p s d h h0 k;rw[ŵ] at h |-;exact ih _ (d _) h k
 |choose a n Z ih=>intro Q E p s d h h0 k;rw[ŵ] at h |-;exact⟨h.1,ih _ (d _) h.2 k⟩
 |os a n Z ih=>intro Q E p s d h h0 k;rw[ŵ] at h |-;exact ih _ (d _) h k
 |call a b c n Z ih=>intro Q E p s d h h0 k;exact ĕ d
 |handled a Z ih=>intro Q E p s d h h0 k;rw[ŵ] at h |-;exact ih _ (d _) h k
 |genState a Z ih=>intro Q E p s d h h0 k;rw[ŵ] at h |-;obtain⟨o,e,h⟩:=h;exact⟨o,e,ih _ (d _) h k⟩
 |newGen a Z ih=>intro Q E p s d h h0 k;rw[ŵ] at h |-;exact ih _ (d _) h k
 |resume a b c Z ih=>intro Q E p s d h h0 k;exact ĕ d
 |yield a b c Z ih=>intro Q E p s d h h0 k;rw[ŵ] at h;exact h.elim
 |stack Z ih=>intro Q E p s d h h0 k;rw[ŵ] at h |-;exact ih _ (d _) h k
 |fork a Z ih=>intro Q E p s d h h0 k;rw[ŵ] at h;exact h.elim
 |thread Z ih=>intro Q E p s d h h0 k;rw[ŵ] at h |-;exact ih _ (d _) h k
 |await a b c e Z ih=>intro Q E p s d h h0 k;rw[ŵ] at h;exact h.elim
 |alloc o Z ih=>intro Q E p s d h h0 k;rw[ŵ] at h |-;exact ih _ (d _) h (k.push o)
 |update a pt f Z ih=>intro Q E p s d h h0 k;rw[ŵ] at h |-;exact⟨h.1,ih () d.2 h.2 (k.upd d.1 h.1)⟩
def vW {α:Type} {M:Model} {A:î} {t:Sem α} {Q:α->Ä->Prop} {E:Å->Ä->Prop} {s:Ä} (d:bZ t) (h:Û M A t Q E s):Û M A t (λa s'=>Q a s'/\Dk s.heap s'.heap) (λe s'=>E e s'/\Dk s.heap s'.heap) s :=
 fun Z p i=>QH M Z t d (h Z p i) (Dk.refl _)
def eZ {α β:Type} {t:Sem α} {f:α->Sem β} (h:bZ t) (g:∀a,bZ (f a)):bZ (t >>= f):=by
 show bZ (t.bind f)
 induction t with
 |pure a=>exact g a
 |raise e=>trivial
 |unsupported w=>trivial
 |finish w=>trivial
 |rule t k ih=>exact ih () h
 | «at» t k ih=>exact ih () h
 |load a p k ih=>exact λo=>ih o (h o)
 |loadIfAlive a k ih=>exact λo=>ih o (h o)
 |point a k ih=>exact ih () h
 |register a k ih=>trivial
 |fresh k ih=>exact λo=>ih o (h o)
 |ask k ih=>exact λo=>ih o (h o)
 |choose a n k ih=>exact λo=>ih o (h o)
 |os a n k ih=>exact λo=>ih o (h o)
 |call a b c n k ih=>exact h.elim
 |handled a k ih=>exact λo=>ih o (h o)
 |genState a k ih=>exact λo=>ih o (h o)
 |newGen a k ih=>exact λo=>ih o (h o)
 |resume a b c k ih=>exact h.elim
 |yield a b c k ih=>trivial
 |stack k ih=>exact λo=>ih o (h o)
 |fork a k ih=>trivial
 |thread k ih=>exact λo=>ih o (h o)
 |await a b c e k ih=>trivial
 |alloc o k ih=>exact λo=>ih o (h o)
 |update a p f k ih=>exact⟨h.1,ih () h.2⟩
def vX (v:Å) (i:Nat):bZ (field v i):=by
 unfold field fieldsOf;refine eZ ?_ λa=>?_
 ·cases v with
  |ref a =>
   refine eZ (λo=>trivial) λo=>?_
   split<;>trivial
  |_=>trivial
 ·split<;>trivial
def QI (g:Array Å->Array Å) (o:Obj):(Obj.mapFields g o).dict=o.dict:=by
 unfold Obj.mapFields
 split<;>rfl
def AU (v:Å) (i:Nat) (x:Å):bZ (setField v i x):=by
 unfold setField
 cases v with
 |ref a =>
  show bZ (updateField a i x);unfold updateField;refine eZ (λo=>trivial) λo=>?_;split
  ·split
   ·exact⟨QI _,trivial⟩
   ·trivial
  ·trivial
 |_=>trivial
def UM (ty:String) (vs:List Å):bZ (newFields ty vs):=by
 show bZ (if vs.toArray.size > Ñ+2 then _ else newObjAsIs (.type ty) (.fields vs.toArray))
 split
 ·trivial
 ·exact λ_=>trivial
def zl (e:Å) (f:Option Ú):bZ (setFlight e f):=by
 unfold setFlight;refine eZ (vX _ _) λa=>?_;split
 ·exact AU _ _ _
 ·trivial
theorem GR:∀l:List PySem.Env,bZ (readyFrames l)
 | []=>trivial
 |env::outer=>by
  unfold readyFrames;split
  ·refine eZ (λo=>trivial) λo=>?_
   split
   ·trivial
   ·refine eZ ?_ λb=>eZ ?_ λv=>eZ ⟨λ_=>rfl,trivial⟩ λ_=>GR outer
    ·unfold behindIsImport
     split
     ·trivial
     ·split
      ·trivial
      ·exact eZ (vX _ _) λ_=>trivial
    ·cases outer with
     |nil =>
      show bZ (if (env.scope.isGenerator||env.scope.isCoroutine)=true then pure Value.none else _)
      split
      ·trivial
      ·exact λ_=>trivial
     |cons _ _=>trivial
  ·trivial
def QJ (env:PySem.Env):bZ (frameOf env):=by
 unfold frameOf frameEnvs;refine eZ (λ_=>trivial) λl=>eZ ?_ λr=>?_
 ·generalize l.dropWhile _=Z
  cases Z with
  |nil=>trivial
  |cons a r=>exact eZ (GR _) λ_=>trivial
 ·split<;>trivial
def QK (f:Ú) (b:Bool):bZ (entryPlaceOf f b):=by
 unfold entryPlaceOf;refine eZ (λ_=>trivial) λa=>?_
 split<;>trivial
def HE (e:Å) (env:PySem.Env):bZ (noteFrame e env):=by
 unfold noteFrame;split
 ·refine eZ (vX _ _) λZ=>?_
  rename_i L _;have jp:bZ (frameOf env >>= λf=>entryPlaceOf L (Z != Value.none) >>= λY=>EntryCells.newEntry Z f Value.none (ω L) Value.none Y >>= λb=>setField e 1 b) :=
   eZ (QJ env) λf=>eZ (QK _ _) λY=>eZ (UM _ _) λb=>AU _ _ _
  show bZ (if (Z != Value.none)=true then _ else _)
  split
  ·refine eZ (vX _ _) λx=>?_
   split
   ·trivial
   ·exact eZ (AU _ _ _) λ_=>jp
  ·exact jp
 ·trivial
def QM (env:PySem.Env) (e:Å):bZ (leaving env e):=by
 unfold leaving;exact eZ (HE e env) λ_=>zl _ _
open PySem.Spec PyProof.Rows
structure lK (P:â) (w:Ą) (outer:List Env) (H:Hp) (s:Ä) (H':Hp) (B:Ī) (a:Ú) (cls a0:Å) (h:Ī):Prop where
 fl:abl B outer a cls a0 h
 old:∀b o,s.heap.get? b=some o->H b=none->b∉b9 outer->B.get? b=some o
 there:∀b o,s.heap.get? b=some o->b∉b9 outer->∃o',B.get? b=some o'
 slot:∀b o,s.heap.get? b=some o->b∈b9 outer->∃sl,h.get? b=some { o with slots:=sl }
 aC:cq P w H' B
 free:∀b o,s.heap.get? b=some o->H b=none->H' b=none
 fe:∀b xs,H b=some (.tup xs)->H' b=some (.tup xs)
 eD:∀b o u,H b=some (.aV o u)->H' b=some (.aV o u)
 ff:∀b ps,H b=some (.dD ps)->∃more,H' b=some (.dD (ps++more))
def Dm (h:Ī) (a:Ú) (m:Option Ú):Prop:=∀Z,m=some Z->∃o,h.get? a=some o/\o.dict=some Z
def Dm.ao (h:Ī) (a:Ú):Dm h a none:=λ_ z=>by cases z
def Dm.on {h h':Ī} {a:Ú} {m:Option Ú} (x:Dm h a m) (k:Dk h h') (t:∃o,h'.get? a=some o):Dm h' a m:=λX e=>by
 obtain⟨o,e1,e2⟩:=x X e;obtain⟨Z,Y⟩:=t;exact⟨Z,Y,(k.2 a o e1 Z Y).trans e2⟩
def gw (P:â) (w:Ą):iX:=λouter H s E e Z=>∃a cls X Y B m,e=.ref a/\Z.os=s.os/\abU Z.gens/\lK P w outer H s Y B a cls X Z.heap/\Dm Z.heap a m/\E cls m Y
section
variable {P:â} {w:Ą} {outer:List Env} {H H':Hp} {s:Ä} {B h h':Ī} {a:Ú} {cls a0:Å}
def lK.un (F:lK P w outer H s H' B a cls a0 h):Un (b9 outer) [] H H' s.heap h where
 keep:=λb o e n Z _=>F.fl.1 b o (F.old b o e n Z)
 slot:=λb o e n Z _=>F.slot b o e Z
 free:=λb o e n _=>F.free b o e n
 there:=λb o e _=>by
  by_cases Z:b∈b9 outer
  ·obtain⟨X,q⟩:=F.slot b o e Z
   exact⟨_,q⟩
  ·obtain⟨Y,q⟩:=F.there b o e Z
   exact⟨Y,F.fl.1 b Y q⟩
 fe:=F.fe
 eD:=F.eD
 ff:=F.ff
def lK.held (F:lK P w outer H s H' B a cls a0 h):cq P w H' h:=F.aC.kept λb o e=>F.fl.1 b o e
def lK.on (F:lK P w outer H s H' B a cls a0 h) (hf:abl B outer a cls a0 h') (hs:h.UpToSlots h'):lK P w outer H s H' B a cls a0 h' :=
 { F with
  fl:=hf
  slot:=λb o e Z=>by
   obtain⟨U,q⟩:=F.slot b o e Z;obtain⟨_,T,Y,X⟩:=F.fl.2.2.1.mem Z;rw[q] at Y;cases Y;obtain⟨W,V⟩:=hs b _ q X;exact⟨W,V⟩ }
def di.Wh {o:HO} (x:di P w H h a o):∃ob,h.get? a=some ob:=by
 cases o with
 |lst Z=>obtain⟨_,_,_,_,e⟩:=x;exact⟨_,e⟩
 |tup Z=>obtain⟨_,_,_,ob,e,_⟩:=x;exact⟨ob,e⟩
 |dK Y=>obtain⟨_,_,_,_,o,_,_,e,_⟩:=x;exact⟨_,e⟩
 |dT Y=>obtain⟨_,_,_,_,o,_,_,e,_⟩:=x;exact⟨_,e⟩
 |set S n=>obtain⟨o,_,_,_,e,_⟩:=x;exact⟨_,e⟩
 |ins C X fs=>obtain⟨_,_,_,e,_⟩:=x;exact⟨_,e⟩
 |own y=>exact x
 |xd fs=>obtain⟨_,⟨_,_,_,e,_⟩,_⟩:=x;exact⟨_,e⟩
 |cj lo hi=>obtain⟨_,_,_,e⟩:=x;exact⟨_,e⟩
 |aV ob u=>obtain⟨e,_⟩:=x;exact⟨_,e⟩
 |dD W=>exact⟨_,x⟩
 |met f y=>exact⟨_,x⟩
 |ext V=>obtain⟨_,e,_⟩:=x;exact e
def lK.new (F:lK P w outer H s H' B a cls a0 h):H' a=none:=by
 cases e:H' a with
 |none=>rfl
 |some o =>
  obtain⟨Y,Z⟩:=(F.aC a o e).Wh;rw[F.fl.2.1] at Z;cases Z
end
structure Lv (X:Cx) (E:XK):Prop where
 xe:X.xe=λe s'=>Û (ã X.prog X.w) X.A (leaving X.env e) (λ_ iB=>gw X.prog X.w X.outer X.kQ X.cM E e iB) (λe' iB=>gw X.prog X.w X.outer X.kQ X.cM E e' iB) s'
 lg:X.stack=X.env::X.outer
 fr:X.env.frame=some X.env.locals
 ex:X.ex=[]
section
variable {X:Cx} {E:XK} {π:List (Ú×Obj)} {σ:St} {H:Hp} {s:Ä}
def Inv.wQ (I:Inv X π σ H s) (L:Lv X E) {b:Ú} {o:Obj} (e:X.cM.heap.get? b=some o) (hb:b∉b9 X.outer):b∉b9 X.stack:=λz=>by
 rcases Ô.mp (I.jO b z) with q|q
 ·exact absurd (Ì e) (by rw[q];exact Nat.not_lt.mpr I.ok.above)
 ·exact hb q
def zJ (L:Lv X E) {b:Ú} (hb:b∈b9 X.outer):b∈b9 X.stack:=by
 rw[L.lg];unfold b9;rw[aax,L.fr];exact Ï _ hb
def IH (L:Lv X E):Passes (gw X.prog X.w) X E:=by
 intro π σ H s e S I h;obtain⟨a,cls,R,M,B,m,rfl,os,bare,F,K,q⟩:=h;rw[L.xe];have fl:=F.fl;rw[L.lg] at fl
 refine Ĕ (vW (QM _ _) (wpAny_leaves_onW (E:=λ_ _=>False) (Q:=λ_ P=>∃Y,P={ S with heap:=Y }/\abl B X.outer a cls R Y/\S.heap.UpToSlots Y) (by rw[I.ok.frames,L.lg]) L.fr fl λY V U=>⟨Y,rfl,V,U⟩)) (λ_ P z=>?_) λ_ _ z=>z.1.elim
 obtain⟨⟨Y,rfl,V,U⟩,J⟩:=z
 refine⟨a,cls,R,M,B,m,rfl,os.trans I.os,bare,⟨V,λb o e n Z=>?_,λb o e Z=>?_,λb o e Z=>?_,F.aC,λb o e n=>?_,λb O e=>F.fe b O (I.base.fe b O e),λb o u e=>F.eD b o u (I.base.eD b o u e),λb G e=>?_⟩,K.on J (let ⟨o,e,_⟩:=V.there;⟨o,e⟩),q⟩
 ·exact F.old b o (I.base.keep b o e n Z (by rw[L.ex];simp)) (I.base.free b o e n (by rw[L.ex];simp)) (I.wQ L e Z)
 ·obtain⟨T,W⟩:=I.base.there b o e (by rw[L.ex];simp)
  exact F.there b T W (I.wQ L e Z)
 ·obtain⟨v,W⟩:=I.base.slot b o e (I.ok.lh b Z) Z (by rw[L.ex];simp)
  obtain⟨t,e2⟩:=F.slot b _ W (zJ L Z);obtain⟨_,r,N,D⟩:=F.fl.2.2.1.mem (zJ L Z);rw[e2] at N;cases N;obtain⟨C,A⟩:=U b _ e2 D;exact⟨C,A⟩
 ·obtain⟨T,W⟩:=I.base.there b o e (by rw[L.ex];simp)
  exact F.free b T W (I.base.free b o e n (by rw[L.ex];simp))
 ·obtain⟨y,e1⟩:=I.base.ff b G e
  obtain⟨x,e2⟩:=F.ff b _ e1;exact⟨y++x,by rw[e2,Array.append_assoc]⟩
def N8 (L:Lv X E) (I:Inv X π σ H s) {h1:Ī} {e:Ú} {cls:Å} {us:List Å} (hm:Heap.MadeExcOf s.heap h1 e cls us) (q:E cls none H):X.xe (.ref e) { s with heap:=h1 }:=by
 rw[L.xe];have V:=I.stack;have U:∀b u,H b=some u->b∉b9 X.stack:=λb u e z=>by rw[I.sr b z] at e;cases e
 refine wpAny_leaves_madeW (base:=PySem.W.hideAll s.heap (b9 X.stack)) (h:=s.heap) (env:=X.env) (outer:=X.outer) (by rw[I.ok.frames,L.lg]) L.fr (λb o e=>PySem.W.of_hideAll _ e) ?_ hm λJ t S _ _ R=>⟨e,cls,_,H,PySem.W.hideAll s.heap (b9 X.stack),none,rfl,I.os,I.bare,⟨S,λb o e n Z=>?_,λb o e Z=>?_,λb o e Z=>?_,λb u e=>?_,λb o e n=>I.base.free b o e n (by rw[L.ex];simp),I.base.fe,I.base.eD,I.base.ff⟩,Dm.ao _ _,q⟩
 ·rw[<- L.lg]
  refine PySem.W.funFrames_hide V λenv Q a P=>?_;unfold b9;exact aaJ.mpr ⟨env,Q,P⟩
 ·exact aaw _ (I.base.keep b o e n Z (by rw[L.ex];simp)) (I.wQ L e Z)
 ·obtain⟨O,Y⟩:=I.base.there b o e (by rw[L.ex];simp)
  exact⟨O,aaw _ Y (I.wQ L e Z)⟩
 ·obtain⟨G,Y⟩:=I.base.slot b o e (I.ok.lh b Z) Z (by rw[L.ex];simp)
  obtain⟨_,F,T,N⟩:=V.mem (zJ L Z);rw[Y] at T;cases T;obtain⟨M,K⟩:=R b _ (hm.keeps b _ Y) N;exact⟨M,K⟩
 ·refine(I.aC b u e).dU (λc v hc z=>aaw _ z ?_) (λ_ z=>z) λ_ _ z=>z
  rcases hc with rfl|hc
  ·exact U c _ e
  ·exact U c _ hc
def UN (X:Cx) (M:Mod X.K X.mg X.base) {x:Str} {C:Ú} {rK:List Å} {newId:String} (eC:è X.K Ö x=some (some (.ref C))) (qC:abX X.K C rK newId=true):OwnCls x C rK newId X.mg X.base:=by
 have KB:=M.ka;refine⟨ĭ KB M.glob eC,?_⟩;unfold abX at qC;split at qC
 case h_2=>cases qC
 rename_i P cd Y O;split at qC
 case h_2=>cases qC
 rename_i H bm V a1 a2 U nw T S hs;simp only[Æ,beq_iff_eq,Ě] at qC;obtain⟨⟨⟨⟨⟨N,L⟩,R⟩,J⟩,Z⟩,Q⟩:=qC;subst N L;cases cd;dsimp only at S R Z Q;subst S R;have I:Y=#[V,a1,a2,U,some (.builtin nw),T]:=by cases Y;simp only at hs;rw[hs]
 subst I;exact⟨bm,_,_,_,_,_,_,_,_,_,P,V,a1,a2,U,T,_,KB _ _ O,.of_isNs (PySem.W.isNs_of_in KB Z),PySem.W.nsMap_none_of_in KB Z Q,PySem.W.tail_of_in KB J⟩
def QN {x:Str} {C:Ú} {rK:List Å} {B newId UO:String} {np aO pos:Pos} {mi:Ġ} {rest:List Ġ} {t:TA} (L:Lv X E) (eC:è X.K Ö x=some (some (.ref C))) (qC:abX X.K C rK newId=true) (FB:ExcBaseFacts B newId UO rK) (hc:X.calm=true) (hg:Gl X x) (ha:PA X (mi::rest) t) (hd:(x==("__debug__":Str))=false:=by decide)
  (he:Ë (mi::rest) X.env=(false,ļ mi X.env)::Ë rest X.env:=by rfl) (fW:(Ħ aO (Ë rest X.env)).any (·.1)=false:=by rfl) :
  PS X (.Raise (some (.Call (.Name x np) (mi::rest) [] aO)) none pos) (λ_ σ H=>t σ H λvs H1=>vs.length<=Ñ/\E (.ref C) none H1):=by
 intro π s σ H D I h;have O:OwnCls x C rK newId X.mg X.base:=UN X I.ok.mod eC qC;obtain⟨W,N,nm,q,bs,hdct,sn,sub,ab,col,dd,k0,k1,k2,k3,k5,mN,V,U,S,T⟩:=O.obj;refine wpAny_Raise_call_subT (C:=C) (nm:=nm) (q:=q) (N:=N) (bs:=bs) (bm:=W) (hdct:=hdct) (sn:=sn) (sub:=sub) (ab:=ab) (col:=col) (dd:=dd) (k0:=k0) (k1:=k1) (k2:=k2) (k3:=k3) (k5:=k5)
  FB (mN:=mN) (T.hasType FB.hasBase) (I.ok.hd hc) (by rw[he];show (false||(Ħ aO (Ë rest X.env)).any (·.1))=false;rw[fW];rfl) S (qm I hg O.bound ⟨rfl,?_⟩ hd)
 have Y:=ha aO π s σ H _ I h;rw[he] at Y |-;refine Calls.evalArgs_plain (aH Y λP M ⟨vs,H1,Z,r,z,R⟩=>⟨rfl,by rw[<- r.length];exact z,Z.bk _ _ V,U.keeps Z.bk,T.keeps Z.bk,λJ e Q=>?_⟩);exact N8 L Z Q R
end
end L2
namespace DI
open PySem L2
abbrev GG (K:Ē) (mg:Str->Option Å) (x:Str) (st:abM) (ps:List Str):Prop:=∃f fd,Gd K mg x st ps f fd
abbrev bU (P:â) (w:Ą) (K:Ē) (mg:Str->Option Å) (base:Ī) (x:Str) (st:abM) (ps:List Str) (k:Nat) (fn:List D->aa->Res D):Prop:=∀{f:Ú} {fd:ĝ},Gd K mg x st ps f fd->cR P w K mg base dg k f fd ps (i5 K fn)
noncomputable def pk (N ps:List Str) (sc:ſ):Bool:=decide (sc.kind=.function)&&!sc.isCoroutine&&!sc.isGenerator&&decide N.Nodup&&decide (N.take ps.length=ps)&&ps.all (λx=>decide (sc.names.lookup x=some .local\/sc.names.lookup x=some .cell))&&sc.names.all (λy=>decide (y.2≠.free))
def kG (h:pk N ps sc=true):oo N ps sc:=by
 unfold pk at h;simp only[Æ,Ě,Ê,æ] at h;obtain⟨⟨⟨⟨⟨⟨Z,Y⟩,X⟩,W⟩,V⟩,U⟩,T⟩:=h;exact⟨Z,Y,X,W,V,U,T⟩
def bW (G:Gd K mg x st ps f fd) (N:List Str) (S:pk N ps (cG st)=true)
 (hb:N.Nodup->∀(aS:Å) (A:î) (outer:List PySem.Env) (s:Ä) (H:Hp) (E:XK),bP k (A.deeper (Ń x (cG st) s.heap.objs.size f aS))->cS (gR dg P w K mg base N x (cG st) f aS A outer s H E).mq (ie st) (tS K bL b)) :
  cR P w K mg base dg (k+1) f fd ps (i5 K (aM ps.length N.length b)):=Jt G.fn (kG S) (hb (kG S).nd)
section
variable {X:Cx} {Ξ:Wd->aT->Prop} {e a b c tg el src:Ġ} {es rest tests:List Ġ} {pos:Pos} {f g h:abZ D} {fa:abZ (List D)} {ft gt:abZ Bool}
def aW {k n:Nat} {x:Str} {st:abM} {ps:List Str} {fn:List D->aa->Res D} {p:Pos} (G:GG X.K X.mg x st ps) (F:bU X.prog X.w X.K X.mg X.base x st ps k fn) (hr:bP n X.A) (ha:PA X (e::es) (tA X.K Ξ fa)) (hk:k<=n:=by decide) (hg:Gl X x:=by rfl) (df:(x==("__debug__":Str))=false:=by decide)
  (he:Ë (e::es) X.env=(false,ļ e X.env)::Ë es X.env:=by rfl) (bw:(Ħ pos (Ë es X.env)).any (·.1)=false:=by rfl):PE X (.Call (.Name x p) (e::es) [] pos) (tE X.K Ξ (aD fn fa)):=by
 obtain⟨f,fd,G⟩:=G;exact wK (F G) (hr.mono hk) hg G.mg G.fn.kp G.b ha df he bw
def ay (ha:PE X a (tE X.K Ξ f)) (hs:Ë [a] X.env=(false,ļ a X.env)::Ë [] X.env:=by rfl):PA X [a] (tA X.K Ξ (af f ah)):=bh ha dQ hs
def ba (ha:PE X a (tE X.K Ξ f)) (hb:PE X b (tE X.K Ξ g)) (h1:Ë [a,b] X.env=(false,ļ a X.env)::Ë [b] X.env:=by rfl) (h2:Ë [b] X.env=(false,ļ b X.env)::Ë [] X.env:=by rfl):PA X [a,b] (tA X.K Ξ (af f (af g ah))):=bh ha (bh hb dQ h2) h1
def kH (ha:PE X a (tE X.K Ξ f)) (hb:PE X b (tE X.K Ξ g)) (hc:PE X c (tE X.K Ξ h)) (h1:Ë [a,b,c] X.env=(false,ļ a X.env)::Ë [b,c] X.env:=by rfl) (h2:Ë [b,c] X.env=(false,ļ b X.env)::Ë [c] X.env:=by rfl) (h3:Ë [c] X.env=(false,ļ c X.env)::Ë [] X.env:=by rfl):PA X [a,b,c] (tA X.K Ξ (af f (af g (af h ah)))):=bh ha (bh hb (bh hc dQ h3) h2) h1
def gI {x:Str} {px:Pos} {sc:ſ} {ps:Pos} (N:List Str) {cap:List Nat} {it:abZ (List D)} (hi:PI X (.Name x px) src (eU X.K Ξ it))
  (hY:∀(cl:List (Str×Ú)) (C:Ú) (s:Ä) (H:Hp) (ex:List Ú) (pn:List (Ú×Obj)),PF (dO X N sc cl C s H ex pn) tests (tT X.K bL ft)/\PE (dO X N sc cl C s H ex pn) el (tE X.K bL f))
  (hc:X.calm=true:=by rfl) (S:AO sc X.env.scope.names X.N N 1 cap=true:=by kernel_rfl) (nd:N.Nodup:=by decide +kernel) (h0:N[0]?=some x:=by rfl) (hx:∀cl C s H ex pn,(dO X N sc cl C s H ex pn).env.scope.names.lookup x=some .local:=by intros;rfl) (hs:∀x,ü src X.env x=pure x:=by intro _;rfl) :
  PE X (.ListComp el [⟨.Name x px,src,tests,0⟩] sc ps) (tE X.K Ξ (cB 1 cap it (gN 0) ft f)) :=
 Hz hc (xn S) (qo 0) hi (λcl C s H ex pn=>⟨iH nd h0 (.inl (hx cl C s H ex pn)) (.inr (hx cl C s H ex pn)),hY cl C s H ex pn⟩) hs
end
def i8 (mg:Str->Option Å) (E:XK):Wd->aT->Prop:=λw x=>∃C,mg x.c=some (.ref C)/\match x.many with
 |none=>E (.ref C) none w.H
 |some i=>∀Z Y t,w.H Z=none->PySem.W.lookIn "many" Y=some (some (.int i t))->E (.ref C) (some Z) (upd w.H Z (.aV Y (.own Z)))
def rL (mg:Str->Option Å) (K:Ē) (f:List D->aa->Res D):Sp:=λX H Q E=>∃w Z,w.H=H/\aI K w/\ak K w Z X/\Out K (i8 mg E) w (f Z w.aw) λY d=>∀v,DV K Y d v->Q v Y.H
def qB (c:Str) (fa:abZ (List D)):abZ Fl:=λenv s=>aj (fa env s) λZ s=>if decide (Z.length<=10)=true then some (.error ⟨c,none⟩,s) else none
def xV (K:Ē) (mg:Str->Option Å) (x:Str):Prop:=∃C,è K Ö x=some (some (.ref C))/\mg x=some (.ref C)/\abX K C [.type "ValueError",.type "Exception",.type "BaseException",.type "object"] "ValueError.__new__"=true
def qD (fn:List D->aa->Res D) (fa:abZ (List D)):abZ D:=λenv s=>aj (fa env s) fn
section
variable {X:Cx} {E:XK} {Ξ:Wd->aT->Prop} {e a b c:Ġ} {es rest:List Ġ} {pos:Pos} {f g h:abZ D} {fa:abZ (List D)}
def sA {x:Str} {np aO:Pos} {mi:Ġ} (L:Lv X E) (hO:xV X.K X.mg x) (ha:PA X (mi::rest) (tA X.K (i8 X.mg E) fa)) (hc:X.calm=true:=by rfl) (hg:Gl X x:=by rfl) (hd:(x==("__debug__":Str))=false:=by decide)
  (he:Ë (mi::rest) X.env=(false,ļ mi X.env)::Ë rest X.env:=by rfl) (fW:(Ħ aO (Ë rest X.env)).any (·.1)=false:=by rfl) :
  PS X (.Raise (some (.Call (.Name x np) (mi::rest) [] aO)) none pos) (tS X.K (i8 X.mg E) (qB x fa)) :=
 let ⟨C,eC,V,U⟩:=hO
 jP (QN L eC U PySem.F.excBase_ValueError hc hg ha hd he fW) λN σ H T=>by
  obtain⟨w,env,R,S,Q,h⟩:=T;subst R;refine⟨w,env,rfl,S,Q,(Out.aj h).mono λW M J P Z I O=>?_⟩;split at Z
  ·rename_i Y
   have Y:=ð Y;obtain⟨G,e1,q⟩:=Z W (Le.refl W) P rfl;rw[V] at e1;cases e1;exact⟨à (by rw[<- O.length];exact Y) (by decide),q⟩
  ·exact Z.elim
def Sx {k:Nat} {fA:Ú} {fd:ĝ} {nN:List Str} {fn:List D->aa->Res D} {x:Str} {p:Pos} (L:Passes (gw X.prog X.w) X E) (F:cR X.prog X.w X.K X.mg X.base (gw X.prog X.w) k fA fd nN (rL X.mg X.K fn)) (hr:bP k X.A) (hg:Gl X x) (hm:X.mg x=some (.ref fA)) (hk:ı X.K (.ref fA)=true) (hb:Binds X.K fd nN [])
  (ha:PA X (e::es) (tA X.K (i8 X.mg E) fa)) (df:(x==("__debug__":Str))=false:=by decide) (he:Ë (e::es) X.env=(false,ļ e X.env)::Ë es X.env:=by rfl) (bw:(Ħ pos (Ë es X.env)).any (·.1)=false:=by rfl) :
  PE X (.Call (.Name x p) (e::es) [] pos) (tE X.K (i8 X.mg E) (qD fn fa)):=cg (zY F hr hg hm hk hb .nil L ha df he bw) fun σ H Q Y=>by
 obtain⟨w,env,W,S,V,h⟩:=Y;subst W;refine⟨w,env,rfl,S,V,(Out.aj h).mono λZ U N T R P O=>?_⟩;show rL X.mg X.K fn (P++[]) Z.H Q E;rw[þ];exact⟨Z,U,rfl,T,O,R⟩
def UP {α:Type} {K:Ē} {w:Wd} {r:Res α} {k:Wd->α->Prop} (h:Out K bL w r k):Out K Ξ w r k:=by
 match r,h with
 |some (.ok a,s),h=>exact h
 |some (.error x,s),h=>exact λZ l S e=>(h Z l S e).elim
def UQ:Passes (gw X.prog X.w) X E0:=λ_ _ _ _ _ _ _ ⟨_,_,_,_,_,_,_,_,_,_,_,q⟩=>q.elim
def Sy {k:Nat} {fA:Ú} {fd:ĝ} {nN:List Str} {fn:List D->aa->Res D} {x:Str} {p:Pos} (F:cR X.prog X.w X.K X.mg X.base (gw X.prog X.w) k fA fd nN (rL X.mg X.K fn)) (hr:bP k X.A) (hg:Gl X x) (hm:X.mg x=some (.ref fA)) (hk:ı X.K (.ref fA)=true) (hb:Binds X.K fd nN [])
  (ha:PA X (e::es) (tA X.K Ξ fa)) (df:(x==("__debug__":Str))=false:=by decide) (he:Ë (e::es) X.env=(false,ļ e X.env)::Ë es X.env:=by rfl) (bw:(Ħ pos (Ë es X.env)).any (·.1)=false:=by rfl) :
  PE X (.Call (.Name x p) (e::es) [] pos) (tE X.K Ξ (aD fn fa)):=cg (zY F hr hg hm hk hb .nil UQ ha df he bw) fun σ H Q Y=>by
 obtain⟨w,env,W,S,V,h⟩:=Y;subst W;refine⟨w,env,rfl,S,V,(Out.aj h).mono λZ U N T R P O=>?_⟩;show rL X.mg X.K fn (P++[]) Z.H Q E0;rw[þ];exact⟨Z,U,rfl,T,O,UP R.ne⟩
end
def wR {P:â} {w:Ą} {K:Ē} {mg:Str->Option Å} {base:Ī} {x:Str} {st:abM} {f:Ú} {fd:ĝ} {ps:List Str} {k:Nat} {b:abZ Fl} (G:Gd K mg x st ps f fd) (N:List Str) (S:pk N ps (cG st)=true)
  (hb:N.Nodup->∀(aS:Å) (A:î) (outer:List PySem.Env) (s:Ä) (H:Hp) (E:XK),bP k (A.deeper (Ń x (cG st) s.heap.objs.size f aS))->Lv (gR (gw P w) P w K mg base N x (cG st) f aS A outer s H E) E->cS (gR (gw P w) P w K mg base N x (cG st) f aS A outer s H E) (ie st) (tS K (i8 mg E) b)) :
  cR P w K mg base (gw P w) (k+1) f fd ps (rL mg K (aM ps.length N.length b)):=by
 obtain⟨J,I,kV,doc,pm,an,aS,ct,F,rfl,lk,V⟩:=G.fn.ex;refine Bh lk V (kG S) (λU H Q E h=>?_) λA outer s H U Q E T h=>?_
 ·obtain⟨w,R,rfl,S,Y,h⟩:=h
  rw[<- Y.length];unfold aM at h;split at h
  ·assumption
  ·exact h.elim
 ·obtain⟨X,R,rfl,O,Y,h⟩:=h
  refine⟨_,hb (kG S).nd aS A outer s X.H E T ⟨rfl,rfl,rfl,rfl⟩,?_⟩;unfold aM at h;split at h
  ·rename_i M
   rw[<- M] at h;refine⟨X,_,rfl,O,Y.env N.length,(Out.aj h).mono λD L C W Z=>?_⟩
   cases L with
   |nx env=>intro B _;exact au W Z _ rfl
   |rt d=>have q:=au W Z;exact q
   |bk env=>exact Z.elim
   |ct env=>exact Z.elim
  ·exact h.elim
end DI
namespace L2
open PySem PySem.Spec PyProof.Rows PySem.W
structure Wi (env:Env) (names:List (Str×ť)) (cl:List (Str×Ú)):Prop where
 tI:∀x c,cl.lookup x=some c->env.cells.lookup x=some c
 all:∀x,(x,ë)∈names->∃c,cl.lookup x=some c
theorem zK {env:Env}:∀(names:List (Str×ť)) (acc:List (Str×Ú)),(∀x,(x,ë)∈names->∃c,env.cells.lookup x=some c)->(∀x c,acc.lookup x=some c->env.cells.lookup x=some c) ->
  ∃cl,(forIn names acc λ(p:Str×ť) (r:List (Str×Ú))=>(match p with | (name,kind)=>if kind==.free then (do let c <- cellOf env name;pure (ķ ((name,c)::r))) else pure (ķ r):Sem (ForInStep (List (Str×Ú)))))=pure cl /\
   (∀x c,cl.lookup x=some c->env.cells.lookup x=some c)/\(∀x,(x,ë)∈names->∃c,cl.lookup x=some c)/\∀x c,acc.lookup x=some c->∃c,cl.lookup x=some c
 | [],acc,_,Y=>⟨acc,by simp,Y,λ_ h=>(ï h).elim,λx c h=>⟨c,h⟩⟩
 |(y,k)::r,acc,W,Y=>by
  by_cases V:k=.free
  ·subst V
   obtain⟨c,e⟩:=W y Ø;have Q:∀x Z,((y,c)::acc).lookup x=some Z->env.cells.lookup x=some Z:=λx Z h=>by
    rw[ğ] at h;split at h
    ·rename_i q
     have q:x=y:=by simpa using q
     cases h;rw[q];exact e
    ·exact Y x Z h
   obtain⟨cl,U,T,S,X⟩:=zK r ((y,c)::acc) (λx h=>W x (Ï _ h)) Q;have R:∃c,cl.lookup y=some c:=X y c (by rw[ğ];simp);refine⟨cl,?_,T,λx h=>?_,λx Z h=>?_⟩
   ·rw[aaO]
    simp only[ą,ô,cellOf,e,pure_bind];exact U
   ·rcases Ô.mp h with q|q
    ·cases q;exact R
    ·exact S x q
   ·by_cases q:x=y
    ·rw[q];exact R
    ·exact X x Z (by rw[ğ,show (x==y)=false by simpa using q];exact h)
  ·obtain⟨cl,U,T,S,X⟩:=zK r acc (λx h=>W x (Ï _ h)) Y
   refine⟨cl,?_,T,λx h=>?_,X⟩
   ·rw[aaO]
    have P:(k==ë)=false:=by simpa using V
    simp only[P,Â,ä,pure_bind];exact U
   ·rcases Ô.mp h with q|q
    ·cases q;exact absurd rfl V
    ·exact S x q
def QP {env:Env} {scope:ſ} (hc:∀x,(x,ë)∈scope.names->∃c,env.cells.lookup x=some c):∃cl,closureFor scope env=pure cl/\Wi env scope.names cl:=by
 obtain⟨cl,Z,Y,X,_⟩:=zK scope.names [] hc (λx c h=>by cases h);refine⟨cl,?_,Y,X⟩;unfold closureFor;simp only[pure_bind,bind_pure];exact Z
noncomputable abbrev wU (q:Str) (params:abR) (body:Ġ) (scope:ſ) (cl:List (Str×Ú)) (pm:Å) (c':Ú) (hW:Å):Obj:=kla_obj "<lambda>" q params body scope cl pm c' hW
section
variable {X:Cx} {π:List (Ú×Obj)} {σ:St} {H:Hp} {s:Ä}
def Inv.table {P c':Ú} {ps yA:Array Å} {oc:Obj} {h':Ī} {t':Nat} (I:Inv X π σ H s) (hP:H P=some (.dD ps)) (hx:aaA P s.heap h') (hc:s.heap.objs.size<=c') (ml:h'.get? c'=some oc) (ht:h'.get? P=some (tabObj (ps++yA))) :
  Inv X π σ (upd (upd H c' (.aV oc (.own c'))) P (.dD (ps++yA))) { s with heap:=h',toks:=t' }:=by
 have Y:H c'=none:=I.aC.fresh hc;have U:c'≠P:=λz=>by rw[z,hP] at Y;cases Y
 have ne:∀b u,H b=u->u≠some (.dD ps)->b≠P:=λb u e d z=>by rw[z,hP] at e;exact d e.symm
 have at_:∀b u,H b=some u->b≠P->upd (upd H c' (.aV oc (.own c'))) P (.dD (ps++yA)) b=some u:=λb u e n=>by rw[aX n,aX (cV e Y)];exact e
 refine I.un ⟨λb o e n _ _=>hx b o (ne b _ n (by intro z;cases z)) e,λb o e n _ _=>⟨o.slots,hx b o (ne b _ n (by intro z;cases z)) e⟩,λb o e n _=>?_,λb o e _=>?_,λb V e=>at_ b _ e (ne b _ e (by intro z;cases z)),λb o u e=>at_ b _ e (ne b _ e (by intro z;cases z)),λb T e=>?_⟩ λb u e=>?_
 ·rw[aX (ne b _ n (by intro z;cases z)),aX (ß (Ç (Ì e) hc))];exact n
 ·by_cases Z:b=P
  ·exact⟨_,Z ▸ ht⟩
  ·exact⟨o,hx b o Z e⟩
 ·by_cases Z:b=P
  ·subst Z
   rw[hP] at e;cases e;exact⟨yA,cu⟩
  ·exact⟨#[],by rw[at_ b _ e Z];simp⟩
 ·by_cases Z:b=P
  ·subst Z
   rw[cu] at e;cases e;exact ht
  ·rw[aX Z] at e
   by_cases W:b=c'
   ·subst W
    rw[cu] at e;cases e;exact⟨ml,oc,ml⟩
   ·rw[aX W] at e
    refine(I.aC b u e).dU (λc v hc q=>hx c v ?_ q) (λc q=>at_ c _ q (ne c _ q (by intro z;cases z))) λc V q=>at_ c _ q (ne c _ q (by intro z;cases z))
    rcases hc with z|z
    ·rw[z];exact Z
    ·exact ne c _ z (by intro z;cases z)
def QQ {params:abR} {body:Ġ} {scope:ſ} {gk:Pos} {cl:List (Str×Ú)} {c P:Ú} {ps:Array Å} {E:Å->Ä->Prop} {A:î} {Q:Å->Ä->Prop} (I:Inv X π σ H s) (cP:closureFor scope X.env=pure cl) (xo:X.env.code=.ref c) (C:CodeHd X.base c P) (hb:X.base.BuiltinsAt X.mg P)
  (hP:H P=some (.dD ps)) (ht:TriplesOk ps.toList) (Co:defaultsOf params X.env=([],[]))
  (XE:∀cv,codeAmong gk ps.toList=some cv->∃c' oc vs t,cv=.ref c'/\H c'=some (.aV oc (.own c'))/\oc.data=.fields vs/\vs[1]?=some (.str (X.env.qual++"<lambda>") t))
  (h:∀(f c':Ú) (hW:Å) (oc:Obj) (vs:Array Å) (t:Tok) (H1:Hp) (s1:Ä),Inv X π σ H1 s1->s.heap.objs.size<=f->H1 f=none->s1.heap.get? f=some (wU (X.env.qual++"<lambda>") params body scope cl ((X.mg "__name__").getD .none) c' hW)->H1 c'=some (.aV oc (.own c'))->oc.data=.fields vs->vs[1]?=some (.str (X.env.qual++"<lambda>") t) ->
   (H1=H\/(H c'=none/\c'≠P/\H1=upd (upd H c' (.aV oc (.own c'))) P (.dD (ps++#[ω gk.line,ω gk.col,.ref c']))/\TriplesOk (ps++#[ω gk.line,ω gk.col,.ref c']).toList))->Q (.ref f) s1) :
  Û (ã X.prog X.w) A (ļ (.Lambda params body scope gk) X.env) Q E s:=by
 have Y:s.heap.get? P=some (tabObj ps):=I.aC P _ hP;have M:CodeHd s.heap c P:=C.keeps I.bk
 have L:s.heap.BuiltinsAt X.mg P:=let ⟨bm,o,a1,a2,G,F,D,r⟩:=hb;⟨bm,o,a1,a2,G,F,I.bk _ _ D,r⟩
 have W:s.heap.Ns Ö X.mg:=I.ok.mod.glob.keeps I.bk;have B:Ö≠P:=λq=>by
  obtain⟨o,g,d,e,V,_⟩:=W;rw[q,Y] at e;cases e;cases V
 refine kla_eval Co ?_
 cases U:codeAmong gk ps.toList with
 |some cv =>
  obtain⟨c',oc,vs,t,rfl,y,x,v⟩:=XE cv U;refine kla_makeFunctionHit cP I.ok.glob W xo M Y ht U L λhW h' T u Z=>?_
  have S:Inv X π σ H { s with heap:=h'.push (wU (X.env.qual++"<lambda>") params body scope cl ((X.mg "__name__").getD .none) c' hW),toks:=T }:=I.kept λb o e=>Á _ (u b o e)
  exact h _ c' hW oc vs t H _ S Z (I.aC.fresh Z) (Í _ rfl) y x v (.inl rfl)
 |none =>
  refine kla_makeFunction cP I.ok.glob W xo M Y ht U B L λc' hW h' T p R K m l=>?_;obtain⟨c₂,oc,vs,t,e2,k,V,j⟩:=m;cases e2;have O:H c'=none:=I.aC.fresh R;have J:c'≠P:=λz=>by rw[z,hP] at O;cases O
  have S:=I.table (t':=T) hP (h':=h'.push (wU (X.env.qual++"<lambda>") params body scope cl ((X.mg "__name__").getD .none) c' hW)) (λb o n e=>Á _ (p b o n e)) R (Á _ k) (Á _ l);have N:s.heap.objs.size<=h'.objs.size:=à R (Nat.le_of_lt K);have i:h'.objs.size≠P:=λz=>by have:=Ì Y;rw[<- z] at this;exact absurd (Ç this N) (ñ _)
  refine h _ c' hW oc vs t _ _ S N ?_ (Í _ rfl) ?_ V j (.inr ⟨O,J,rfl,?_⟩)
  ·rw[aX i,aX (š K)];exact I.aC.fresh N
  ·rw[aX J,cu]
  ·rw[Array.toList_append]
   exact TriplesOk_snoc _ _ _ _ ht
end
def O6 {pos:Pos} {c cv:Å} {a b:Int} (l:List Å) (h:TriplesOk l) (e:codeAmong pos (l++[ω a,ω b,c])=some cv):codeAmong pos l=some cv\/cv=c:=by
 fun_induction TriplesOk l with
 |case1 =>
  simp only[Ķ,codeAmong,ω] at e;split at e
  ·cases e;exact .inr rfl
  ·cases e
 |case2 a t b u x rest ih =>
  simp only[Ę,codeAmong] at e |-;split
  ·rename_i q;rw[Þ q] at e;exact .inl e
  ·rename_i q;rw[ì q] at e;exact ih h e
 |case3 l Z Y=>exact h.elim
def rM (P:â) (w:Ą) (K:Ē) (mg:Str->Option Å) (base:Ī) (N:List Str) (qual:Str) (scope:ſ) (f:Ú) (cd:Å) (cl:List (Str×Ú)) (A:î) (outer:List Env) (s:Ä) (H:Hp) (E:XK):Cx where
 prog:=P
 w:=w
 K:=K
 mg:=mg
 base:=base
 A:=A.deeper (envX qual scope s.heap.objs.size f cd cl)
 N:=N
 cM:=s
 kQ:=H
 env:=envX qual scope s.heap.objs.size f cd cl
 outer:=outer
 stack:=envX qual scope s.heap.objs.size f cd cl::outer
 ex:=[]
 calm:=true
 fn:=λ_=>false
 pn:=[]
 xe:=λe Y=>Û (ã P w) (A.deeper (envX qual scope s.heap.objs.size f cd cl)) (leaving (envX qual scope s.heap.objs.size f cd cl) e) (λ_ Z=>gw P w outer H s E e Z) (λX Z=>gw P w outer H s E X Z) Y
structure QR (N:List Str) (scope:ſ):Prop where
 co:scope.isCoroutine=false
 gen:scope.isGenerator=false
 kind:scope.kind=.function
 sF:∀x∈scope.names,x.2≠.cell
def UR {P:â} {w:Ą} {K:Ē} {mg:Str->Option Å} {base:Ī} {k:Nat} {f c':Ú} {N:List Str} {q:Str} {params:abR} {body:Ġ} {scope:ſ} {cl:List (Str×Ú)} {pm hW:Å} {vs:List V} {t:XK->TE} {oc:Obj} {fs:Array Å} {tq:Tok}
  (S:QR N scope) (ho:base.get? f=some (wU q params body scope cl pm c' hW)) (hl:N.length=vs.length)
  (inj:∀x y c,cl.lookup x=some c->cl.lookup y=some c->x=y) (has:∀x,scope.names.lookup x=some .free->∃c,cl.lookup x=some c) (jV:∀x c,cl.lookup x=some c->∃v,base.IsCell c v)
  (hv:∀(i:Nat) x v,N[i]?=some x->vs[i]?=some v->scope.names.lookup x=some .free/\∃c u,cl.lookup x=some c/\base.IsCell c (some u)/\RelV v u)
  (mH:oc.data=.fields fs) (fJ:fs[1]?=some (.str q tq))
  (jW:∀(A:î) (outer:List Env) (s:Ä) (H:Hp) (E:XK),bP k (A.deeper (envX q scope s.heap.objs.size f (.ref c') cl))->Lv (rM P w K mg base N q scope f (.ref c') cl A outer s H E) E->PE (rM P w K mg base N q scope f (.ref c') cl A outer s H E) body (t E)) :
  cR P w K mg base (gw P w) (k+1) f (kla_fn "<lambda>" q params body scope cl pm (.ref c') hW) [] (λus H Q E=>us=[]/\H c'=some (.aV oc (.own c'))/\t E (vs.map some) H Q):=by
 refine⟨λus H Q E h=>by rw[h.1];rfl,λA outer s H args us Y3 Q E W Z R r O=>?_⟩;obtain⟨_,M,L⟩:=O;have lim:s.heap.NoLimit:=Z.mod.nolimit.keeps λb o e=>(Z.bs b o e).1;have bk:∀b o,base.get? b=some o->s.heap.get? b=some o:=λb o e=>(Z.bs b o e).1;have G:s.heap.CodeRec (.ref c') q:=⟨c',oc,fs,tq,rfl,(Z.aC c' _ M).1,mH,fJ⟩;refine kla_callFunE W.depth (bk _ _ ho) rfl S.co S.gen rfl G (R _ _ _ _ ?_);refine wpAny_newFunctionEnv S.sF (λx F=>absurd F (by simp)) (λT D C=>?_) S.kind;have Y:∀b o,s.heap.get? b=some o->T.get? b=some o:=λb o e=>C.extBut b o (ß (Ì e)) (Á _ e);refine⟨lim.keeps Y,?_⟩;show δ _ _ (.expr body (envX q scope s.heap.objs.size f (.ref c') cl)) _ _;have B:bP k (A.deeper (envX q scope s.heap.objs.size f (.ref c') cl)):=W.deeper _;have n:∀c v,base.IsCell c v->H c=none:=λc v ⟨o,e,_⟩=>(Z.bs c o e).2;have U:∀b:Ú,b∉(rM P w K mg base N q scope f (.ref c') cl A outer s H E).ex:=λb z=>absurd (show b∈([]:List Ú) from z) (by simp)
 have I:Inv (rM P w K mg base N q scope f (.ref c') cl A outer s H E) [] (vs.map some) H { s with heap:=T,toks:=s.toks+([]:List (Str×Å)).length }:=by
  refine⟨⟨Z.mod,S.kind,rfl,rfl,ab3 _,inj,λy hy=>?_,λy c h=>absurd h Õ,λ_=>W.hd,Around.frames_deeper Z.frames,.inr ⟨rfl,rfl⟩,λb z=>absurd z (U b),Z.bs,Z.iz,λb _ _=>U b,λb z=>absurd z (U b),Z.iw,Z.lh⟩,
   rfl,Z.bare,Un.kept Y,⟨_,D,λi y v m X h3=>?_⟩,λy c h=>?_,Z.aC.fresh (ab3 _),λy c h=>?_,λp l=>absurd (show p∈([]:List (Ú×Obj)) from l) (by simp),Z.aC.kept Y,?_⟩
  ·have hy:scope.names.lookup y=some .cell\/scope.names.lookup y=some .free:=hy
   rcases hy with hy|hy
   ·exact absurd rfl (S.sF _ (Į hy))
   ·exact has y hy
  ·have j:vs[i]?=some v:=by
    rw[í] at X
    cases e:vs[i]? with
    |none=>rw[e] at X;cases X
    |some a=>rw[e] at X;cases X;rfl
   obtain⟨g,c,u,e1,e2,d⟩:=hv i y v m j;exact⟨u,d,.inr ⟨.inr g,c,e1,(e2.keeps bk).keeps Y⟩⟩
  ·obtain⟨v,e⟩:=jV y c h
   exact⟨v,(e.keeps bk).keeps Y⟩
  ·obtain⟨v,e⟩:=jV y c h
   exact n c v e
  ·rw[É];exact hl.symm
 refine kla_codeExpr (Ĕ (jW A outer s H E B ⟨rfl,rfl,rfl,rfl⟩ [] _ (vs.map some) H Q I L) (λu s' h=>?_) λe s' h=>h);obtain⟨v,H',J,rv,z⟩:=h;exact⟨v,H',J.os,J.bare,J.base,J.aC,rv,z⟩
end L2
namespace DI
open PySem L2 PySem.W
def Wk (pre:Hp->Prop):Prop:=∀H Z:Hp,(∀b o u,H b=some (.aV o u)->Z b=some (.aV o u))->pre H->pre Z
def yD (P:â) (w:Ą) (K:Ē) (mg:Str->Option Å) (base:Ī) (k:Nat) (pre:Hp->Prop) (f:Ú) (vs:List V) (ds:List D) (th:aa->Res D):Prop :=
 Wk pre/\∃fd,(∃o,base.get? f=some o/\o.data=.func fd)/\Binds K fd [] [] /\
  cR P w K mg base (gw P w) k f fd [] (λX H Q E=>X=[]/\pre H/\∃Z:Wd,Z.H=H/\aI K Z/\ak K Z ds vs/\Out K (i8 mg E) Z (th Z.aw) λY d=>∀v,DV K Y d v->Q v Y.H)
def rN (cl:D) (th:aa->Res D) (i:Nat):abZ D:=λenv s=>open Classical in if env[i]?=some (some cl) then th s else none
section
variable {X:Cx} {E:XK} {Ξ:Wd->aT->Prop} {pos:Pos}
end
def spT (K:Ē) (pre:Hp->Prop) (cl:D) (fn:List D->aa->Res D):Sp:=λY H Q _=>pre H/\∃w:Wd,w.H=H/\aI K w/\ak K w [cl] Y/\Out K bL w (fn [cl] w.aw) λZ d=>∀v,DV K Z d v->Q v Z.H
def Wl {P:â} {w:Ą} {K:Ē} {mg:Str->Option Å} {base:Ī} {x:Str} {st:abM} {f:Ú} {fd:ĝ} {ps:List Str} {k:Nat} {b:abZ Fl} {pre:Hp->Prop} {cl:D} (G:Gd K mg x st ps f fd) (N:List Str) (S:pk N ps (cG st)=true)
  (hb:N.Nodup->∀(aS:Å) (A:î) (outer:List PySem.Env) (s:Ä) (H:Hp) (E:XK),pre H->bP k (A.deeper (Ń x (cG st) s.heap.objs.size f aS))->cS (gR dg P w K mg base N x (cG st) f aS A outer s H E).mq (ie st) (tS K bL b)) :
  cR P w K mg base dg (k+1) f fd ps (spT K pre cl (aM ps.length N.length b)):=by
 refine G.fn.ok (kG S) (λW H Q E h=>?_) (λaS A outer s H W Q E V h=>?_)
 ·obtain⟨_,w,rfl,S,Y,h⟩:=h
  rw[<- Y.length];unfold aM at h;split at h
  ·assumption
  ·exact h.elim
 ·obtain⟨U,w,rfl,T,Y,h⟩:=h
  refine⟨_,hb (kG S).nd aS A outer s w.H E U V,?_⟩;unfold aM at h;split at h
  ·rename_i R
   rw[<- R] at h;refine⟨w,_,rfl,T,Y.env N.length,(Out.aj h).mono λM O L X Z=>?_⟩
   cases O with
   |nx env=>intro J _;exact au X Z _ rfl
   |rt d=>have q:=au X Z;exact q
   |bk env=>exact Z.elim
   |ct env=>exact Z.elim
  ·exact h.elim
def m9 (env:Env):List Nat->Option (List D)
 | []=>some []
 |i::r=>match env[i]?,m9 env r with
  |some (some d),some Z=>some (d::Z)
  |_,_=>none
theorem GS {K:Ē} {w:Wd} {env:Env} {σ:St} (eo:bG K w env σ):∀{caps:List Nat} {ds:List D},m9 env caps=some ds->∃vs,ak K w ds vs/\∀(i:Nat) j v,caps[i]?=some j->vs[i]?=some v->σ[j]?=some (some v)
 | [],ds,h=>by cases h;exact⟨[],rfl,λi j v h=>by simp at h⟩
 |j::r,ds,h=>by
  unfold m9 at h;split at h
  ·rename_i d R e1 e2
   cases h;obtain⟨v,X,W⟩:=eo.val j d e1;obtain⟨vs,V,U⟩:=GS eo e2;refine⟨v::vs,⟨v,vs,rfl,W,V⟩,λi T S Z Y=>?_⟩
   cases i with
   |zero=>cases Z;cases Y;exact X
   |succ i=>exact U i T S (by simpa using Z) (by simpa using Y)
  ·cases h
def uj (x:Str) (caps:List Nat) (fb:abZ D) (g:D->(aa->Res D)->List D->aa->Res D):abZ D:=λenv s=>match (m9 env caps:Option (List D)) with
 |some Z=>match (s[0]?:Option Cell) with
  |some (.tb y)=>if decide (y=x)=true then ne (g .ao (fb (Z.map some)) [.ao] s) else none
  |_=>none
 |none=>none
noncomputable def II (dN N:List Str) (caps:List Nat) (LD sc:ſ):Bool:=decide (sc.kind=.function)&&!sc.isCoroutine&&!sc.isGenerator&&sc.names.all (λy=>decide (y.2≠.cell))&&decide (N.length=caps.length) &&
 (N.zip caps).all (λp=>decide (dN[p.2]?=some p.1)&&decide (LD.names.lookup p.1=some .cell)&&decide (sc.names.lookup p.1=some .free))&&sc.names.all (λy=>decide (y.2≠.free)||decide (LD.names.lookup y.1=some .cell))
abbrev LF (P:â) (w:Ą) (K:Ē) (mg:Str->Option Å) (x:Str) (st:abM) (ps:List Str) (k kt:Nat) (g:D->(aa->Res D)->List D->aa->Res D):Prop :=
 ∀{base:Ī} {pre:Hp->Prop} {f:Ú} {vs:List V} {ds:List D} {th:aa->Res D},yD P w K mg base kt pre f vs ds th->∀{gA:Ú} {fd:ĝ},Gd K mg x st ps gA fd->cR P w K mg base dg k gA fd ps (spT K pre (.cA f vs ds) (g (.cA f vs ds) th))
section
variable {X:Cx} {Ξ:Wd->aT->Prop} {pos:Pos}
def ng (X:Cx) (H:Hp) (s:Ä):Ī:=hideAll s.heap (b9 X.stack++rf s.heap H)
def vK {H:Hp} {s:Ä} {b:Ú} {o:Obj} (e:s.heap.get? b=some o) (n:H b=none) (hf:b∉b9 X.stack):(ng X H s).get? b=some o:=hideAll_get _ e λz=>by
 rcases ċ.mp z with z|z
 ·exact hf z
 ·unfold rf at z
  have:=(Ĳ.mp z).2;rw[n] at this;cases this
def GU {H:Hp} {s:Ä} {b:Ú} {o:Obj} (e:(ng X H s).get? b=some o):s.heap.get? b=some o/\H b=none/\b∉b9 X.stack:=by
 have e1:=of_hideAll _ e;refine⟨e1,?_,λz=>?_⟩
 ·cases q:H b with
  |none=>rfl
  |some u =>
   have:(ng X H s).get? b=none:=hideAll_none _ (Î _ (Ĳ.mpr ⟨ú.mpr (Ì e1),by rw[q];rfl⟩));rw[e] at this;cases this
 ·have:(ng X H s).get? b=none:=hideAll_none _ (ā _ z)
  rw[e] at this;cases this
def _root_.L2.Inv.US {π:List (Ú×Obj)} {σ:St} {H:Hp} {s:Ä} (I:Inv X π σ H s):∀b o,X.base.get? b=some o->(ng X H s).get? b=some o:=λb o e=>vK (I.bs b o e).1 (I.bs b o e).2 λz=>by
 have:=(I.stack.mem z).1;rw[e] at this;cases this
def _root_.L2.Inv.Wm {π:List (Ú×Obj)} {σ:St} {H:Hp} {s:Ä} (I:Inv X π σ H s):qP X.prog X.w X.K X.mg (ng X H s) X.A X.stack s H:=by
 have k:=I.US;refine⟨I.ok.frames,⟨I.ok.mod.ka.keeps k,I.ok.mod.glob.keeps k,?_,I.ok.mod.nolimit.keeps k⟩,λb o e=>⟨(GU e).1,(GU e).2.1⟩,Nat.le_of_eq (hideAll_size _ _),?_,I.sr,I.aC,I.bare⟩
 ·obtain⟨Z,Y,W⟩:=I.ok.mod.blt
  exact⟨Z,Y.keeps k,W⟩
 ·refine funFrames_hide I.stack λenv V a U=>ā _ ?_
  unfold b9;exact aaJ.mpr ⟨env,V,U⟩
def Wn {x g:Str} {p gk:Pos} {params:abR} {body:Ġ} {sc:ſ} {c P:Ú} {LG:abM} {LH:List Str} {k n kb:Nat} {gf:D->(aa->Res D)->List D->aa->Res D} {fb:abZ D} (N:List Str) {caps:List Nat}
  (xo:X.env.code=.ref c) (JP:X.env.qual=x++".<locals>.") (ht:tabIn X.K x=some (c,P)) (hC:codeHdIn X.K c P=true) (hb:X.base.BuiltinsAt X.mg P)
  (G:GG X.K X.mg g LG LH) (F:LF X.prog X.w X.K X.mg g LG LH k (kb+1) gf) (XH:∀cl th s,gf cl th [cl] s=gf .ao th [.ao] s) (hr:bP n X.A)
  (jW:∀(base:Ī) (q:Str) (f:Ú) (cd:Å) (cl:List (Str×Ú)) (A:î) (outer:List PySem.Env) (s:Ä) (H:Hp) (E:XK),bP kb (A.deeper (envX q sc s.heap.objs.size f cd cl))->Lv (rM X.prog X.w X.K X.mg base N q sc f cd cl A outer s H E) E->PE (rM X.prog X.w X.K X.mg base N q sc f cd cl A outer s H E) body (tE X.K (i8 X.mg E) fb))
  (hk:k<=n:=by decide) (Cp:II X.N N caps X.env.scope sc=true:=by kernel_rfl) (uy:∀x,X.fn x=true:=by intro _;rfl) (Bq:∀(cl:List (Str×Ú)) (pm:Å) (c':Ú) (hW:Å),bindArgs (kla_fn "<lambda>" (x++".<locals>."++"<lambda>") params body sc cl pm (.ref c') hW) ⟨[],[]⟩=pure []:=by intros;rfl)
  (Co:defaultsOf params X.env=([],[]):=by rfl) (hg:Gl X g:=by rfl) (df:(g==("__debug__":Str))=false:=by decide)
  (he:Ë [.Lambda params body sc gk] X.env=(false,ļ (.Lambda params body sc gk) X.env)::Ë [] X.env:=by rfl) (bw:(Ħ pos (Ë [] X.env)).any (·.1)=false:=by rfl) :
  PE X (.Call (.Name g p) [.Lambda params body sc gk] [] pos) (tE X.K Ξ (uj x caps fb gf)):=by
 intro π s σ H Q I aq;have C:=codeHd_of_K I.ok.mod.ka hC;obtain⟨w,env,eH,S,eo,h⟩:=aq;subst eH;unfold uj at h
 cases lB:m9 env caps with
 |none=>rw[lB] at h;exact h.elim
 |some W =>
 rw[lB] at h
 cases U:w.aw[0]? with
 |none=>simp only[U] at h;exact h.elim
 |some c0 =>
 simp only[U] at h
 cases c0 with
 |dead=>exact h.elim
 |lst _=>exact h.elim
 |dK _=>exact h.elim
 |dT _=>exact h.elim
 |ins _ _=>exact h.elim
 |tb y =>
 dsimp only at h;by_cases hy:y=x
 case neg=>rw[ì (by simpa using hy)] at h;exact h.elim
 rw[Þ (by simpa using hy)] at h;subst hy;obtain⟨vs,ai,Zb⟩:=GS eo lB;obtain⟨a,ha⟩:∃a,w.ρ[0]?=some a:=by
  have:=S.len
  cases Zc:w.ρ with
  |nil=>rw[Zc] at this;have h0:=(È.mp U).1;rw[<- this] at h0;simp at h0
  |cons a r=>exact⟨a,rfl⟩
 have XI:=S.cell 0 a _ ha U;obtain⟨c2,ps,t1,t2,t3,t4⟩:=XI;rw[ht] at t1;cases t1;unfold II at Cp;simp only[Æ,aaP,Ě,Ê,æ] at Cp;obtain⟨⟨⟨⟨⟨⟨k1,k2⟩,k3⟩,k4⟩,k5⟩,k6⟩,k7⟩:=Cp;obtain⟨cl,cP,R⟩:=QP (env:=X.env) (scope:=sc) λz hz=>by
  rcases k7 _ hz with q|q
  ·exact absurd rfl q
  ·exact I.ok.has z (.inl q)
 obtain⟨gA,fdg,G⟩:=G;refine Ž (qm I hg G.mg ?_ df);refine abI (h₀:=X.base) I.ok.mod.ka G.fn.kp ?_ he bw;rw[he];show Û _ _ (spliced ((false,ļ (.Lambda params body sc gk) X.env)::Ħ pos (Ë [] X.env))) _ _ s;refine aaM (QQ I cP xo C hb t2 t3 Co (λcv q=>?_) λf c' hW oc fs tq H1 J Y hf KH DN gX mH fJ hH=>?_)
 ·rw[JP]
  obtain⟨c',oc,fs,t,r1,r2,r3,r4⟩:=t4 gk cv q;exact⟨c',oc,fs,t,r1,r2.2,r3,r4⟩
 rw[JP] at DN fJ;refine Calls.spliced_nil ⟨Y.iA,?_⟩;have W1:∃V:Wd,V.H=H1/\aI X.K V/\Le X.K w V/\V.aw=w.aw:=by
  rcases hH with rfl | ⟨hn,yB,rfl,C6⟩
  ·exact⟨w,rfl,S,Le.refl w,rfl⟩
  ·have S2:=S.grow (o:=.aV oc (.own c')) hn
   have O:=(Fw.grow (K:=X.K) (o:=.aV oc (.own c')) hn).le;have l2:=(Fw.put (o:=.dD (ps++#[ω gk.line,ω gk.col,.ref c'])) (c:=.tb y) S2 ha U (by intro z;cases z)).le;refine⟨(w.grow c' (.aV oc (.own c'))).put 0 P (.dD (ps++#[ω gk.line,ω gk.col,.ref c'])) (.tb y),rfl,S2.xF ha U (by intro z;cases z) ⟨c,_,ht,cu,C6,λpos cv e=>?_⟩,O.trans l2,?_⟩
   ·rw[Array.toList_append] at e
    rcases O6 _ t3 e with e|e
    ·obtain⟨c3,o3,v3,Zd,r1,r2,r3⟩:=t4 pos cv e
     exact⟨c3,o3,v3,Zd,r1,(O.trans l2).aV c3 o3 _ r2.1 r2.2,r3⟩
    ·refine⟨c',oc,fs,tq,e,?_,mH,fJ⟩
     exact l2.aV c' oc _ (λz=>kD S hn z) cu
   ·exact χ λi=>by
     show (w.aw.set 0 (.tb y))[i]?=w.aw[i]?
     cases i with
     |zero=>rw[ê (È.mp U).1,U]
     |succ i=>rw[Ý (by omega)]
 obtain⟨V,rfl,S1,O,es⟩:=W1;have cells:∀z Z,cl.lookup z=some Z->∀v,J.heap.IsCell Z v->(ng X V.H J).IsCell Z v:=λz Z e v ⟨o,ho,hd⟩=>by
  have e2:=R.tI z Z e;refine⟨o,vK ho (Y.ip z Z e2) λq=>?_,hd⟩
  rcases Ô.mp (Y.jO _ q) with q|q
  ·exact Y.jy z Z e2 q
  ·obtain⟨_,o2,gJ,_⟩:=Y.ok.iw.mem q
   exact absurd (Ì gJ) (Nat.not_lt.mpr (Y.ok.rg z Z (uy z) e2))
 have KI:f∉b9 X.stack:=λq=>by
  obtain⟨_,o2,gJ,_⟩:=I.stack.mem q;exact absurd (Ì gJ) (Nat.not_lt.mpr hf)
 have nl:N.length=vs.length:=by
  have e1:=ai.length;have e2:∀(cs:List Nat) (W:List D),m9 env cs=some W->W.length=cs.length:=λcs=>by
   induction cs with
   |nil=>intro W h;cases h;rfl
   |cons i r ih =>
    intro W h;unfold m9 at h;split at h
    ·cases h;rename_i e;simp[ih _ e]
    ·cases h
  rw[k5,<- e2 caps W lB,e1]
 have T:yD X.prog X.w X.K X.mg (ng X V.H J) (kb+1) (λH=>H c'=some (.aV oc (.own c'))) f vs W (fb (W.map some)):=by
  refine⟨λH H' st q=>st _ _ _ q,_,⟨_,vK DN KH KI,rfl⟩,Binds.all λus hl=>?_,(UR (t:=λE=>tE X.K (i8 X.mg E) fb) (vs:=vs) (oc:=oc) ⟨k2,k3,k1,k4⟩ (vK DN KH KI) nl (λz1 z2 Z M B=>Y.ok.inj z1 z2 Z (R.tI _ _ M) (R.tI _ _ B)) (λz hz=>R.all z (Į hz)) (λz Z e=>?_) (λi z v M B=>?_) mH fJ
   (λA outer s H E hr L=>jW _ _ f (.ref c') cl A outer s H E hr L)).imp λus H Q E h=>?_⟩
  ·have:us=[]:=List.eq_nil_of_length_eq_zero (by simpa using hl)
   subst this;exact Bq _ _ _ _
  ·obtain⟨v,q⟩:=Y.cell z Z (R.tI z Z e)
   exact⟨v,cells z Z e v q⟩
  ·have hi:i<caps.length:=by
    have:=(È.mp M).1;rw[k5] at this;exact this
   obtain⟨j,hj⟩:∃j,caps[i]?=some j:=⟨caps[i],Ð hi⟩;have hm:(z,j)∈N.zip caps:=by
    refine Ŧ (i:=i) ?_;rw[List.getElem?_zip_eq_some];exact⟨M,hj⟩
   obtain⟨⟨q1,q2⟩,q3⟩:=k6 _ hm;obtain⟨m,hn,hl⟩:=Y.loc;obtain⟨u,r,lk⟩:=hl j z v q1 (Zb i j v hj B) (.inr (.inl q2));refine⟨q3,?_⟩
   rcases lk with ⟨lk,_⟩ | ⟨_,Z,e1,e2⟩
   ·rw[show X.env.kindOf z=X.env.scope.names.lookup z from rfl,q2] at lk;cases lk
   ·obtain⟨c3,e3⟩:=R.all z (Į q3)
    have e4:=R.tI z c3 e3;rw[e1] at e4;cases e4;exact⟨Z,u,e3,cells z Z e3 _ e2,r⟩
  ·obtain⟨M,B,w',rfl,S',lF,hh⟩:=h
   refine⟨M,B,w',W.map some,rfl,S',⟨?_,λi d e=>?_⟩,hh⟩
   ·rw[É,É];exact lF.length
   ·rw[í] at e
    cases q:W[i]? with
    |none=>rw[q] at e;cases e
    |some d' =>
     rw[q] at e;cases e;obtain⟨v,e1,e2⟩:=lF.get' i d q;exact⟨v,by rw[í,e1];rfl,e2⟩
 have hq:=(h.from O).ne;rw[<- es,<- XH (.cA f vs W)] at hq;refine abv (Ŏ ((F T G).run X.A X.stack J V.H ⟨[.ref f],[]⟩ [.ref f] [.ref f] Q (λ_ _ _=>False) (hr.mono hk) Y.Wm (G.b J [.ref f] Y.iA ?_) (.cons rfl .nil) ⟨gX,V,rfl,S1,⟨.ref f,[],rfl,⟨rfl,O.all ai⟩,rfl⟩,hq⟩) λr s' l=>?_)
 ·have:=(F T G).len [.ref f] V.H Q (λ_ _ _=>False) ⟨gX,V,rfl,S1,⟨.ref f,[],rfl,⟨rfl,O.all ai⟩,rfl⟩,hq⟩
  simpa using this
 ·cases r with
  |error e=>exact l.elim
  |ok fl =>
   cases fl with
   |ret u=>exact Y.after l
   |next=>exact ĕ l
   |brk=>exact ĕ l
   |cont=>exact ĕ l
end
end DI
namespace L2
open PySem PySem.Spec PyProof.Rows PySem.W
section
variable {X:Cx} {π:List (Ú×Obj)} {σ:St} {H:Hp} {s:Ä}
def wu {M:Model} {A:î} {E:Å->Ä->Prop} {i:Nat} {x:Str} {pos:Pos} {Q:Unit->Ä->Prop} (I:Inv X π σ H s) (hN:X.N.Nodup) (hi:X.N[i]?=some x) (hk:X.env.scope.names.lookup x=some .local) (h:∀s',Inv X π (σ.set i none) H s'->Q () s') :
  Û M A (do abc X.env x .none;unbindBehindTheSuite X.env x pos) Q E s:=by
 obtain⟨m,V,S⟩:=id I.loc;have R:(X.env.scope.kind==.class||(X.env.scope.kind==.module&&X.env.locals != X.env.globals))=false:=by rw[I.ok.kind];rfl
 have jy:=I.jy;refine wpAny_nameGoes_keeps hk V R λu v P hs=>?_;obtain⟨t,_,_,r,_⟩:=id V;refine h _ ⟨I.ok,I.os,I.bare,⟨λb o e n Y Z=>?_,λb o e n Y Z=>?_,I.base.free,λb o e Z=>?_,I.base.fe,I.base.eD,I.base.ff⟩,⟨_,P,λj y O e1 e2 L=>?_⟩,λy c e=>?_,I.free,I.ip,λp K=>?_,λb J e=>?_,by rw[Č];exact I.len⟩
 ·exact(hs.2 b (ß (Ç (Ì e) I.ok.above))).trans (I.base.keep b o e n Y Z)
 ·obtain⟨G,e1⟩:=I.base.slot b o e n Y Z
  exact⟨G,(hs.2 b (ß (Ç (Ì e) I.ok.above))).trans e1⟩
 ·obtain⟨F,e1⟩:=I.base.there b o e Z
  exact⟨F,(hs.2 b (ß (Ç (Ì e) I.ok.above))).trans e1⟩
 ·by_cases W:j=i
  ·subst W
   have U:=(È.mp e2).1;rw[Č] at U;rw[ê U] at e2;cases e2
  ·rw[Ý (Ź W)] at e2
   obtain⟨D,C,q⟩:=S j y O e1 e2 L;refine⟨D,C,?_⟩
   rcases q with ⟨k,e⟩ | ⟨k,c,e,z⟩
   ·refine .inl ⟨k,?_⟩
    have:y≠x:=λe=>W (zy hN e1 (e ▸ hi));simp[this,e]
   ·exact .inr ⟨k,c,e,z.sameBut hs (jy y c e)⟩
 ·obtain⟨T,z⟩:=I.cell y c e
  exact⟨T,z.sameBut hs (jy y c e)⟩
 ·obtain⟨e,n,ne,B,d⟩:=I.pin p K
  exact⟨(hs.2 p.1 ne).trans e,n,ne,B,d⟩
 ·refine(I.aC b J e).dU (λc T w q=>(hs.2 c ?_).trans q) (λ_ q=>q) λ_ _ q=>q
  rintro rfl
  rcases w with z|z
  ·have:=I.free;rw[z,e] at this;cases this
  ·have:=I.free;rw[z] at this;cases this
noncomputable abbrev Cx.held (X:Cx) (a:Ú):Cx:={ X with A:=X.A.mark (some (.ref a)),calm:=false,xe:=λ_ _=>False }
theorem Inv.held (I:Inv X π σ H s) (a:Ú):Inv (X.held a) π σ H s:=by
 obtain⟨⟨a1,a2,Z,Y,W,V,U,T,w,S,R,Q,P,O,N,M,L,K⟩,J,G,F,E,D,C,B,A,y,x⟩:=I;exact⟨⟨a1,a2,Z,Y,W,V,U,T,λz=>absurd z Õ,S,R,Q,P,O,N,M,L,K⟩,J,G,F,E,D,C,B,A,y,x⟩
def Inv.wV {a:Ú} (ok:X.Ok) (I:Inv (X.held a) π σ H s):Inv X π σ H s:=by
 obtain⟨_,Z,Y,W,V,U,T,S,R,Q,P⟩:=I;exact⟨ok,Z,Y,W,V,U,T,S,R,Q,P⟩
def wW (X:Cx) (π:List (Ú×Obj)) (σ:St) (E:XK) (e:Å) (s':Ä):Prop:=∃Z Y,Inv X π σ Z Y/\gw X.prog X.w X.stack Z Y E e s'
def jg {E:XK} {E':Å->Ä->Prop} {e:Å} {s':Ä} {cn n:Str} {np Cq:Pos} {uk:abM} {tK:List abM} {j:Nat} {CM:Ú} {D:Ends} (Th:wW X π σ E e s') (L:X.stack=X.env::X.outer) (hf:X.env.frame=some X.env.locals)
  (hN:X.N.Nodup) (hj:X.N[j]?=some n) (nR:X.env.scope.names.lookup n=some .local) (hg:Gl X cn) (hm:X.mg cn=some (.ref CM)) (hd:(cn==("__debug__":Str))=false)
  (h:∀cls m H' ,E cls m H'->exmOne X.K cls (.ref CM)=some true/\∀(a:Ú) (o:Obj),H' a=none->o.cls=cls->(notCls o=true/\∀dx,m=some dx->o.dict=some dx)->∀s5,Inv (X.held a) π (σ.set j (some (.ref a))) (upd H' a (.aV o (.own a))) s5 ->
   Û (ã X.prog X.w) (X.held a).A (execs (uk::tK) X.env) (SP (X.held a) π { nx:=fun aJ H'=>D.nx (aJ.set j none) H',rt:=D.rt,bk:=fun aJ H'=>D.bk (aJ.set j none) H',ct:=fun aJ H'=>D.ct (aJ.set j none) H' }) (λ_ _=>False) s5) :
  Û (ã X.prog X.w) X.A (noteFrame e X.env) (λ_ qO=>Û (ã X.prog X.w) X.A (setFlight e none) (λ_ XJ=>Û (ã X.prog X.w) X.A (handleBy e X.env [.ExceptHandler (some (.Name cn np)) (some n) (uk::tK) Cq]) (SP X π D) E' XJ) E' qO) E' s':=by
 obtain⟨H1,t,W,a,cls,O,H',B,m,rfl,os,bare,F,dm,hE⟩:=Th;obtain⟨p,hh⟩:=h cls m H' hE
 refine Ĕ (vW (HE _ _) (wpAny_looks_onW (E:=λ_ _=>False) (Q:=λ_ i=>∃V,i={ s' with heap:=V }/\Heap.HeldW B (X.env::X.outer) a cls O X.env.locals V/\s'.heap.UpToSlots V) (by rw[W.ok.frames,L]) hf (by have:=F.fl;rw[L] at this;exact this) λV x y=>⟨V,rfl,x,y⟩)) (λ_ i z=>?_) λ_ _ z=>z.1.elim
 obtain⟨⟨V,rfl,g,Ze⟩,Zf⟩:=z
 refine Ĕ (vW (zl _ _) (wpAny_landsW (E:=λ_ _=>False) (Q:=λ_ d=>∃Z,d={ s' with heap:=Z }/\abl B (X.env::X.outer) a cls O Z/\V.UpToSlots Z) g λZ x y=>⟨Z,rfl,x,y⟩)) (λ_ d z=>?_) λ_ _ z=>z.1.elim
 obtain⟨⟨Z,rfl,KJ,Zg⟩,Zh⟩:=z
 have Zi:Dm Z a m:=(dm.on Zf (let ⟨o,e,_⟩:=g.there;⟨o,e⟩)).on Zh (let ⟨o,e,_⟩:=KJ.there;⟨o,e⟩)
 have P:abl B X.stack a cls O Z:=by rw[L];exact KJ
 have I:=F.on P (Ze.trans Zg);have XM:t.heap.get? a=none:=by
  cases q:t.heap.get? a with
  |none=>rfl
  |some o =>
   by_cases S:a∈b9 X.stack
   ·obtain⟨sl,e1⟩:=I.slot a o q S
    obtain⟨_,o2,e2,hd2⟩:=P.2.2.1.mem S
    obtain⟨H,ws,e3,_,e4,_⟩:=P.first
    rw[e3] at e2;cases e2;exact absurd e4 (hd2 _)
   ·obtain⟨o',e1⟩:=F.there a o q S
    rw[F.fl.2.1] at e1;cases e1
 have I3:Inv X π σ H' { s' with heap:=Z }:=W.sX (s':={ s' with heap:=Z }) (ch:=[]) os I.un I.held bare (λb z=>absurd z (by simp))
 refine wpAny_handleBy_cons (codeAny_handlers_test ?_) (by intro q;cases q);refine(show Û (ã X.prog X.w) (X.held a).A (ļ (.Name cn np) (X.held a).env) _ _ _ from qm (I3.held a) hg hm ?_ hd);obtain⟨ob,Zj,tU⟩:=P.there;have LT:Looks (ã X.prog X.w) Z (typeOf (.ref a)) cls:=by subst tU;exact(Looks.ld Zj).andThen .now
 refine(exm_one (M:=ã X.prog X.w) (K:=X.K) (h:=Z) I3.iA LT p).here ?_;refine codeAny_handlers_suite_as ?_
 refine Ĕ (vW (zl _ _) (lands_againW (s:={ s' with heap:=Z }) (E:=λ_ _=>False) (Q:=λ_ s4=>∃Y,s4={ s' with heap:=Y }/\abl B X.stack a cls O Y/\Z.UpToSlots Y) P λY x y=>⟨Y,rfl,x,y⟩)) (λ_ s4 z=>?_) λ_ _ z=>z.1.elim
 obtain⟨⟨Y,rfl,G,Zk⟩,Zl⟩:=z
 have Zm:Dm Y a m:=Zi.on Zl (let ⟨o,e,_⟩:=G.there;⟨o,e⟩)
 have l:=I.on G Zk;obtain⟨H,C,XN⟩:=G.there;have R:H' a=none:=l.new
 have I4:Inv X π σ (upd H' a (.aV H (.own a))) { s' with heap:=Y }:=by
  have u:=l.un;have fR:∀b o,t.heap.get? b=some o->b≠a:=λb o e z=>by rw[z,XM] at e;cases e
  refine W.sX (s':={ s' with heap:=Y }) (ch:=[]) os ⟨u.keep,u.slot,λb o e n p=>?_,u.there,λb xs e=>?_,λb o v e=>?_,λb ps e=>?_⟩ (λb v e=>?_) bare (λb z=>absurd z (by simp))
  ·rw[aX (fR b o e)];exact u.free b o e n p
  ·have:=u.fe b xs e;rw[aX (cV this R)];exact this
  ·have:=u.eD b o v e;rw[aX (cV this R)];exact this
  ·obtain⟨more,this⟩:=u.ff b ps e;exact⟨more,by rw[aX (cV this R)];exact this⟩
  ·by_cases S:b=a
   ·subst S
    rw[cu] at e;cases e;exact⟨C,H,C⟩
   ·rw[aX S] at e
    refine(l.held b v e).dU (λ_ _ _ q=>q) (λc q=>?_) λc xs q=>?_
    ·rw[aX (cV q R)];exact q
    ·rw[aX (cV q R)];exact q
 refine lO I4 hN hj (.inl nR) (v:=.ref a) (u:=.ref a) rfl (λs5 I5=>?_) (.inr nR)
 refine Ĕ (hh a H R XN ⟨by obtain⟨o2,vs,e1,_,e2,_⟩:=G.first;rw[C] at e1;cases e1;unfold notCls;rw[e2],λdx e=>by obtain⟨o,e1,e2⟩:=Zm dx e;rw[C] at e1;cases e1;exact e2⟩ s5 (I5.held a)) (λf s6 q=>?_) λ_ _ z=>z.elim
 cases f with
 |next =>
  obtain⟨aJ,U,J,q⟩:=q;exact wu (J.wV W.ok) hN hj nR λk T=>⟨_,U,T,q⟩
 |brk =>
  obtain⟨aJ,U,J,q⟩:=q;exact wu (J.wV W.ok) hN hj nR λk T=>⟨_,U,T,q⟩
 |cont =>
  obtain⟨aJ,U,J,q⟩:=q;exact wu (J.wV W.ok) hN hj nR λk T=>⟨_,U,T,q⟩
 |ret u =>
  obtain⟨v,aJ,U,J,r,q⟩:=q;exact wu (J.wV W.ok) hN hj nR λk T=>⟨v,_,U,T,r,q⟩
end
end L2
namespace DI
open PySem L2 PySem.W
def bG.unset {K:Ē} {w:Wd} {env:Env} {σ:St} (h:bG K w env σ) (i:Nat):bG K w (env.set i none) (σ.set i none):=by
 refine⟨by rw[Č,Č];exact h.len,λj X e=>?_⟩;by_cases Z:i=j
 ·subst Z
  have Y:=(È.mp e).1;rw[Č] at Y;rw[ê Y] at e;cases e
 ·rw[Ý Z] at e
  rw[Ý Z];exact h.val j X e
section
variable {X:Cx} {E:XK} {pos:Pos}
def UT {π:List (Ú×Obj)} {σ:St} {s:Ä} {w:Wd} {env:Env} {Q:VK} {k i:Nat} {x:Str} {p:Pos} {pre:Hp->Prop} {f:Ú} {vs:List V} {ds:List D} {th:aa->Res D} (T:yD X.prog X.w X.K X.mg X.base k pre f vs ds th) (h0:pre X.kQ) (hr:bP k X.A)
  (hN:X.N[i]?=some x) (hv:pA X.env.scope x) (hd:(x==("__debug__":Str))=false) (dX:(x==("__classdict__":Str))=false)
  (I:Inv X π σ w.H s) (S:aI X.K w) (eo:bG X.K w env σ) (he:env[i]?=some (some (.cA f vs ds))) (h:Out X.K (i8 X.mg E) w (th w.aw) λw' d=>∀v,DV X.K w' d v->Q v w'.H) :
  Û (ã X.prog X.w) X.A (ļ (.Call (.Name x p) [] [] pos) X.env) (EP X π σ Q) (wW X π σ E) s:=by
 obtain⟨M,fd,⟨o,L,J⟩,G,F⟩:=T;obtain⟨v,e1,e2⟩:=eo.val i _ he;obtain⟨rfl,C⟩:=e2;refine PySem.wpAny_Call_Name_kw ?_;have U:=(Ia (X:=X.jq λe O=>wW X π σ E e O) (pos:=p) hN hv hd dX π s σ w.H (λv B=>v=.ref f/\B=w.H) (I.jq _) ⟨_,e1,rfl,rfl⟩);refine aH U λu R U=>?_;obtain⟨v,q,Z,r,rfl,rfl⟩:=U;have Z:=Z.lR;have r:u=.ref f:=r;subst r;have z:∀h:Ī,h.get? f=some o->∃k,(k=Keeper.frame\/k=Keeper.machine\/k=Keeper.boundFrame)/\Looks (ã X.prog X.w) h (keeperOf (.ref f)) k:=λh e=>by
  obtain⟨n,m,y,os⟩:=o;cases J;exact⟨.frame,.inl rfl,(Looks.ld (part:=none) e).andThen .now⟩
 refine PySem.W.callWith_of (P:=λh=>h.get? f=some o) rfl z (PyProof.Rows.evalArgs_nil3 ⟨Z.bk _ _ L,?_⟩);refine abv (Ŏ (F.run X.A X.stack R w.H ⟨[],[]⟩ [] [] Q E hr Z.l0 (G R [] Z.iA rfl) .nil ⟨rfl,M _ _ (λb o u e=>Z.base.eD b o u e) h0,w,rfl,S,C,h⟩) λr O Y=>?_)
 cases r with
 |error e=>exact⟨w.H,R,Z,Y⟩
 |ok t =>
  cases t with
  |ret u=>exact Z.after Y
  |next=>exact ĕ Y
  |brk=>exact ĕ Y
  |cont=>exact ĕ Y
end
end DI
namespace L2
open PySem PySem.Spec PySem.Calls PyProof.Rows PySem.W PySem.Builtin PySem.Builtin.ObjectAttr PySem.Builtin.Getset_descriptor
section
variable {prog:â} {w:Ą} {A:î} {E:Å->Ä->Prop} {s:Ä} {K:Ē} {x C:Ú}
noncomputable def nh (K:Ē) (C:Ú):Bool:=(findIn K (.ref C) "__getattribute__"==some (some (.builtin "BaseException.__getattribute__")))&&(findIn K (.ref C) "__getattr__"==some none)&&(clsIn K C).isSome&&(findIn K (.ref C) "__class__"==some (some (.builtin "object.__class__")))&&(specialIn K (.builtin "object.__class__") "__get__"==some (some (.builtin "getset_descriptor.__get__")))&&(takesIn K (.builtin "object.__class__")==some true)&&(mroIn K C (.type "object")==some true)&&(mroIn K C (.type "BaseException")==some true)
def UU {M:Model} {JR:Å} {Q:Unit->Ä->Prop} (LT:Looks M s.heap (typeOf (.ref x)) (.ref C)) (M5:Looks M s.heap (isSubtype (.ref C) (.type "BaseException")) true) (hq:Q () s):Û M A (abp "BaseException.__getattribute__" ⟨[.ref x,JR],[]⟩) Q E s:=by
 have Z:builtinKind "BaseException.__getattribute__"=some .slot:=by decide +kernel
 have Y:splitId "BaseException.__getattribute__"=some ("BaseException","__getattribute__"):=by decide +kernel
 have X:=F.args_bexc_ga (.ref x) JR;simp only[abp,Z,Y];refine À ?_;unfold isInstance
 repeat (first|with_reducible refine LT.at ?_|with_reducible refine M5.at ?_|wp_step)
 exact hq
def cls_read {Q:Option Å->Ä->Prop} (X:K.In s.heap) (LT:Looks (ã prog w) s.heap (typeOf (.ref x)) (.ref C)) (hc:nh K C=true) (h:Q (some (.ref C)) { s with toks:=s.toks+1 }) :
  Û (ã prog w) A (getAttr? (.ref x) "__class__") Q E s:=by
 unfold nh at hc;simp only[Æ,beq_iff_eq] at hc;obtain⟨⟨⟨⟨⟨⟨⟨Y,W⟩,_⟩,V⟩,U⟩,T⟩,S⟩,R⟩:=hc;obtain⟨Z,g,d,t,os⟩:=s;have M1:=looks_findIn (M:=ã prog w) X Y;have M2:=looks_findIn (M:=ã prog w) X W;have P:Looks (ã prog w) Z (find (.ref x) (.ref C) "__class__") (.bind (.builtin "getset_descriptor.__get__") (.builtin "object.__class__")) :=
  (looks_findIn X V).andThen ((looks_specialIn X U).andThen ((show Looks (ã prog w) Z (dataDescriptor? (some (.builtin "object.__class__")) (some (.builtin "getset_descriptor.__get__"))) (some (.builtin "getset_descriptor.__get__",.builtin "object.__class__")) from (looks_takesIn X T).andThen .now).andThen (Looks.tag .now)))
 have L:=looks_mroIn (M:=ã prog w) X S;have O:=looks_mroIn (M:=ã prog w) X R;have N:=F.attr_ValueError.ga.bind (.ref x);unfold getAttr? getAttrBy? getAttrBy;refine À (wpAny_mkText (À (ŭ (Ĉ (À (LT.at (À (M1.at ?_))))))));show Û _ _ (getAttrByItsOwn (.ref x) _ (.ref C) (.builtin "BaseException.__getattribute__") false false) _ _ _;unfold getAttrByItsOwn;refine À (M2.at (À (ŭ (Ĉ ?_))));show Û _ _ (boundAndCalled (.builtin "BaseException.__getattribute__") (.ref x) _) _ _ _;unfold boundAndCalled;rw[N];refine À (Ã (abv (codeAny_call_builtin F.attr_ValueError.ga.plain F.entry_bexc_ga ?_)));refine UU LT O ?_;unfold ū.«object.__getattribute__»;rw[show slotArgs "__getattribute__" 1 ⟨[.ref x]++[.str "__class__" t],[]⟩=pure (.ref x,[.str "__class__" t]) from rfl];refine À (Ã ?_);dsimp only;rw[show attrName (.str "__class__" t)=pure ("__class__":Str) from rfl];refine À (Ã (À (LT.at (À (P.at ?_)))));show Û _ _ (abx [Value.builtin "object.__class__"] (call (.builtin "getset_descriptor.__get__") [.builtin "object.__class__",.ref x,.ref C]) >>= ret) _ _ _;refine À (Ĉ (abv ?_));refine codeAny_call_builtin KF.slot_gs.plain KF.entry_gs (KF.slot_gs.check _ _ _ _ _ _ _ _ KF.type_class (KF.args_gs _ _ _) ?_);unfold ū.«getset_descriptor.__get__» descrGet;rw[dga_obj];refine À (Ã ?_);unfold descrGetter descrCheckInstance descrNameAndClass isInstance;simp only[KF.owner_class]
 repeat lk
 refine⟨Code.quiet_builtin _ (by decide +kernel),ĸ KF.entry_class ?_⟩;unfold ū.«object.__class__» shownTypeOf
 repeat lk
 exact h
def QS {o:Obj} (ho:o.cls=.ref C) (hc:nh K C=true):KitX K (.ref x) (.ref C) (λh=>h.get? x=some o) where
 ty:=λM h _ e=>ho ▸ (Looks.ld e).andThen .now
 it:=λM h X _=>by
  unfold nh at hc;simp only[Æ] at hc;have z:=hc.1.1.1.1.1.2;unfold clsIn at z;split at z
  ·rename_i q
   intro W V U T k r;unfold isType loadHead;exact À (wpAny_loadPart (k _ _ (X _ _ q)) (Ã r))
  ·cases z
 ne:=λh Z S its n R X Y=>by
  unfold nh at hc;simp only[Æ] at hc;have z:=hc.1.1.1.1.1.2;refine Bool.eq_false_iff.mpr λq=>?_;have e:C=Z:=Value.ref.inj (beq_iff_eq.mp q);subst e;unfold clsIn at z;split at z
  ·rename_i r
   have z:=(X _ _ r).symm.trans Y;cases z
  ·cases z
 ca:=λX e k=>cls_read X (ho ▸ (Looks.ld e).andThen .now) hc k
end
end L2
namespace DI
open PySem L2 PySem.W
def dC (cs:List Str) (yes:Str->Bool) (d:D) (s:aa):Res D:=match d with
 | .ao=>ok (.bl false) s
 | .exc c _=>if decide (c∈cs)=true then ok (.bl (yes c)) s else none
 |_=>none
def qr (K:Ē) (cs:List Str) (T:Å) (yes:Str->Bool):Prop:=kitOne K (.type "NoneType") T=some false/\∀c∈cs,∃C,nsIn K Ö c=some (some (.ref C))/\nh K C=true/\kitOne K (.ref C) T=some (yes c)
section
variable {X:Cx} {Ξ:Wd->aT->Prop} {a:Ġ} {pos:Pos} {f:abZ D}
def UX {cs:List Str} {T:Å} {yes:Str->Bool} (hc:qr X.K cs T yes) {vT:V} (hT:∀u,RelV vT u->u=T):bY X (.builtin "isinstance") (λxs H Q=>∃(w:Wd) (d:D) (x:V),w.H=H/\aI X.K w/\DV X.K w d x/\xs=[x,vT]/\Out X.K Ξ w (dC cs yes d w.aw) λw' d=>∀v,DV X.K w' d v->Q v w'.H):=by
 rintro A s σ H y N Q I r ⟨w,d,x,rfl,S,U,rfl,h⟩;obtain⟨Y,W,R,Z⟩:∃Y,RelV x Y/\∃R,N=[Y,R]/\RelV vT R:=by
  cases r with
  |cons W Z=>cases Z with|cons Z M=>cases M;exact⟨_,W,_,rfl,Z⟩
 obtain⟨rfl,Z⟩:=Z;cases hT _ Z
 cases d with
 |ao =>
  have e:x=.ao:=U;subst e;have e:Y=Value.none:=W;subst e;exact kia_one kitx_none I.iA trivial hc.1 (by intro z;cases z) λP=>⟨.bl false,w.H,I.tok P,rfl,au S h _ rfl⟩
 |exc c _ =>
  simp only[DV] at U;obtain⟨b,o,C,rfl,L,⟨J,G⟩,_⟩:=U;have e:Y=aab b:=W;subst e;unfold dC at h;dsimp only at h;split at h
  ·rename_i F
   obtain⟨t,O,E,B⟩:=hc.2 c (ð F);rw[G] at O;cases O;exact kia_one (QS J E) I.iA (I.aC b _ L.2).1 B (by intro z;cases z) λP=>⟨.bl (yes c),w.H,I.tok P,rfl,au S h _ rfl⟩
  ·exact h.elim
 |_=>exact h.elim
def IJ {cs:List Str} {T:Å} {yes:Str->Bool} {vT:V} {cn:Str} {p np:Pos} (hc:qr X.K cs T yes) (hT:∀u,RelV vT u->u=T) (h1:PE X (.Name cn np) (tC vT)) (ha:PE X a (tE X.K Ξ f)) (hm:X.mg "isinstance"=none) (hv:û "isinstance"=some (.builtin "isinstance")) (hg:Gl X "isinstance":=by rfl)
  (hs:Ë [a,.Name cn np] X.env=(false,ļ a X.env)::Ë [.Name cn np] X.env:=by rfl) (fu:Ë [.Name cn np] X.env=(false,ļ (.Name cn np) X.env)::Ë [] X.env:=by rfl) (bw:(Ħ pos (Ë [.Name cn np] X.env)).any (·.1)=false:=by rfl) :
  PE X (.Call (.Name "isinstance" p) [a,.Name cn np] [] pos) (tE X.K Ξ (e1 (dC cs yes) f)) :=
 cg (vO (UX (Ξ:=Ξ) hc hT) hg hm hv (gy ha (gy h1 iI fu) hs) (by decide) (by decide) hs bw) fun σ H Q Z=>by
  obtain⟨w,env,Y,S,W,h⟩:=Z;subst Y;exact⟨w,env,rfl,S,W,(Out.aj h).mono λU x O R h1 v1 P=>⟨U,x,v1,rfl,R,P,rfl,h1⟩⟩
end
open PyProof.Rows PySem.SeqAt
def Cr (d:D) (s:aa):Res D:=match d with
 | .lst Z=>match gr Z with
  |some bs=>ok (.int (bs.count true:Nat)) s
  |none=>none
 |_=>none
def D1 (d:D) (s:aa):Res D:=match d with
 | .lst Z=>match gr Z with
  |some bs=>if (decide (bs.idxOf true<bs.length)&&decide (bs.length<=100))=true then ok (.int (bs.idxOf true:Nat)) s else none
  |none=>none
 |_=>none
theorem JS:∀(bs:List Bool) (m:Nat) (h:m<bs.length),m<bs.idxOf true->bs[m]=false
 | [],m,h,_=>absurd h (abD _)
 |true::r,m,h,g=>by simp at g
 |false::r,0,h,g=>rfl
 |false::r,m+1,h,g=>by
  have e:(false::r).idxOf true=r.idxOf true+1:=by rw[List.idxOf_cons];rfl
  rw[e] at g;exact JS r m (by simpa using h) (by omega)
noncomputable def qY:Å->Bool
 | .bool b=>b
 |_=>false
theorem zm:∀{bs:List Bool} {its:List Å},Vals (bs.map V.bl) its->its=bs.map Ś
 | [],_,.nil=>rfl
 |b::r,_,.cons e t=>by
  have e:_=Ś b:=e;rw[e,zm t];rfl
theorem HF:∀bs:List Bool,(bs.map Ś).countP qY=bs.count true
 | []=>rfl
 |b::r=>by
  rw[á,List.countP_cons,List.count_cons,HF r]
  cases b<;>rfl
def IK {A:î} {s:Ä} {bs:List Bool} (y:Å) (hy:y∈(bs.map Ś).toArray):EqAt A s y (.bool true) (qY y):=by
 have hy:y∈bs.map Ś:=by simpa using hy
 obtain⟨b,_,rfl⟩:=ć.mp hy;have h:=EqAt.bool_bool (A:=A) (s:=s) b true
 cases b<;>exact h
section
variable {X:Cx} {Ξ:Wd->aT->Prop} {o:Ġ} {f:abZ D} {p apos aO:Pos} {j:Nat}
def QT:uH X "list.count" (λx xs H Q=>∃(a:Ú) (bs:List Bool),x=.ref a/\xs=[.bl true]/\aZ X.K H a (bs.map V.bl)/\Q (.int (bs.count true:Nat)) H):=by
 rintro E s σ H x xs v U Q I T S ⟨a,bs,rfl,rfl,R,h⟩;have e:v=aab a:=T;subst e;obtain⟨u,rfl,rfl⟩:∃u,U=[u]/\u=Ś true:=by
  cases S with|cons P O=>cases O;exact⟨_,rfl,P⟩
 obtain⟨its,N,M,_⟩:=I.list R;cases zm N;obtain⟨⟨cls,L,data,J⟩,n,Z,Y,_,W⟩:=M;simp only at Y W;subst Y W;refine ŷ PySem.F.slot_list_count ⟨_,Z,rfl⟩ PySem.F.entry_list_count (PySem.F.args_list_count_2 _ _) (list_countAt a _ n L J (.bool true) qY) ⟨Z,λy G=>IK y G,?_⟩;rw[show (bs.map Ś).toArray.toList=bs.map Ś from rfl,HF];exact⟨.int _,H,I.tok _,⟨_,rfl⟩,h⟩
def QU:uH X "list.index" (λx xs H Q=>∃(a:Ú) (bs:List Bool),x=.ref a/\xs=[.bl true]/\aZ X.K H a (bs.map V.bl)/\bs.idxOf true<bs.length/\bs.length<=100/\Q (.int (bs.idxOf true:Nat)) H):=by
 rintro A s σ H x xs v T Q I S R ⟨a,bs,rfl,rfl,P,O,z,h⟩;have e:v=aab a:=S;subst e;obtain⟨u,rfl,rfl⟩:∃u,T=[u]/\u=Ś true:=by
  cases R with|cons N M=>cases M;exact⟨_,rfl,N⟩
 obtain⟨its,L,J,_⟩:=I.list P;cases zm L;obtain⟨⟨cls,G,data,E⟩,n,Z,Y,_,W⟩:=J;simp only at Y W;subst Y W;have sz:(bs.map Ś).toArray.size=bs.length:=by simp
 refine ŷ PySem.F.slot_list_index ⟨_,Z,rfl⟩ PySem.F.entry_list_index (PySem.F.args_list_index_2 _ _) (list_indexAt a _ n G E (.bool true) qY (bs.idxOf true) (by rw[sz];exact O) (by omega) ?_ ?_) ⟨Z,λy D=>IK y D,?_⟩
 ·simp[qY,List.getElem_idxOf]
 ·intro m U C
  have B:=JS bs m (by rw[sz] at U;exact U) C;simp[qY,B]
 ·exact⟨.int _,H,I.tok _,⟨_,rfl⟩,h⟩
def UY (ho:PE X o (tE X.K Ξ f))
  (iL:Ţ o "count" X.env (ļ o X.env)=ļ o X.env:=by rfl)
  (iS:((Ħ aO (Ë [.Constant (.bool true) j p] X.env)).all (λx=>!x.1)&&(abJ aO (η [] X.env)).all (λx=>x.1.isSome)
   && decide (([.Constant (.bool true) j p]:List Ġ).length+([]:List ź).length+(if ([]:List ź).isEmpty then 0 else 1)<30))=true:=by rfl)
  (iM:(apos.endLine==aO.line)=true:=by rfl) (hs:Ë [.Constant (.bool true) j p] X.env=(false,ļ (.Constant (.bool true) j p) X.env)::Ë [] X.env:=by rfl) (fW:(Ħ aO (Ë [] X.env)).any (·.1)=false:=by rfl) :
  PE X (.Call (.Attribute o "count" apos) [.Constant (.bool true) j p] [] aO) (tE X.K Ξ (e1 Cr f)) :=
 cg (qG ů PySem.F.slot_list_count PySem.F.type_list_count QT ho (gy Bf iI hs) iL iS iM hs fW) fun σ H Q V=>by
  obtain⟨w,env,U,S,T,h⟩:=V;subst U;refine⟨w,env,rfl,S,T,(Out.aj h).mono λO d N R Z v Y=>?_⟩
  cases d with
  |lst M =>
   unfold Cr at Z;dsimp only at Z;split at Z
   ·rename_i bs P
    simp only[DV] at Y;obtain⟨a,L,rfl,W,r⟩:=Y;cases sI P;cases r.sv;exact⟨.inl ⟨rfl,_,W.sq⟩,a,bs,rfl,rfl,W.sq,au R Z _ rfl⟩
   ·exact Z.elim
  |_=>exact Z.elim
def Wo (ho:PE X o (tE X.K Ξ f))
  (iL:Ţ o "index" X.env (ļ o X.env)=ļ o X.env:=by rfl)
  (iS:((Ħ aO (Ë [.Constant (.bool true) j p] X.env)).all (λx=>!x.1)&&(abJ aO (η [] X.env)).all (λx=>x.1.isSome)
   && decide (([.Constant (.bool true) j p]:List Ġ).length+([]:List ź).length+(if ([]:List ź).isEmpty then 0 else 1)<30))=true:=by rfl)
  (iM:(apos.endLine==aO.line)=true:=by rfl) (hs:Ë [.Constant (.bool true) j p] X.env=(false,ļ (.Constant (.bool true) j p) X.env)::Ë [] X.env:=by rfl) (fW:(Ħ aO (Ë [] X.env)).any (·.1)=false:=by rfl) :
  PE X (.Call (.Attribute o "index" apos) [.Constant (.bool true) j p] [] aO) (tE X.K Ξ (e1 D1 f)) :=
 cg (qG ů PySem.F.slot_list_index PySem.F.type_list_index QU ho (gy Bf iI hs) iL iS iM hs fW) fun σ H Q U=>by
  obtain⟨w,env,T,S,R,h⟩:=U;subst T;refine⟨w,env,rfl,S,R,(Out.aj h).mono λN d M P Z v W=>?_⟩
  cases d with
  |lst L =>
   unfold D1 at Z;dsimp only at Z;split at Z
   ·rename_i bs O
    split at Z
    ·rename_i Y
     rw[Æ,Ê,Ê] at Y;simp only[DV] at W;obtain⟨a,J,rfl,V,r⟩:=W;cases sI O;cases r.sv;exact⟨.inl ⟨rfl,_,V.sq⟩,a,bs,rfl,rfl,V.sq,Y.1,Y.2,au P Z _ rfl⟩
    ·exact Z.elim
   ·exact Z.elim
  |_=>exact Z.elim
end
end DI
namespace L2
open PySem PySem.Spec PyProof.Rows PySem.W
def O7 {Pr:â} {w:Ą} {K:Ē} {mg mb:Str->Option Å} {CX:iX} {k:Nat} {fa a c P:Ú} {fd:ĝ} {x:Str} {sp:Sp} {bb:Ä} {vs:List Å} {ns:List Int}
  (KX:K.In bb.heap) (nE:bb.heap.Ns Ö mg) (hb:bb.heap.Ns builtinsNs mb) (Zn:∀x:Str,x≠"__name__"->mb x=û x) (XO:bb.heap.NoLimit) (hg:bb.gens=#[])
  (ha:bb.heap.get? a=some { cls:=.type "list",data:=.seq vs.toArray }) (hi:aa3 vs ns) (hl:ns.length<=Ñ) (hr:bP k callerA)
  (CT:CodeHd bb.heap c P) (hP:bb.heap.get? P=some (tabObj #[])) (D2:K.lookup P=none) (D3:bb.heap.BuiltinsAt mg P)
  (F:∀base:Ī,K.In base->base.Ns Ö mg->base.BuiltinsAt mg P->cR Pr w K mg base CX k fa fd [x] sp) (Bq:∀(s:Ä) (u:Å),BindsTo s fd ⟨[u],[]⟩ [(x,u)])
  (iZ:∀H:Hp,H P=some (.dD #[])->aZ K H a (ns.map V.int)->sp [.ref a] H (λv _=>v=.bl true) λ_ _ _=>False)
  (D4:∀H e s',CX [] H bb (λ_ _ _=>False) e s'->False) :
  δ (ã Pr w) callerA (.call (.ref fa) ⟨[.ref a],[]⟩) (λr s'=>r=.ok (.ret (.bool true))/\OldK bb.heap s'.heap/\s'.os=bb.os/\abU s'.gens) bb:=by
 have Q:=F0 hi;have D:=hi.length;have O:a≠P:=λz=>by rw[z,hP] at ha;cases ha
 have core:∀H:Hp,H P=some (.dD #[])->(∀b,H b=none\/b=P\/(b=a/\∃o U,H b=some (.aV o (.lst U))))->aZ K H a (ns.map V.int)->cq Pr w H bb.heap->(H a≠none->K.lookup a=none) ->
   δ (ã Pr w) callerA (.call (.ref fa) ⟨[.ref a],[]⟩) (λr s'=>r=.ok (.ret (.bool true))/\OldK bb.heap s'.heap/\s'.os=bb.os/\abU s'.gens) bb:=by
  intro H N T C M B;have free:∀{b:Ú} {o:Obj},bb.heap.get? b=some o->o≠tabObj #[]->o≠{ cls:=.type "list",data:=.seq vs.toArray }->H b=none:=λ{b o} e A y=>by
   rcases T b with z|z | ⟨z,_⟩
   ·exact z
   ·rw[z,hP] at e;exact absurd (ab4 e).symm A
   ·rw[z,ha] at e;exact absurd (ab4 e).symm y
  have X:∀{b:Ú} {m:Str->Option Å},bb.heap.Ns b m->(lZ bb.heap H).Ns b m:=λ{b m} ⟨o,t,p,e,d,r⟩=>⟨o,t,p,zx e (free e (λz=>by rw[z] at d;cases d) λz=>by rw[z] at d;cases d),d,r⟩;have L:K.In (lZ bb.heap H):=λb o e=>zx (KX b o e) (by
   rcases T b with z|z | ⟨z,J,U,W⟩
   ·exact z
   ·rw[z,D2] at e;cases e
   ·subst z;rw[B (by rw[W];intro z;cases z)] at e;cases e)
  have l:Mod K mg (lZ bb.heap H):=⟨L,X nE,⟨mb,X hb,Zn⟩,let ⟨j,i,g⟩:=XO;⟨j,X i,g⟩⟩
  have f:(lZ bb.heap H).BuiltinsAt mg P:=let ⟨bm,o,b1,b2,b3,b4,I,S,r⟩:=D3;⟨bm,o,b1,b2,b3,b4,zx I (free I (λz=>by rw[z] at S;cases S) λz=>by rw[z] at r;cases r.2),S,r⟩
  have e0:qP Pr w K mg (lZ bb.heap H) callerA [] bb H:=⟨rfl,l,λb o e=>RD e,Nat.le_of_eq (OC _ _),trivial,λb hb=>absurd (show b∈([]:List Ú) from hb) (by simp),M,.of_eq hg⟩;refine Ŏ ((F _ L (X nE) f).run callerA [] bb H ⟨[.ref a],[]⟩ [.ref a] [.ref a] _ _ hr e0 (Bq bb (.ref a)) (.cons rfl .nil) (iZ H N C)) λr s' h=>?_
  cases r with
  |error e=>exact(D4 H e s' h).elim
  |ok fl =>
   cases fl with
   |next=>exact ĕ h
   |brk=>exact ĕ h
   |cont=>exact ĕ h
   |ret u =>
    obtain⟨v,H',os,bare,un,G,r',q⟩:=h;have q':v=.bl true:=q;subst q';obtain rfl:u=Ś true:=r';have keep:∀b o,bb.heap.get? b=some o->b≠P->s'.heap.get? b=some o:=λb o e n=>by
     rcases T b with z|z | ⟨z,J,U,W⟩
     ·exact un.keep b o e z (by intro z;exact absurd (show b∈([]:List Ú) from z) (by simp)) (by simp)
     ·exact absurd z n
     ·obtain⟨e1,_⟩:=M b _ W
      obtain⟨e2,_⟩:=G b _ (un.eD b J _ W);rw[e] at e1;cases e1;exact e2
    obtain⟨more,hm⟩:=un.ff P _ N;have E:s'.heap.get? P=some (tabObj (#[]++more)):=G P _ hm;refine⟨rfl,⟨λb o e=>?_,λb o e=>?_⟩,os,bare⟩
    ·by_cases hb:b=P
     ·subst hb
      rw[hP] at e;cases e;exact .inr (.inl ⟨(CT.tab hP).isCodeTable,rfl,#[],more,rfl,E⟩)
     ·exact .inl (keep b o e hb)
    ·by_cases hb:b=P
     ·subst hb;exact⟨_,E⟩
     ·exact⟨o,keep b o e hb⟩
 cases R:K.lookup a with
 |some o =>
  have e:=KX a o R;rw[ha] at e;cases e
  refine core (λb=>if b=P then some (.dD #[]) else none) (Þ rfl) (λb=>?_) (.inr ⟨_,vs.toArray,_,R,rfl,rfl,rfl,by rw[Ù,D];exact hl,by simpa using Q⟩) (λb u z=>?_) (λz=>absurd (ì O) z)
  ·by_cases hb:b=P
   ·exact .inr (.inl hb)
   ·exact .inl (ì hb)
  ·by_cases hb:b=P
   ·have Z:=(Þ hb).symm.trans z
    cases Z;subst hb;exact hP
   ·have Z:=(ì hb).symm.trans z
    cases Z
 |none =>
  refine core (λb=>if b=P then some (.dD #[]) else if b=a then some (.aV { cls:=.type "list",data:=.seq vs.toArray } (.lst (ns.map V.int))) else none) (Þ rfl) (λb=>?_) (.inl (.inr ⟨{ cls:=.type "list",data:=.seq vs.toArray },(ì O).trans (Þ rfl)⟩)) (λb u z=>?_) (λ_=>R)
  ·by_cases hb:b=P
   ·exact .inr (.inl hb)
   ·by_cases Y:b=a
    ·exact .inr (.inr ⟨Y,_,_,(ì hb).trans (Þ Y)⟩)
    ·exact .inl ((ì hb).trans (ì Y))
  ·by_cases hb:b=P
   ·have Z:=(Þ hb).symm.trans z
    cases Z;subst hb;exact hP
   ·by_cases Y:b=a
    ·have Z:=((ì hb).trans (Þ Y)).symm.trans z
     cases Z;subst Y;exact⟨ha,by rw[É];exact hl,vs,_,Q,ha⟩
    ·have Z:=((ì hb).trans (ì Y)).symm.trans z
     cases Z
def UZ {l:OpenLaw} {n k:Nat} {q:â} {loose:List Str} {XP:(Str->Option Å)->Ī->Prop} {YP:Ą->Ī->Prop} {d:DefRec} {K:Params->Ē} {CX:Ą->iX} {sp:Ą->Ú->Sp} {x:Str}
  (hn:l.most=some n) (Zo:n<=Ñ) (uJ:d.params.defaults=[]) (hr:bP k callerA)
  (hY:∀(w:Ą) (h:Ī),YP w h->(K w.params).In h) (hd:(recsOf q).find? (λe=>e.name==d.name)=some d)
  (F:∀(w:Ą) (mg:Str->Option Å) (fa:Ú) (h:Ī),(K w.params).In h->h.Ns Ö mg->mg d.name=some (.ref fa) ->
   ∃(c P:Ú) (fd:ĝ),tabIn (K w.params) d.name=some (c,P)/\(K w.params).lookup P=none/\(∀(s:Ä) (u:Å),BindsTo s fd ⟨[u],[]⟩ [(x,u)]) /\
    ∀base:Ī,(K w.params).In base->base.Ns Ö mg->base.BuiltinsAt mg P->cR l.prog w (K w.params) mg base (CX w) k fa fd [x] (sp w P))
  (iZ:∀(w:Ą) (P:Ú) (H:Hp) (a:Ú) (ns:List Int),ns.length<=n->H P=some (.dD #[])->aZ (K w.params) H a (ns.map V.int)->sp w P [.ref a] H (λv _=>v=.bl true) λ_ _ _=>False)
  (D4:∀(w:Ą) (H:Hp) (s:Ä) (e:Å) (s':Ä),CX w [] H s (λ_ _ _=>False) e s'->False) :
  WalkO q loose XP YP l.row.toRowW d [] (λf vs=>PySem.call f vs):=by
 refine La.Nh hn uJ λw m S mg j fa o pm cd doc a vs ns G Y i Ll dX O N hints Z M=>?_;have W:=hY w _ Y;obtain⟨c,P,fd,L,J,I,E⟩:=F w mg fa _ W G.T.g O;obtain⟨D,R⟩:=tab_of G.T W hd L;have C:S.heap.BuiltinsAt mg P:=by
  obtain⟨bm,B,A,y,X,Q,t,U⟩:=G.T.bmain;refine⟨bm,B,A,y,λz=>?_,λz=>?_,X,Q,t,U⟩
  ·obtain⟨o,es,ep,e,hd,_⟩:=G.T.g
   rw[z,e] at X;cases X;rw[hd] at U;cases U
  ·rw[z,R] at X;cases X;cases Q
 exact O7 W G.T.g G.T.b G.T.builtins G.T.nolimit M N hints (à Z Zo) hr D R J C E I (λH r p=>iZ w P H a ns Z r p) λH e s'=>D4 w H S e s'
end L2
namespace DI
open PySem L2 PySem.W
def Wq {P:â} {w:Ą} {K:Ē} {mg:Str->Option Å} {base:Ī} {x:Str} {st:abM} {f c T:Ú} {fd:ĝ} {ps:List Str} {k:Nat} {b:abZ Fl} (G:Gd K mg x st ps f fd) (hx:nsIn K Ö x=some (some (.ref f))) (ht:tabIn K x=some (c,T)) (N:List Str) (S:pk N ps (cG st)=true)
  (hb:N.Nodup->∀(A:î) (outer:List PySem.Env) (s:Ä) (H:Hp) (E:XK),bP k (A.deeper (Ń x (cG st) s.heap.objs.size f (.ref c)))->cS (gR dg P w K mg base N x (cG st) f (.ref c) A outer s H E).mq (ie st) (tS K bL b)) :
  cR P w K mg base dg (k+1) f fd ps (i5 K (aM ps.length N.length b)):=by
 obtain⟨D,C,kV,doc,pm,an,X,ct,B,rfl,lk,U⟩:=G.fn.ex;have R:X=.ref c:=by
  unfold tabIn at ht;rw[hx] at ht;dsimp only at ht;rw[lk] at ht;dsimp only at ht
  cases X with
  |ref z =>
   dsimp only at ht;split at ht
   ·split at ht
    ·cases ht;rfl
    ·cases ht
   ·cases ht
  |_=>cases ht
 subst R;refine Bh lk U (kG S) (λO H Q E h=>?_) λA outer s H O Q E M h=>?_
 ·obtain⟨w,L,rfl,S,Y,h⟩:=h
  rw[<- Y.length];unfold aM at h;split at h
  ·assumption
  ·exact h.elim
 ·obtain⟨W,L,rfl,J,Y,h⟩:=h
  refine⟨_,(hb (kG S).nd A outer s W.H E M).mq,?_⟩;unfold aM at h;split at h
  ·rename_i I
   rw[<- I] at h;refine⟨W,_,rfl,J,Y.env N.length,(Out.aj h).mono λy F v V Z=>?_⟩
   cases F with
   |nx env=>intro u _;exact au V Z _ rfl
   |rt d=>have q:=au V Z;exact q
   |bk env=>exact Z.elim
   |ct env=>exact Z.elim
  ·exact h.elim
def wX (K:Ē) (T:Ú):Sp:=λY H Q _=>∃(a:Ú) (Z:List Int),Y=[.ref a]/\aZ K H a (Z.map V.int)/\Z.length<=63/\H T=some (.dD #[])/\∀X,Q (.bl true) X
def Sz {P:â} {w:Ą} {K:Ē} {mg:Str->Option Å} {base:Ī} {k:Nat} {f c T:Ú} {fd:ĝ} {x y:Str} {g:List D->aa->Res D} (F:cR P w K mg base dg k f fd [x] (i5 K g)) (ht:tabIn K y=some (c,T))
  (h:∀ns:List Int,ns.length<=63->∃s,g [.bJ ns] [.tb y]=some (.ok (.bl true),s)):cR P w K mg base dg k f fd [x] (wX K T):=F.imp λU H Q E ⟨a,ns,e,hS,X,Y,q⟩=>by
 subst e;obtain⟨s,hs⟩:=h ns X;have W:∀b,(⟨[T],[.tb y],H⟩:Wd).Z b->b=T:=λb ⟨k,c,e1,_,_⟩=>by
  cases k with
  |zero=>exact(ab4 e1).symm
  |succ k=>cases e1
 have S:aI K ⟨[T],[.tb y],H⟩:=by
  refine⟨rfl,by simp,λk a e=>?_,λk a R e1 e2=>?_⟩
  ·cases k with
   |zero=>cases e;show H T≠none;rw[Y];intro z;cases z
   |succ k=>cases e
  ·cases k with
   |zero=>cases e1;cases e2;exact⟨c,#[],ht,Y,trivial,λpos O z=>by cases z⟩
   |succ k=>cases e1
 refine⟨⟨[T],[.tb y],H⟩,[.bJ ns],rfl,S,ak.one ⟨a,rfl,?_⟩,?_⟩
 ·rcases hS with hS|hS
  ·refine .inl ⟨λz=>?_,hS⟩
   rw[W a z] at hS
   rcases hS with hS | ⟨_,hS⟩<;>(rw[Y] at hS;cases hS)
  ·exact .inr hS
 ·show Out K bL _ (g [.bJ ns] [.tb y]) _
  rw[hs];intro N _ _ _ v V;have e:v=.bl true:=V;subst e;exact q _
def MS:û "ValueError"=some (.type "ValueError"):=by decide +kernel
noncomputable def isNm (n c:Str):Bool:=decide (c=n)
noncomputable def anyS (_:Str):Bool:=true
abbrev rP (P:â) (w:Ą) (K:Ē) (mg:Str->Option Å) (base:Ī) (x:Str) (st:abM) (ps:List Str) (k:Nat) (fn:List D->aa->Res D):Prop:=∀{f:Ú} {fd:ĝ},Gd K mg x st ps f fd->cR P w K mg base (gw P w) k f fd ps (rL mg K fn)
def eY (K:Ē) (mg:Str->Option Å) (cs:List Str) (n:Str):Prop:=∃C,mg n=some (.ref C)/\qr K cs (.ref C) (isNm n)
def LM (K:Ē) (mg:Str->Option Å) (cs:List Str) (n:Str):Prop:=∃Z,mg n=some (.ref Z)/\∀c∈cs,∃C,nsIn K Ö c=some (some (.ref C))/\mg c=some (.ref C)/\exmOne K (.ref C) (.ref Z)=some true
section
variable {X:Cx} {E:XK} {Ξ:Wd->aT->Prop} {e a b c:Ġ} {es rest:List Ġ} {pos:Pos} {f g h:abZ D} {fa:abZ (List D)}
def JT {k n:Nat} {x:Str} {st:abM} {ps:List Str} {fn:List D->aa->Res D} {p:Pos} (G:GG X.K X.mg x st ps) (F:rP X.prog X.w X.K X.mg X.base x st ps k fn) (L:Passes (gw X.prog X.w) X E) (hr:bP n X.A) (ha:PA X (e::es) (tA X.K (i8 X.mg E) fa)) (hk:k<=n:=by decide) (hg:Gl X x:=by rfl) (df:(x==("__debug__":Str))=false:=by decide)
  (he:Ë (e::es) X.env=(false,ļ e X.env)::Ë es X.env:=by rfl) (bw:(Ħ pos (Ë es X.env)).any (·.1)=false:=by rfl):PE X (.Call (.Name x p) (e::es) [] pos) (tE X.K (i8 X.mg E) (qD fn fa)):=by
 obtain⟨f,fd,G⟩:=G;exact Sx L (F G) (hr.mono hk) hg G.mg G.fn.kp G.b ha df he bw
def Br {k n:Nat} {x:Str} {st:abM} {ps:List Str} {fn:List D->aa->Res D} {p:Pos} (G:GG X.K X.mg x st ps) (F:rP X.prog X.w X.K X.mg X.base x st ps k fn) (hr:bP n X.A) (ha:PA X (e::es) (tA X.K Ξ fa)) (hk:k<=n:=by decide) (hg:Gl X x:=by rfl) (df:(x==("__debug__":Str))=false:=by decide)
  (he:Ë (e::es) X.env=(false,ļ e X.env)::Ë es X.env:=by rfl) (bw:(Ħ pos (Ë es X.env)).any (·.1)=false:=by rfl):PE X (.Call (.Name x p) (e::es) [] pos) (tE X.K Ξ (aD fn fa)):=by
 obtain⟨f,fd,G⟩:=G;exact Sy (F G) (hr.mono hk) hg G.mg G.fn.kp G.b ha df he bw
def fz {cs:List Str} {cn:Str} {p np:Pos} (hc:eY X.K X.mg cs cn) (ha:PE X a (tE X.K Ξ f)) (hm:X.mg "isinstance"=none) (hg:Gl X "isinstance":=by rfl) (D5:Gl X cn:=by rfl) (hd:(cn==("__debug__":Str))=false:=by decide)
  (hs:Ë [a,.Name cn np] X.env=(false,ļ a X.env)::Ë [.Name cn np] X.env:=by rfl) (fu:Ë [.Name cn np] X.env=(false,ļ (.Name cn np) X.env)::Ë [] X.env:=by rfl) (bw:(Ħ pos (Ë [.Name cn np] X.env)).any (·.1)=false:=by rfl) :
  PE X (.Call (.Name "isinstance" p) [a,.Name cn np] [] pos) (tE X.K Ξ (e1 (dC cs (isNm cn)) f)):=by
 obtain⟨C,Z,h⟩:=hc;exact IJ (vT:=.ref C) h (λu r=>r) (zW D5 Z rfl hd) ha hm fT hg hs fu bw
def U0 {cs:List Str} {p np:Pos} (hc:qr X.K cs (.type "ValueError") anyS) (ha:PE X a (tE X.K Ξ f)) (hm:X.mg "isinstance"=none) (Zp:X.mg "ValueError"=none) (hg:Gl X "isinstance":=by rfl) (D5:Gl X "ValueError":=by rfl)
  (hs:Ë [a,.Name "ValueError" np] X.env=(false,ļ a X.env)::Ë [.Name "ValueError" np] X.env:=by rfl) (fu:Ë [.Name "ValueError" np] X.env=(false,ļ (.Name "ValueError" np) X.env)::Ë [] X.env:=by rfl) (bw:(Ħ pos (Ë [.Name "ValueError" np] X.env)).any (·.1)=false:=by rfl) :
  PE X (.Call (.Name "isinstance" p) [a,.Name "ValueError" np] [] pos) (tE X.K Ξ (e1 (dC cs anyS) f)) :=
 IJ (vT:=.ty "ValueError") hc (λu r=>r) (wc D5 Zp MS rfl) ha hm fT hg hs fu bw
end
def kI (K:Ē) (cs asked:List Str) (jg:Str):Bool :=
 cs.all (λc=>match nsIn K Ö c with
  |some (some (.ref C))=>excIn K C [.type "ValueError",.type "Exception",.type "BaseException",.type "object"] "ValueError.__new__"&&nh K C&&(kitOne K (.ref C) (.type "ValueError")==some true) &&
   (match nsIn K Ö jg with|some (some (.ref Z))=>exmOne K (.ref C) (.ref Z)==some true | _=>false) &&
   asked.all (λn=>match nsIn K Ö n with|some (some (.ref A))=>kitOne K (.ref C) (.ref A)==some (isNm n c) | _=>false)
  |_=>false) &&
 asked.all (λn=>match nsIn K Ö n with|some (some (.ref A))=>kitOne K (.type "NoneType") (.ref A)==some false | _=>false)&&(kitOne K (.type "NoneType") (.type "ValueError")==some false) &&
 (match nsIn K Ö jg with|some (some (.ref _))=>true | _=>false)
noncomputable def AV (K:Ē) (x:Str):Bool:=match tabIn K x with
 |some (c,P)=>codeHdIn K c P&&(K.lookup P).isNone
 |none=>false
def SA {K:Ē} {x:Str} (h:AV K x=true):∃c P,tabIn K x=some (c,P)/\codeHdIn K c P=true/\K.lookup P=none:=by
 unfold AV at h;split at h
 ·rename_i c P e
  rw[Æ] at h;exact⟨c,P,e,h.1,Option.isNone_iff_eq_none.mp h.2⟩
 ·cases h
def sO {K:Ē} {x:Str} {p:Ú->Bool} (h:(match nsIn K Ö x with|some (some (.ref C))=>p C | _=>false)=true):∃C,nsIn K Ö x=some (some (.ref C))/\p C=true:=by
 split at h
 ·rename_i C e
  exact⟨C,e,h⟩
 ·cases h
section
variable {K:Ē} {cs asked:List Str} {jg:Str} {h:Ī} {mg:Str->Option Å}
def x_at (f:kI K cs asked jg=true) {c:Str} (hc:c∈cs):∃C,nsIn K Ö c=some (some (.ref C))/\excIn K C [.type "ValueError",.type "Exception",.type "BaseException",.type "object"] "ValueError.__new__"=true/\nh K C=true/\kitOne K (.ref C) (.type "ValueError")=some true /\
  (∃CM,nsIn K Ö jg=some (some (.ref CM))/\exmOne K (.ref C) (.ref CM)=some true)/\∀n∈asked,∃A,nsIn K Ö n=some (some (.ref A))/\kitOne K (.ref C) (.ref A)=some (isNm n c):=by
 unfold kI at f;simp only[Æ] at f;obtain⟨C,e,q⟩:=sO (æ.mp f.1.1.1 c hc);simp only[Æ,beq_iff_eq] at q;obtain⟨⟨⟨⟨X,W⟩,V⟩,Z⟩,Y⟩:=q;obtain⟨CM,U,Z⟩:=sO Z;refine⟨C,e,X,W,V,⟨CM,U,beq_iff_eq.mp Z⟩,λn T=>?_⟩;obtain⟨A,S,Y⟩:=sO (æ.mp Y n T);exact⟨A,S,beq_iff_eq.mp Y⟩
def KN (X:K.In h) (G:h.Ns Ö mg) (f:kI K cs asked jg=true) {c:Str} (hc:c∈cs):xV K mg c:=by
 obtain⟨C,e,q,_⟩:=x_at f hc;exact⟨C,e,mg_of X G e,q⟩
def XR (X:K.In h) (G:h.Ns Ö mg) (f:kI K cs asked jg=true):LM K mg cs jg:=by
 have Z:=f;unfold kI at Z;simp only[Æ] at Z;obtain⟨Y,e,_⟩:=sO Z.2;refine⟨Y,mg_of X G e,λc W=>?_⟩;obtain⟨C,e1,_,_,_,⟨V,e2,q⟩,_⟩:=x_at f W;rw[e] at e2;cases e2;exact⟨C,e1,mg_of X G e1,q⟩
def fH (X:K.In h) (G:h.Ns Ö mg) (f:kI K cs asked jg=true) {n:Str} (hn:n∈asked):eY K mg cs n:=by
 have Z:=f;unfold kI at Z;simp only[Æ] at Z;obtain⟨A,e,q⟩:=sO (æ.mp Z.1.1.2 n hn);refine⟨A,mg_of X G e,beq_iff_eq.mp q,λc Y=>?_⟩;obtain⟨C,e1,_,W,_,_,V⟩:=x_at f Y;obtain⟨T,e2,U⟩:=V n hn;rw[e] at e2;cases e2;exact⟨C,e1,W,U⟩
def Wr (f:kI K cs asked jg=true):qr K cs (.type "ValueError") anyS:=by
 have Z:=f;unfold kI at Z;simp only[Æ,beq_iff_eq] at Z;refine⟨Z.1.2,λc Y=>?_⟩;obtain⟨C,e1,_,X,W,_⟩:=x_at f Y;exact⟨C,e1,X,W⟩
end
end DI
namespace L2
open PySem PySem.Spec PyProof.Rows PySem.W
structure f9 (k:Nat) (A:î):Prop where
 dp:A.depth+3*k+5<recursionLimit
 un:A.units+16*k+200<abV
def bP.h {k:Nat} {A:î} (r:bP k A):f9 k A:=⟨r.dp,r.un⟩
def f9.mono {j k:Nat} {A:î} (r:f9 k A) (h:j<=k):f9 j A:=⟨by have:=r.dp;omega,by have:=r.un;omega⟩
theorem f9.deeper {k:Nat} {A:î} (r:f9 (k+1) A) (env:Env):f9 k (A.deeper env) :=
 ⟨by have:=r.dp;show A.depth+1+3*k+5 < _;omega,by have:=r.un;show A.units+3+16*k+200 < _;omega⟩
theorem f9.depth {k:Nat} {A:î} (r:f9 k A):A.depth<recursionLimit:=by have:=r.dp;omega
def f9.held {k:Nat} {A:î} (r:f9 k A) (v:Option Å):f9 k (A.mark v):=⟨r.dp,r.un⟩
structure xp (P:â) (w:Ą) (K:Ē) (mg:Str->Option Å) (base:Ī) (k:Nat) (f:Ú) (fd:ĝ) (ps:List Str) (sp:Sp):Prop where
 len:∀vs H Q E,sp vs H Q E->vs.length=ps.length
 run:∀(A:î) (outer:List Env) (s:Ä) (H:Hp) (args:Args) (us:List Å) (vs:List V) (Q:VK) (E:XK),f9 k A->qP P w K mg base A outer s H->BindsTo s fd args (ps.zip us)->Vals vs us->sp vs H Q E ->
  δ (ã P w) A (.call (.ref f) args) (CR dg outer P w H s Q E) s
noncomputable abbrev _root_.PySem.Around.xq (A:î):î:={ A with handled:=none }
noncomputable abbrev Cx.loud (X:Cx) (A:î):Cx:={ X with A:=A,calm:=false,xe:=λ_ _=>False }
theorem Inv.loud {X:Cx} {π:List (Ú×Obj)} {σ:St} {H:Hp} {s:Ä} (I:Inv X π σ H s) (A:î) (h:A.frames=X.A.frames):Inv (X.loud A) π σ H s:=by
 obtain⟨⟨a1,a2,Z,Y,W,V,U,T,v,S,R,Q,P,O,N,M,L,K⟩,J,G,F,E,D,C,B,y,x,w⟩:=I;exact⟨⟨a1,a2,Z,Y,W,V,U,T,λz=>absurd z Õ,h.trans S,R,Q,P,O,N,M,L,K⟩,J,G,F,E,D,C,B,y,x,w⟩
def U1 {P:â} {w:Ą} {K:Ē} {mg:Str->Option Å} {base:Ī} {k:Nat} {f:Ú} {name qual:Str} {params:abR} {body:List abM} {scope:ſ} {dV kV doc pm aS ct oc:Å} {an od:Option Ú}
  {iY:Array (Option Å)} {N ps:List Str} {sp:Sp} (lk:K.lookup f=some ⟨oc,od,.func (ŏ name qual params body scope dV kV doc pm an aS ct),iY⟩) (dX:aae K aS qual=true) (S:oo N ps scope)
  (len:∀vs H Q E,sp vs H Q E->vs.length=ps.length)
  (jW:∀(A:î) (outer:List Env) (s:Ä) (H:Hp) (vs:List V) (Q:VK) (E:XK),f9 k (A.deeper (abY qual scope s.heap.objs.size f aS))->sp vs H Q E ->
   ∃t,cS ((gR dg P w K mg base N qual scope f aS A.xq outer s H E).loud (A.deeper (abY qual scope s.heap.objs.size f aS))) body t/\t { nx:=λ_ H'=>Q .ao H',rt:=Q } (start N vs) H) :
  xp P w K mg base (k+1) f (ŏ name qual params body scope dV kV doc pm an aS ct) ps sp:=by
 refine⟨len,λA outer s H args p vs Q E T Z M r R=>?_⟩;have L:=len _ _ _ _ R;have O:K.In s.heap:=Z.mod.ka.keeps λb o e=>(Z.bs b o e).1;have lim:s.heap.NoLimit:=Z.mod.nolimit.keeps λb o e=>(Z.bs b o e).1;refine codeAny_call_function T.depth (O _ _ lk) rfl S.co S.gen rfl (PySem.W.codeRec_of O dX) (M _ _ _ _ ?_);refine wpAny_newFunctionEnv_cells S.kind (λy G=>?_) λenv F D x=>?_
 ·rcases S.par y.1 (aby G).1 with q|q
  ·exact .inl q
  ·exact .inr ⟨q,Ż _ _ _ (.inl q)⟩
 subst F;refine⟨lim.keeps x.toInCall.keep,codeAny_func ?_⟩;obtain⟨t,C,B⟩:=jW A outer s H vs Q E (T.deeper _) R;have I:=(FY (CX:=dg) (P:=P) (w:=w) (A:=A.xq) (E:=E) S rfl ⟨Z.frames,Z.mod,Z.bs,Z.iz,Z.iw,Z.lh,Z.aC,Z.bare⟩ L r x).loud (A.deeper (abY qual scope s.heap.objs.size f aS)) rfl;refine Ĕ (C [] D (start N vs) H _ I B) (λz X hs=>?_) λe X hs=>hs.elim;have fin:∀{Y:St} {H':Hp} {v:V} {u:Å},Inv ((gR dg P w K mg base N qual scope f aS A.xq outer s H E).loud (A.deeper (abY qual scope s.heap.objs.size f aS))) [] Y H' X->RelV v u->Q v H'->CE outer P w H s Q u X :=
  λ{Y H' v u} J U q=>⟨v,H',J.os,J.bare,J.base,J.aC,U,q⟩
 cases z with
 |ret u=>obtain⟨v,Y,H',J,U,q⟩:=hs;exact fin J U q
 |next=>obtain⟨Y,H',J,q⟩:=hs;exact fin (v:=V.ao) (u:=Value.none) J rfl q
 |brk=>obtain⟨_,_,_,q⟩:=hs;exact q.elim
 |cont=>obtain⟨_,_,_,q⟩:=hs;exact q.elim
section
variable {X:Cx} {k:Nat} {f:Ú} {fd:ĝ} {ps:List Str} {sp:Sp} {E:XK} {x:Str} {p pos:Pos} {e:Ġ} {es:List Ġ} {t:TA}
def QV (F:xp X.prog X.w X.K X.mg X.base k f fd ps sp) (hr:f9 k X.A) (hg:Gl X x) (hm:X.mg x=some (.ref f)) (hk:ı X.K (.ref f)=true) (hb:Binds X.K fd ps [])
  (ha:PA X (e::es) t) (df:(x==("__debug__":Str))=false:=by decide) (he:Ë (e::es) X.env=(false,ļ e X.env)::Ë es X.env:=by rfl) (bw:(Ħ pos (Ë es X.env)).any (·.1)=false:=by rfl) :
  PE X (.Call (.Name x p) (e::es) [] pos) (Jk sp [] E0 t):=by
 intro S s σ H Q I h;refine Ž (qm I hg hm ?_ df);refine abI (h₀:=X.base) I.ok.mod.ka hk (aH (ha pos S s σ H _ I h) λZ V ⟨U,R,W,r,q⟩=>⟨W.iA,?_⟩) he bw;have T:Vals (U++[]) (Z++[]):=r.append .nil;have P:(Z++[]).length=ps.length:=by rw[<- T.length];exact F.len _ _ _ _ q
 refine abv (Ŏ (F.run X.A X.stack V R ⟨Z,[]⟩ (Z++[]) (U++[]) Q E0 hr W.l0 (hb V Z W.iA P) T q) λr N Y=>?_)
 cases r with
 |error e=>exact ĕ Y
 |ok O =>
  cases O with
  |ret u=>exact W.after Y
  |next=>exact ĕ Y
  |brk=>exact ĕ Y
  |cont=>exact ĕ Y
end
end L2
namespace DI
open PySem L2 PySem.W
abbrev LN (P:â) (w:Ą) (K:Ē) (mg:Str->Option Å) (base:Ī) (x:Str) (st:abM) (ps:List Str) (k:Nat) (fn:List D->aa->Res D):Prop:=∀{f:Ú} {fd:ĝ},Gd K mg x st ps f fd->xp P w K mg base k f fd ps (i5 K fn)
def Ws {P:â} {w:Ą} {K:Ē} {mg:Str->Option Å} {base:Ī} {x:Str} {st:abM} {f:Ú} {fd:ĝ} {ps:List Str} {k:Nat} {b:abZ Fl} (G:Gd K mg x st ps f fd) (N:List Str) (S:pk N ps (cG st)=true)
  (hb:N.Nodup->∀(aS:Å) (A:î) (outer:List PySem.Env) (s:Ä) (H:Hp) (E:XK),f9 k (A.deeper (Ń x (cG st) s.heap.objs.size f aS))->cS ((gR dg P w K mg base N x (cG st) f aS A.xq outer s H E).loud (A.deeper (Ń x (cG st) s.heap.objs.size f aS))) (ie st) (tS K bL b)) :
  xp P w K mg base (k+1) f fd ps (i5 K (aM ps.length N.length b)):=by
 obtain⟨L,J,kV,doc,pm,an,aS,ct,I,rfl,lk,W⟩:=G.fn.ex;refine U1 lk W (kG S) (λV H Q E h=>?_) λA outer s H V Q E U h=>?_
 ·obtain⟨w,T,rfl,S,Y,h⟩:=h
  rw[<- Y.length];unfold aM at h;split at h
  ·assumption
  ·exact h.elim
 ·obtain⟨w,T,rfl,R,Y,h⟩:=h
  refine⟨_,hb (kG S).nd aS A outer s w.H E U,?_⟩;unfold aM at h;split at h
  ·rename_i O
   rw[<- O] at h;refine⟨w,_,rfl,R,Y.env N.length,(Out.aj h).mono λF M D X Z=>?_⟩
   cases M with
   |nx env=>intro C _;exact au X Z _ rfl
   |rt d=>have q:=au X Z;exact q
   |bk env=>exact Z.elim
   |ct env=>exact Z.elim
  ·exact h.elim
def ni (cs:List Str) (told:Str) (f:abZ D) (j:Nat) (b:abZ Fl):abZ Fl:=λenv s=>match f env s with
 |none=>none
 |some (.ok d,s)=>ok (.rt (.tup [.str told,d])) s
 |some (.error x,s)=>if decide (x.c∈cs)=true then aj (b (env.set j (some (.exc x.c x.many))) s) λZ s=>match Z with
   | .nx env=>ok (.nx (env.set j none)) s
   | .rt d=>ok (.rt d) s
   |_=>none else none
section
variable {X:Cx} {E:XK} {Ξ:Wd->aT->Prop} {e a b c:Ġ} {es rest:List Ġ} {pos:Pos} {f g h:abZ D} {fa:abZ (List D)}
def Wt {k n:Nat} {x:Str} {st:abM} {ps:List Str} {fn:List D->aa->Res D} {p:Pos} (G:GG X.K X.mg x st ps) (F:LN X.prog X.w X.K X.mg X.base x st ps k fn) (hr:f9 n X.A) (ha:PA X (e::es) (tA X.K Ξ fa)) (hk:k<=n:=by decide) (hg:Gl X x:=by rfl) (df:(x==("__debug__":Str))=false:=by decide)
  (he:Ë (e::es) X.env=(false,ļ e X.env)::Ë es X.env:=by rfl) (bw:(Ħ pos (Ë es X.env)).any (·.1)=false:=by rfl):PE X (.Call (.Name x p) (e::es) [] pos) (tE X.K Ξ (aD fn fa)):=by
 obtain⟨f,fd,G⟩:=G;refine cg (QV (F G) (hr.mono hk) hg G.mg G.fn.kp G.b ha df he bw) fun σ H Q Y=>?_;obtain⟨w,env,W,S,V,h⟩:=Y;subst W;refine⟨w,env,rfl,S,V,(Out.aj h).mono λZ U N T R P O=>?_⟩;show i5 X.K fn (P++[]) Z.H Q E0;rw[þ];exact⟨Z,U,rfl,T,O,R.ne⟩
def D6:abZ D:=λ_ _=>none
def KO:PE X e (tE X.K Ξ D6):=λ_ _ _ _ _ _ ⟨_,_,_,_,_,h⟩=>h.elim
def Bs (x y:D) (s:aa):Res D:=match x,y with
 | .int i,.int j=>ok (.bl (!(i==j))) s
 |_,_=>none
def Wu:bt X (Ė .NotEq) (rO X.K Ξ Bs):=by
 rintro Z s σ H x y v u Q I Y W ⟨w,R,P,rfl,S,U,T,h⟩;unfold Bs at h;split at h
 ·rename_i i j
  cases U;cases T;refine Jj Z s σ w.H _ _ v u Q I Y W ⟨rfl,?_⟩;have:(!decide (V.int i=V.int j))=!(i==j):=by
   congr 1;rw[ĳ];simp
  rw[this];exact au S h _ rfl
 ·exact h.elim
def U2 {k i j:Nat} {x cn n told:Str} {p aO oZ XS np Cq c0:Pos} {k0 k1} {pre:Hp->Prop} {f:Ú} {vs:List V} {ds:List D} {th:aa->Res D} {uk:abM} {tK:List abM} {b:abZ Fl} {cs:List Str} (T:yD X.prog X.w X.K X.mg X.base k pre f vs ds th) (h0:pre X.kQ) (hr:bP k X.A)
  (hc:∃CM,X.mg cn=some (.ref CM)/\∀c∈cs,∃C,nsIn X.K Ö c=some (some (.ref C))/\X.mg c=some (.ref C)/\exmOne X.K (.ref C) (.ref CM)=some true)
  (hs:∀a,cS (X.held a) (uk::tK) (tS X.K bL b)) (C5:X.N.Nodup)
  (L:X.stack=X.env::X.outer:=by rfl) (hf:X.env.frame=some X.env.locals:=by rfl) (hj:X.N[j]?=some n:=by rfl) (nR:X.env.scope.names.lookup n=some .local:=by rfl) (hg:Gl X cn:=by rfl) (Zq:(cn==("__debug__":Str))=false:=by decide)
  (hN:X.N[i]?=some x:=by rfl) (hv:pA X.env.scope x:=by first|exact aa1 rfl|exact Or.inr (aa1 rfl)|exact Or.inr (Or.inr rfl)) (hd:(x==("__debug__":Str))=false:=by decide) (dX:(x==("__classdict__":Str))=false:=by decide)
  (h1:Ë [.Constant (.str told) k0 c0,.Call (.Name x p) [] [] aO] X.env=(false,ļ (.Constant (.str told) k0 c0) X.env)::Ë [.Call (.Name x p) [] [] aO] X.env:=by rfl) (h2:Ë [.Call (.Name x p) [] [] aO] X.env=(false,ļ (.Call (.Name x p) [] [] aO) X.env)::Ë [] X.env:=by rfl) :
  PS X (.Try [.Return (some (.Tuple [.Constant (.str told) k0 c0,.Call (.Name x p) [] [] aO] k1 oZ)) XS] [.ExceptHandler (some (.Name cn np)) (some n) (uk::tK) Cq] [] [] pos) (tS X.K bL (ni cs told (rN (.cA f vs ds) th i) j b)):=by
 intro g s σ H D I aq;obtain⟨w,env,eH,S,eo,h⟩:=aq;subst eH;obtain⟨CM,lC,gK⟩:=hc;unfold ni rN at h;by_cases he:env[i]?=some (some (.cA f vs ds))
 case neg=>rw[ì he] at h;exact h.elim
 rw[Þ he] at h;refine wpAny_Try_except ?_
 let E:XK:=λcls m U=>∃(Y:Wd) (c:Str) (C:Ú) (G:Option Int),Y.H=U/\aI X.K Y/\bG X.K Y env σ/\cls=.ref C/\c∈cs/\X.mg c=some (.ref C)/\(∀i,G=some i->∃W R t,m=some W/\(¬ Y.Z W/\Y.H W=some (.aV R (.own W)))/\lookIn "many" R=some (some (.int i t)))/\Out X.K bL Y (aj (b (env.set j (some (.exc c G))) Y.aw) λF s=>match F with
   | .nx env=>ok (.nx (env.set j none)) s
   | .rt d=>ok (.rt d) s
   |_=>none) (xH X.K D)
 have Zr:Out X.K (i8 X.mg E) w (th w.aw) λY d=>∀v,DV X.K Y d v->∀q,Y.H q=none->D.rt (.ref q) (upd Y.H q (.tup [.str told,v])):=by
  cases hr:th w.aw with
  |none=>rw[hr] at h;exact h.elim
  |some q =>
   obtain⟨q,s2⟩:=q;rw[hr] at h
   cases q with
   |ok d =>
    intro Y l P e v dv q hq;have l2:=(Fw.grow (K:=X.K) (o:=.tup [.str told,v]) hq).le;exact h (Y.grow q (.tup [.str told,v])) (l.trans l2) (P.grow hq) e (.ref q) ⟨q,_,rfl,bp.of cu,⟨.str told,[v],rfl,rfl,l2.all ⟨v,[],rfl,dv,rfl⟩⟩⟩
   |error y =>
    intro Y l P e;dsimp only at h;split at h
    ·rename_i B
     have B:=ð B;obtain⟨C,_,h2,_⟩:=gK _ B;refine⟨C,h2,?_⟩
     cases hm:y.many with
     |none =>
      refine⟨Y,y.c,C,none,rfl,P,eo.le l,rfl,B,h2,(λi z=>by cases z),?_⟩;rw[hm] at h;rw[e];exact h.from l
     |some i =>
      intro W R t O hl;have le:=(Fw.grow (K:=X.K) (o:=.aV R (.own W)) O).le;refine⟨Y.grow W (.aV R (.own W)),y.c,C,some i,rfl,P.grow O,(eo.le l).le le,rfl,B,h2,λi' z=>?_,?_⟩
      ·cases z
       exact⟨W,R,t,rfl,⟨λz=>kD P O z,cu⟩,hl⟩
      ·rw[hm] at h
       show Out X.K bL _ (aj (b (env.set j (some (.exc y.c (some i)))) Y.aw) _) _;rw[e];exact(h.from l).from le
    ·exact h.elim
 have jW:=λ{M:Ä} (I:Inv X g σ w.H M)=>UT (pos:=aO) (p:=p) (Q:=λv U=>∀q,U q=none->D.rt (.ref q) (upd U q (.tup [.str told,v]))) T h0 hr hN hv hd dX I S eo he Zr;refine wpAny_execs_cons (Ĕ (wpAny_Return_some (Q:=SP X g { nx:=λ_ _=>False,rt:=D.rt }) (E:=wW X g σ E) (wpAny_Tuple_spliced ?_)) (λF M q=>?_) λe M q=>?_)
 ·rw[h1]
  refine aaM (Calls.Constant_str (k:=k0) (pos:=c0) ?_);rw[h2];refine aaM (aH (jW (I.tok _)) λu M hq=>Calls.spliced_nil ?_);obtain⟨v,H1,I1,r,q⟩:=hq;refine⟨show 2<=Ñ by decide,?_⟩;have hf:H1 M.heap.objs.size=none:=I1.aC.fresh (ab3 _);refine⟨.ref M.heap.objs.size,σ,upd H1 M.heap.objs.size (.tup [.str told,v]),I1.laid (t':=M.toks) (λb u e=>Á _ e) (ab3 _) ?_,rfl,q _ hf⟩;exact⟨show 2<=Ñ by decide,_,.cons ⟨_,rfl⟩ (.cons r .nil),⟨_,Í _ rfl,rfl,_,rfl⟩⟩
 ·cases F with
  |next=>obtain⟨_,_,_,z⟩:=q;exact ĕ z
  |ret v=>exact q
  |brk=>obtain⟨_,_,_,z⟩:=q;exact ĕ z
  |cont=>obtain⟨_,_,_,z⟩:=q;exact ĕ z
 ·refine jg (D:=D) q L hf C5 hj nR hg lC Zq λcls m U hE=>?_
  obtain⟨Y,c,C,G,rfl,P,iD,rfl,yg,Zs,Zt,ho⟩:=hE;obtain⟨C2,k1,k2,k3⟩:=gK c yg;rw[Zs] at k2;cases k2;refine⟨k3,λa o O ml mH s5 I5=>?_⟩;have le:=(Fw.grow (K:=X.K) (o:=.aV o (.own a)) O).le;have S5:=P.grow (o:=.aV o (.own a)) O;have dv:DV X.K (Y.grow a (.aV o (.own a))) (.exc c G) (.ref a):=by
   simp only[DV];refine⟨a,o,C,rfl,⟨λz=>kD P O z,cu⟩,⟨ml,k1⟩,λi hi=>?_⟩;obtain⟨W,R,t,q1,q2,q3⟩:=Zt i hi;exact⟨mH.1,W,R,t,mH.2 W q1,(Fw.grow (K:=X.K) (o:=.aV o (.own a)) O).aV W R _ q2.1 q2.2,q3⟩
  have hd:=hs a g s5 (σ.set j (some (.ref a))) _ { nx:=fun J U=>D.nx (J.set j none) U,rt:=D.rt,bk:=fun J U=>D.bk (J.set j none) U,ct:=fun J U=>D.ct (J.set j none) U } I5
   ⟨Y.grow a (.aV o (.own a)),env.set j (some (.exc c G)),rfl,S5,(iD.le le).set dv j,(Out.aj (ho.from le)).mono λw6 F l6 S6 q=>?_⟩
  ·exact hd
  ·cases F with
   |nx aA=>exact fun J e'=>au S6 q (J.set j none) (e'.unset j)
   |rt d=>have z:=au S6 q;exact z
   |bk aA=>exact q.elim
   |ct aA=>exact q.elim
end
end DI
namespace L2
open PySem PySem.Spec PyProof.Rows
def MT {X:Cx}:bY X (.builtin "isinstance") (λxs H Q=>∃x k p,xs=[x,.ref p]/\nF X.K H x k/\H p=some (.ext (qH p ["list","tuple"]))/\Q (.bl (decide (k=.tup)||decide (k=.lst))) H):=by
 intro P s σ H xs O Q I r h;obtain⟨x,k,p,rfl,W,V,q⟩:=h;obtain⟨u,c,rfl,U,rc⟩:=vals2 r;cases rc;obtain⟨N,T,Z,S,Y⟩:=Ud (K:=X.K) I W U;have R:di X.prog X.w H s.heap p (.ext (qH p ["list","tuple"])):=I.aC p _ V
 match T,Z,Y with
 | [M,y1],Z,Y =>
  refine IsiPair.tupleOfB (.cons Z.2.1 (.cons Z.1 .nil)) S R.1 ?_ λL=>⟨.bl _,H,I.tok _,rfl,q⟩;rw[<- Y];simp only[List.any_cons,List.any_nil,Bool.or_false,id];exact Bool.or_comm _ _
end L2
namespace DI
open PySem L2
def SD {X:Cx} {Ξ:Wd->aT->Prop} {a:Ġ} {pos:Pos} {f:abZ D} {p p1 p2 p3:Pos} {x1} (ha:PE X a (tE X.K Ξ f)) (hg:Gl X "isinstance") (hm:X.mg "isinstance"=none) (hv:û "isinstance"=some (.builtin "isinstance")) (h1:PE X (.Name "tuple" p1) (tC (.ty "tuple"))) (h2:PE X (.Name "list" p2) (tC (.ty "list")))
  (he:Ë (a::[.Tuple [.Name "list" p2,.Name "tuple" p1] x1 p3]) X.env=(false,ļ a X.env)::Ë [.Tuple [.Name "list" p2,.Name "tuple" p1] x1 p3] X.env:=by rfl) :
  PE X (.Call (.Name "isinstance" p) [a,.Tuple [.Name "list" p2,.Name "tuple" p1] x1 p3] [] pos) (tE X.K Ξ (e1 qW f)) :=
 cg (vO MT hg hm hv (gy ha (gy (P8 (gy h2 (gy h1 iI))) iI) he) (by decide) (by decide) he) fun σ H Q T=>by
  obtain⟨w,env,R,S,P,h⟩:=T;subst R;refine⟨w,env,rfl,S,P,(Out.aj h).mono λY d M O h1 v N=>?_⟩;refine⟨["list","tuple"],rfl,(by show 2<=Ñ;decide),λp W=>?_⟩;obtain⟨L,e,h1⟩:=fc h1
  cases Z:kd d Y.aw with
  |none=>rw[Z] at e;cases e
  |some k =>
   rw[Z] at e;cases e;have V:=O.grow (o:=.ext (qH p ["list","tuple"])) W;have U:=(Fw.grow (K:=X.K) (o:=.ext (qH p ["list","tuple"])) W).le;exact⟨v,k,p,rfl,JB (w:=Y.grow p _) V (U _ _ N) Z,cu,h1 _ U V rfl _ rfl⟩
end DI
namespace L2
open PySem PySem.Spec PyProof.Rows
section
variable {X:Cx} {π:List (Ú×Obj)} {σ:St} {H:Hp} {s:Ä} {Z:Ú->Prop}
mutual
theorem DV.tM (I:Inv X π σ H s):∀{d:aaG} {v:V} {u:Å},DV X.K Z H d v->RelV v u->d.showable=true->d.shown.length<=Ñ->∃bs,ReadAtMost s.heap d.depth bs/\ReprK X.prog X.w bs s.heap d.depth u d.shown
 | .none,v,u,h,r,hs,W=>by
  obtain⟨as,Y⟩:=h.reads I r;exact abg Y hs (λz=>by simp[abO] at z) W
 | .bool b,v,u,h,r,hs,W=>by
  obtain⟨as,Y⟩:=h.reads I r;exact abg Y hs (λz=>by simp[abO] at z) W
 | .int i,v,u,h,r,hs,W=>by
  obtain⟨as,Y⟩:=h.reads I r;exact abg Y hs (λz=>by simp[abO] at z) W
 | .str x,v,u,h,r,hs,W=>by
  obtain⟨as,Y⟩:=h.reads I r;exact abg Y hs (λz=>by simp[abO] at z) W
 | .dict F,v,u,h,r,hs,W=>by
  obtain⟨as,Y,G⟩:=h.sG I r rfl;exact abg Y hs (λ_=>G) W
 | .tuple U,v,u,h,r,hs,W=>by
  have O:(tupleText (ŋ U)).length<=Ñ:=by simpa only [PyData.shown] using W
  obtain⟨as,Y⟩:=h.reads I r;simp only[DV] at h;obtain⟨a,J,e,N,S⟩:=h;subst e;cases r;obtain⟨its,R,⟨o,e,c,n,Q⟩,_⟩:=I.tuple N;obtain⟨bs,T,P⟩:=ak.tM I S R (by simpa [PyData.showable] using hs) (λt M=>à (tupleText_mem_le M) O);have L:a∉bs:=not_mem_of_deeper Y (by simp only[PyData.depth];omega) T;refine⟨a::bs,ReadAtMost.cons Y (by simp only[PyData.depth];omega) T,?_⟩;simp only[PyData.depth,PyData.shown];exact ReprK.tuple e c Q L P
 | .list U,v,u,h,r,hs,W=>by
  have O:(listText (ŋ U)).length<=Ñ:=by simpa only [PyData.shown] using W
  obtain⟨as,Y⟩:=h.reads I r;simp only[DV] at h;obtain⟨a,J,e,_,N,S⟩:=h;subst e;cases r;obtain⟨its,R,⟨o,n,e,c,_,Q⟩,_⟩:=I.list (aZ.of N);obtain⟨bs,T,P⟩:=ak.tM I S R (by simpa [PyData.showable] using hs) (λt M=>à (listText_mem_le M) O);have L:a∉bs:=not_mem_of_deeper Y (by simp only[PyData.depth];omega) T;refine⟨a::bs,ReadAtMost.cons Y (by simp only[PyData.depth];omega) T,?_⟩;simp only[PyData.depth,PyData.shown]
  cases its with
  |nil =>
   have:J=[]:=by cases R;rfl
   subst this
   have:U=[]:=by cases U with
    |nil=>rfl
    |cons d U=>obtain⟨_,_,z,_⟩:=S;cases z
   subst this;simp only[ŋ,listText_nil];exact ReprK.listEmpty e c Q
  |cons x l=>exact ReprK.list e c Q L (by simpa using P.length_eq) (λi y e=>P.item i y (by simpa using e))
theorem ak.tM (I:Inv X π σ H s):∀{ds:List aaG} {vs:List V} {us:List Å},ak X.K Z H ds vs->Vals vs us->abL ds=true->(∀t∈ŋ ds,t.length<=Ñ) ->
  ∃bs,ReadAtMost s.heap (Ŋ ds) bs/\ReprAllK X.prog X.w bs s.heap (Ŋ ds) us (ŋ ds)
 | [],vs,us,h,r,_,_=>by
  have e:vs=[]:=h;subst e;cases r
  exact⟨[],(λ_ h=>nomatch h),by simp only[ŋ];exact .nil⟩
 |d::ds,vs,us,h,r,hs,W=>by
  obtain⟨v,F,e,T,S⟩:=h;subst e;have U:d.showable=true/\abL ds=true:=by simpa [abL] using hs
  cases r with
  |cons R Q =>
   obtain⟨P,O,N⟩:=DV.tM I T R U.1 (W _ (by simp only[ŋ];exact Ø ..));obtain⟨M,L,J⟩:=ak.tM I S Q U.2 (λt G=>W t (by simp only[ŋ];exact Ï _ G));refine⟨P++M,(O.mono (by simp only[Ŋ];exact aaV _ _)).append (L.mono (by simp only[Ŋ];exact Ŵ _ _)),?_⟩;simp only[Ŋ,ŋ];exact .cons ((N.more λb Y=>ā _ Y).level_le (aaV _ _)) (J.more_le (λb Y=>Î _ Y) (Ŵ _ _))
end
end
end L2
namespace DI
open PySem L2
def qZ (ds:List D) (s:aa):Res D:=match ds with
 | [.bl b]=>ok (.int (if b then 1 else 0)) s
 |_=>none
def JU {X:Cx} {Ξ:Wd->aT->Prop}:bY X (.type "int") (rC X.K Ξ qZ):=by
 rintro V s σ H U T Q I r ⟨w,R,rfl,S,Z,h⟩;unfold qZ at h;split at h
 ·rename_i b
  obtain⟨v,rfl,Y⟩:=kE Z;have e:v=.bl b:=Y;subst e;obtain⟨u,rfl,W⟩:=vals1 r;have e:u=.bool b:=W;subst e;exact call_int_bool ⟨.int _,w.H,I.tok _,⟨_,rfl⟩,au S h _ rfl⟩
 ·exact h.elim
section
variable {X:Cx} {Ξ:Wd->aT->Prop}
end
end DI
namespace L2
open PySem PySem.Spec PyProof.Rows
noncomputable def D8 (x:Str):It:=⟨λi _=>i<x.cps.size,λi H v Z=>Z=H/\∃c,x.cps[i]?=some c/\v=.str ⟨#[c]⟩,λi _=>x.cps.size<=i⟩
def GV {P:â} {w:Ą} {K:Ē} {tg:Ġ} (it:Ú) (x:Str) (t:Tok) (b:Bool):Turn P w K tg (D8 x) [it] it (λi h=>h.IsStrIter it (if b then "str_ascii_iterator" else "str_iterator") x t i) where
 mem:=by simp
 obj:=λi h Y c T=>by
  have e:c=it:=by simpa using T
  subst e;obtain⟨o,S,y,L⟩:=Y;exact⟨o,S,λv z=>by rw[L] at z;cases z⟩
 keep:=λi h Z Y k=>let ⟨o,S,r⟩:=Y;⟨o,k it (by simp) o S,r⟩
 item:=by
  intro X J hw G T i F s σ H E I O Y D;subst J hw G;obtain⟨f0,f1,f2,N,f4,M⟩:=O it (by simp);have hi:i<x.cps.size:=D;have V:x.cps[i]?=some x.cps[i]:=by simp[hi]
  have go:∀Z,Z.IsStrIter it (if b then "str_ascii_iterator" else "str_iterator") x t (i+1)->ĩ it s.heap Z->∃u,some (Value.str ⟨#[x.cps[i]]⟩ s.toks)=some u /\
    Û (ã X.prog X.w) X.A (Ň tg (.ref it) u) (λ_ q=>∃v C,Inv X F σ C q/\RelV v u/\(D8 x).pB i H v C/\q.heap.IsStrIter it (if b then "str_ascii_iterator" else "str_iterator") x t (i+1)/\∀b∈[it],C b=none) E { s with heap:=Z,toks:=s.toks+1 }:=λZ U R=>by
   have p:Inv X F σ H { s with heap:=Z,toks:=s.toks+1 }:=I.turned (λb o W e=>R.extBut b o (by simpa using W) e) f0 f1 N f4 M
   obtain⟨o,S,y,L⟩:=id U
   refine⟨_,rfl,xj (s:={ s with heap:=Z,toks:=s.toks+1 }) (n:=if b then "str_ascii_iterator" else "str_iterator") S y L (by cases b<;>decide) ⟨.str ⟨#[x.cps[i]]⟩,H,p,⟨_,rfl⟩,⟨rfl,_,V,rfl⟩,U,λb W=>(O b W).1⟩⟩
  cases b with
  |true=>exact wpAny_pyNext_ascii_item Y V λZ U R=>go Z U R
  |false=>exact wpAny_pyNext_wide_item Y V λZ U R=>go Z U R
 done:=by
  intro X J hw G T i F s σ H E I O Y D;subst J hw G;obtain⟨f0,f1,f2,N,f4,M⟩:=O it (by simp);have V:x.cps[i]?=none:=by simp;exact D
  cases b with
  |true=>exact wpAny_pyNext_ascii_end (I.ok.hd T) Y V λZ B=>⟨rfl,I.turned (t':=s.toks) (λb o W e=>B b o W e) f0 f1 N f4 M⟩
  |false=>exact wpAny_pyNext_wide_end (I.ok.hd T) Y V λZ B=>⟨rfl,I.turned (t':=s.toks) (λb o W e=>B b o W e) f0 f1 N f4 M⟩
 self:=λA i s Q E Y h=>by
  cases b with
  |true=>exact wpAny_pyIter_striter_ascii Y h
  |false=>exact wpAny_pyIter_striter_wide Y h
def XT (tl:TE):TI:=fun σ H R=>tl σ H λx Z=>∃y,x=.str y/\R (D8 y) Z
def U3 {X:Cx} {tg l:Ġ} {tl:TE} (hl:PE X l tl):PI X tg l (XT tl):=by
 intro V s σ H R I h;refine aH (hl V s σ H _ I h) λv Z ⟨x,W,Y,S,Q⟩=>?_;obtain⟨y,e,q⟩:=Q;subst e;obtain⟨t,rfl⟩:=S;have U:∀b∈[Z.heap.objs.size],fg X V W b:=λb P=>by
  have e:b=Z.heap.objs.size:=by simpa using P
  subst e;exact Y.tV (ab3 _) (Y.aC.fresh (ab3 _))
 cases T:y.cps.all (· < 128) with
 |true=>exact wpAny_pyIter_ascii T ⟨Z.heap.objs.size,[Z.heap.objs.size],_,_,W,rfl,Y.kept (t':=Z.toks) λb o e=>Á _ e,GV _ y t true,⟨_,Í _ rfl,rfl,rfl⟩,U,q⟩
 |false=>exact wpAny_pyIter_wide T ⟨Z.heap.objs.size,[Z.heap.objs.size],_,_,W,rfl,Y.kept (t':=Z.toks) λb o e=>Á _ e,GV _ y t false,⟨_,Í _ rfl,rfl,rfl⟩,U,q⟩
section
variable {X:Cx}
def rJoin (K:Ē):V->List V->Hp->VK->Prop:=λx Z H Q=>∃(y:Str) (a:Ú) (zs:List Str),x=.str y/\Z=[.ref a]/\aZ K H a (zs.map V.str)/\JoinOk y zs=true/\Q (.str (ŧ y zs)) H
theorem Gh:∀{zs:List Str} {us:List Å},Vals (zs.map V.str) us->∃l:List (Str×Tok),us=strValues l/\l.map (·.1)=zs
 | [],_,.nil=>⟨[],rfl,rfl⟩
 |z::zs,_,.cons r Z=>by
  obtain⟨t,rfl⟩:=r;obtain⟨l,rfl,e⟩:=Gh Z;exact⟨(z,t)::l,rfl,by simp[e]⟩
def SE:uH X "str.join" (rJoin X.K):=by
 intro R s σ H x P v O Q I W V h;obtain⟨y,a,zs,rfl,rfl,U,Y,q⟩:=h;obtain⟨t,rfl⟩:=W;obtain⟨u,rfl,T⟩:=V.one;cases T;obtain⟨its,r,p,N⟩:=I.list U;obtain⟨l,rfl,e⟩:=Gh r;subst e;have Z:=Y;unfold JoinOk at Z;rw[Ě] at Z;refine ŷ F.slot_str_join (typeIs_str s y t) F.entry_str_join (F.args_str_join_2 _ _) (meets_str_join_list y t a l Z) ⟨p.isList,post_join l ⟨joinOk_length Y,λS k=>?_⟩⟩;refine⟨.str _,H,I.tok k,⟨S,rfl⟩,?_⟩;show Q (.str (Txt.join y (l.map (·.1)))) H;rw[show Txt.join y (l.map (·.1))=ŧ y (l.map (·.1)) from StrLaws.glued_eq_join _ _];exact q
def U4:V->List V->Hp->VK->Prop:=λx Z H Q=>∃(a y:Str),x=.str a/\Z=[.str y]/\(y.length==0)=false/\a.length+2<=Ñ/\∀p,H p=none->Q (.ref p) (upd H p (.lst ((ĺ a y).map V.str)))
theorem E1:∀(zs:List Str) (tk:Nat),Vals (zs.map V.str) (strsFrom tk zs)
 | [],_=>.nil
 |z::zs,tk=>.cons ⟨_,rfl⟩ (E1 zs (tk+1))
def QW:uH X "str.split" U4:=by
 intro R s σ H x M v L Q I P O h;obtain⟨a,y,rfl,rfl,T,S,q⟩:=h;obtain⟨t,rfl⟩:=P;obtain⟨u,rfl,N⟩:=O.one;obtain⟨U,rfl⟩:=N;have fresh:=I.aC.fresh (ab3 s.heap.objs.size)
 have fin:∀(its:List Å) (k:Nat),Vals ((ĺ a y).map V.str) its->EP X R σ Q (.ref s.heap.objs.size) { s with heap:=s.heap.push { cls:=.type "list",data:=.seq its.toArray },toks:=k }:=λits k r=>by
  have Y:((ĺ a y).map V.str).length<=Ñ:=by rw[É];exact à (PyProof.Rows.split_le a y) S
  refine⟨.ref s.heap.objs.size,_,I.laid (o:=.lst ((ĺ a y).map V.str)) (t':=k) (λb o e=>Á _ e) (ab3 _) ⟨Y,its,0,r,Í _ rfl⟩,rfl,q _ fresh⟩
 by_cases Z:(decide (a.length<y.length)||decide (Builtin.Str.strKind a<Builtin.Str.strKind y))=true
 ·refine ŷ F.slot_str_split (typeIs_str s a t) F.entry_str_split (F.args_str_split_2 _ _) (meets_str_split_cannot_occur a y t U Z) ?_
  have e:ĺ a y=[a]:=by unfold ĺ;rw[Þ Z]
  have:=fin [.str a t] s.toks (by rw[e];exact .cons ⟨_,rfl⟩ .nil);exact this
 ·by_cases W:(Ĵ a y 0 a.length (a.length+1)).isEmpty=true
  ·refine ŷ F.slot_str_split (typeIs_str s a t) F.entry_str_split (F.args_str_split_2 _ _) (meets_str_split_not_found a y t U (by simpa using Z) T W) ?_
   have e:ĺ a y=[a]:=by unfold ĺ;rw[ì Z,Þ W]
   have:=fin [.str a t] s.toks (by rw[e];exact .cons ⟨_,rfl⟩ .nil);exact this
  ·have e:ĺ a y=Builtin.Str.partsBetween a (Ĵ a y 0 a.length (a.length+1)) y.length:=by unfold ĺ;rw[ì Z,ì W]
   refine ŷ F.slot_str_split (typeIs_str s a t) F.entry_str_split (F.args_str_split_2 _ _) (meets_str_split_sep a y t U (by simpa using Z) T (by simpa using W) (by omega) (by rw[<- e];exact à (PyProof.Rows.split_le a y) S)) ?_;have:=fin (strsFrom s.toks (ĺ a y)) (s.toks+(ĺ a y).length) (E1 _ _);rw[e] at this;exact this
def MU:bY X (.type "int") (λxs H Q=>∃(x:Str) (n:Int),xs=[.str x]/\x.length<=640/\aat x=some n/\Q (.int n) H):=by
 intro U s σ H xs T Q I r h;obtain⟨x,n,rfl,Z,Y,q⟩:=h;obtain⟨u,rfl,V⟩:=vals1 r;obtain⟨t,rfl⟩:=V;exact PySem.W.KIN.call_text Y Z ⟨.int n,H,I.tok _,⟨_,rfl⟩,q⟩
end
section
variable {prog:â} {w:Ą} {A:î} {E:Å->Ä->Prop} {s:Ä}
theorem Gi {it l:Ú} {items:Array Å} (fR:l≠it):∀(n i:Nat) (s:Ä) (Q:List Å->Ä->Prop),s.heap.IsListIter it l i->s.heap.IsList l items->i+n<=items.size ->
  (∀h',h'.IsListIter it l (i+n)->ĩ it s.heap h'->Q ((items.toList.drop i).take n) { s with heap:=h' })->Û (ã prog w) A (draw (.ref it) n) Q E s
 |0,i,s,Q,hit,_,_,Z=>by
  show Û _ _ (pure []) Q E s;exact Ã (by simpa using Z s.heap hit (Heap.SameBut.refl ..))
 |n+1,i,s,Q,hit,Y,hle,Z=>by
  have X:i<items.size:=by omega
  have V:items.toList.drop i=items[i]::items.toList.drop (i+1):=by simp[Ņ,X]
  show Û _ _ (aac (.ref it) >>= _) Q E s;refine À (wpAny_pyNext_list_item hit Y (x:=items[i]) (by simp[X]) λU T W=>?_)
  have S:U.IsList l items:=let ⟨o,e,r⟩:=Y;⟨o,W.extBut l o fR e,r⟩
  refine À (Ĉ (Gi fR n (i+1) _ _ T S (by omega) λR P O=>Ã ?_));have z:=Z R (by rw[show i+(n+1)=i+1+n by omega];exact P) (W.trans O);rw[V,List.take_succ_cons] at z;exact z
def Np {l:Ú} {items:Array Å} {targets:List (Bool×(Å->Sem Unit))} {Q:Unit->Ä->Prop} (hh:A.handled=none) (hl:s.heap.IsList l items) (hn:targets.length=items.size) (hs:targets.findIdx? (·.1)=none)
  (h:∀h',aaA s.heap.objs.size s.heap h'->Û (ã prog w) A (aaH (targets.map (·.2)) items.toList) Q E { s with heap:=h' }):Û (ã prog w) A (unpack (.ref l) targets) Q E s:=by
 have Z:l≠s.heap.objs.size:=by obtain⟨o,V,_⟩:=hl;exact ß (Ì V)
 have Y:∀o,(s.heap.push o).IsList l items:=λo=>let ⟨u,e,r⟩:=hl;⟨u,Á _ e,r⟩
 unfold unpack;rw[hn,hs];refine À (Ĉ ?_);unfold unpackItems;refine À ?_;unfold notIterableAtAll;refine À (aaT hl.typeIs slot_list_iter.lookup (Ã ?_));rw[ì (by decide)];refine À (Ĉ (Ũ hl (À (Ĉ (Gi Z items.size 0 _ _ ⟨_,Í _ rfl,rfl,rfl⟩ (Y _) (by omega) λU T X=>?_)))));rw[abh,show List.take items.size items.toList=items.toList from List.take_of_length_le (by simp),ì (by simp)]
 have S:U.IsList l items:=let ⟨o,e,r⟩:=Y _;⟨o,X.extBut l o Z e,r⟩
 refine À (Ĉ (wpAny_pyNext_list_end hh T S (by simp) λR P=>?_));rw[ì (by decide)];exact Ã (h R λb o W e=>P b o W (X.extBut b o W (Á _ e)))
end
section
variable {X:Cx}
def XU (K:Ē) (n:Nat) (t:iW):TG:=λv σ H Q=>∃a Z,v=.ref a/\aZ K H a Z/\Z.length=n/\t Z σ H Q
def U5 {es:List Ġ} {k:Nat} {pos:Pos} {t:iW} {n:Nat} (hc:X.calm=true) (h:jz X es t)
  (hn:(ľ es X.env).length=n:=by rfl) (gn:(ľ es X.env).findIdx? (·.1)=none:=by rfl):PG X (.Tuple es k pos) (XU X.K n t):=by
 intro Z s σ H v u Q I r hw;obtain⟨a,W,e1,V,U,hw⟩:=hw;subst e1;cases r;obtain⟨its,Y,T,O⟩:=I.list V;rw[assign_Tuple];refine À (Š (Np (I.ok.hd hc) T.isList (by simp[hn,<- U,Y.length]) gn λS R=>?_))
 have P:Inv X Z σ H { s with heap:=S }:=I.kept (t':=s.toks) λb o e=>R b o (ß (Ì e)) e
 exact h Z _ σ H W _ Q P (by simpa using Y) hw
end
end L2
namespace DI
open PySem L2
section
variable {X:Cx} {Ξ:Wd->aT->Prop} {e a b o:Ġ} {es:List Ġ} {pos:Pos} {f g:abZ D}
def gL (gs:List (D->Env->Option Env)):D->Env->Option Env:=λd env=>match d with
 | .lst Z=>fP gs Z env
 |_=>none
def Bv {gl:List (D->Env->Option Env)} {k:Nat} (hc:X.calm=true) (h:jz X es (rD X.K (fP gl))) (hn:(ľ es X.env).length=gl.length:=by rfl) (gn:(ľ es X.env).findIdx? (·.1)=none:=by rfl):PG X (.Tuple es k pos) (gD X.K (gL gl)) :=
 AH (U5 hc h hn gn) λv σ H Q V=>by
  obtain⟨w,env,d,U,T,S,R,Y,Z,k⟩:=V
  cases d with
  |lst P =>
   simp only[DV] at Y;obtain⟨p,O,e1,N,W⟩:=Y;subst T;exact⟨p,O,e1,N.sq,by rw[<- W.length];exact vQ Z,w,env,P,U,rfl,S,R,W,Z,k⟩
  |_=>cases Z
noncomputable def D9 (x:Str):List D:=x.cps.toList.map λc=>D.str ⟨#[c]⟩
def tO (f:abZ D):abZ (List D):=λenv s=>aj (f env s) λd s=>match d with
 | .str x=>ok (D9 x) s
 |_=>none
def JV {tg:Ġ} (hl:PE X a (tE X.K Ξ f)):PI X tg a (eU X.K Ξ (tO f)) :=
 sH (U3 hl) fun σ H R V=>by
  obtain⟨w,env,U,S,T,h⟩:=V;subst U;refine⟨w,env,rfl,S,T,(Out.aj h).mono λL d J Q W v P=>?_⟩
  cases d with
  |str x =>
   have e:v=.str x:=P;refine⟨x,e,au Q W _ λO I N i=>⟨λd Z=>?_,λhl=>?_⟩⟩
   ·unfold D9 at Z
    rw[í] at Z;obtain⟨c,Y,rfl⟩:=aa2.mp Z;rw[Ĥ] at Y;refine⟨(Array.getElem?_eq_some_iff.mp Y).1,λz G ⟨e1,F,e2,M⟩=>⟨O,e1.symm,Le.refl _,N,rfl,?_⟩⟩;rw[Y] at e2;cases e2;exact M
   ·show x.cps.size<=i
    unfold D9 at hl;rw[É,ò] at hl;exact hl
  |_=>exact W.elim
noncomputable def strs?:List D->Option (List Str)
 | []=>some []
 | .str x::r=>(strs? r).map (x::·)
 |_=>none
theorem HG {K:Ē} {w:Wd}:∀{ds:List D} {zs:List Str} {vs:List V},strs? ds=some zs->ak K w ds vs->vs=zs.map V.str
 | [],zs,vs,h,Z=>by cases h;exact Z
 |d::ds,zs,vs,h,Z=>by
  obtain⟨v,r,rfl,Y,X⟩:=Z
  cases d with
  |str x =>
   unfold strs? at h;obtain⟨W,U,rfl⟩:=aa2.mp h;rw[HG U X,show v=.str x from Y];rfl
  |_=>cases h
theorem GW {K:Ē} {w:Wd}:∀zs:List Str,ak K w (zs.map D.str) (zs.map V.str)
 | []=>rfl
 |z::zs=>⟨.str z,_,rfl,rfl,GW zs⟩
def hX (m:Str->D->aa->Res D) (f g:abZ D):abZ D:=λenv s=>aj (f env s) λd s=>match d with
 | .str y=>aj (g env s) λx s=>m y x s
 |_=>none
def jX (y:Str) (x:D) (s:aa):Res D:=match res x s with
 | .lst Z=>match strs? Z with
  |some zs=>if JoinOk y zs=true then ok (.str (ŧ y zs)) s else none
  |none=>none
 |_=>none
def oE (a:Str) (x:D) (s:aa):Res D:=match x with
 | .str y=>if (!(y.length==0)&&decide (a.length+2<=Ñ))=true then ok (.lst ((ĺ a y).map D.str)) s else none
 |_=>none
def wY {apos aO:Pos} (ho:PE X o (tE X.K Ξ f)) (ha:PE X a (tE X.K Ξ g))
  (iL:Ţ o "join" X.env (ļ o X.env)=ļ o X.env:=by rfl)
  (iS:((Ħ aO (Ë [a] X.env)).all (λx=>!x.1)&&(abJ aO (η [] X.env)).all (λx=>x.1.isSome)
   && decide (([a]:List Ġ).length+([]:List ź).length+(if ([]:List ź).isEmpty then 0 else 1)<30))=true:=by rfl)
  (iM:(apos.endLine==aO.line)=true:=by rfl) (hs:Ë [a] X.env=(false,ļ a X.env)::Ë [] X.env:=by rfl) (fW:(Ħ aO (Ë [] X.env)).any (·.1)=false:=by rfl) :
  PE X (.Call (.Attribute o "join" apos) [a] [] aO) (tE X.K Ξ (hX jX f g)) :=
 cg (qG PySem.F.plainAttrs_str PySem.F.slot_str_join PySem.F.type_str_join SE ho (gy ha iI hs) iL iS iM hs fW) fun σ H Q T=>by
  obtain⟨w,env,R,S,Y,h⟩:=T;subst R;refine⟨w,env,rfl,S,Y,(Out.aj h).mono λP d O N W v M=>?_⟩
  cases d with
  |str y =>
   have e:v=.str y:=M;subst e;refine⟨rfl,P,env,rfl,N,Y.le O,(Out.aj W).mono λD x C V Z u L=>?_⟩;unfold jX at Z;split at Z
   ·rename_i B J
    split at Z
    ·rename_i zs I
     split at Z
     ·rename_i G
      obtain⟨p,A,rfl,U,E⟩:=fU V L J;rw[HG I E] at U;exact⟨y,p,zs,rfl,rfl,aZ.of U,G,au V Z _ rfl⟩
     ·exact Z.elim
    ·exact Z.elim
   ·exact Z.elim
  |_=>exact W.elim
def wx {apos aO:Pos} (ho:PE X o (tE X.K Ξ f)) (ha:PE X a (tE X.K Ξ g))
  (iL:Ţ o "split" X.env (ļ o X.env)=ļ o X.env:=by rfl)
  (iS:((Ħ aO (Ë [a] X.env)).all (λx=>!x.1)&&(abJ aO (η [] X.env)).all (λx=>x.1.isSome)
   && decide (([a]:List Ġ).length+([]:List ź).length+(if ([]:List ź).isEmpty then 0 else 1)<30))=true:=by rfl)
  (iM:(apos.endLine==aO.line)=true:=by rfl) (hs:Ë [a] X.env=(false,ļ a X.env)::Ë [] X.env:=by rfl) (fW:(Ħ aO (Ë [] X.env)).any (·.1)=false:=by rfl) :
  PE X (.Call (.Attribute o "split" apos) [a] [] aO) (tE X.K Ξ (hX oE f g)) :=
 cg (qG PySem.F.plainAttrs_str PySem.F.slot_str_split PySem.F.type_str_split QW ho (gy ha iI hs) iL iS iM hs fW) fun σ H Q N=>by
  obtain⟨w,env,M,S,T,h⟩:=N;subst M;refine⟨w,env,rfl,S,T,(Out.aj h).mono λL d J I R v G=>?_⟩
  cases d with
  |str y =>
   have e:v=.str y:=G;subst e;refine⟨rfl,L,env,rfl,I,T.le J,(Out.aj R).mono λP x D O Y u E=>?_⟩;unfold oE at Y;split at Y
   ·rename_i z
    split at Y
    ·rename_i W
     rw[Æ,Ě,Ê] at W;have e:u=.str z:=E;subst e;refine⟨y,z,rfl,rfl,W.1,W.2,λp U=>?_⟩;exact Y (P.grow p (.lst ((ĺ y z).map V.str))) (Fw.grow U).le (O.grow U) rfl (.ref p) ⟨p,_,rfl,⟨(show ¬ P.Z p from kD O U),cu⟩,GW _⟩
    ·exact Y.elim
   ·exact Y.elim
  |_=>exact R.elim
def jt (ds:List D) (s:aa):Res D:=match ds with
 | [.int i]=>if decide (i.natAbs.log2<1920)=true then ok (.str (toString i)) s else none
 |_=>none
def qM:bY X (.type "str") (rC X.K Ξ jt):=by
 rintro Z s σ H U Y Q I r ⟨w,T,rfl,S,W,h⟩;unfold jt at h;split at h
 ·rename_i i
  split at h
  ·rename_i hi
   obtain⟨v,rfl,V⟩:=kE W;have e:v=.int i:=V;subst e;exact MI Z s σ w.H _ Y Q I r ⟨i,rfl,ð hi,au S h _ rfl⟩
  ·exact h.elim
 ·exact h.elim
def nj (ds:List D) (s:aa):Res D:=match ds with
 | [.str x]=>if decide (x.length<=640)=true then (match aat x with
  |some n=>ok (.int n) s
  |none=>none) else none
 |_=>none
def wZ:bY X (.type "int") (rC X.K Ξ nj):=by
 rintro Z s σ H T Y Q I r ⟨w,R,rfl,S,W,h⟩;unfold nj at h;split at h
 ·rename_i x
  split at h
  ·rename_i hi
   split at h
   ·rename_i n V
    obtain⟨v,rfl,U⟩:=kE W;have e:v=.str x:=U;subst e;exact MU Z s σ w.H _ Y Q I r ⟨x,n,rfl,ð hi,V,au S h _ rfl⟩
   ·exact h.elim
  ·exact h.elim
 ·exact h.elim
def Bw (x y:D) (s:aa):Res D:=match x,y with
 | .str i,.str j=>ok (.bl (!(Ĵ j i 0 j.length 1).isEmpty)) s
 |_,_=>none
def Wy:bt X (Ė .In) (rO X.K Ξ Bw):=by
 rintro Z s σ H x y v u Q I Y W ⟨w,T,R,rfl,S,V,U,h⟩;unfold Bw at h;split at h
 ·rename_i i j
  have e1:x=.str i:=V;have e2:y=.str j:=U;subst e1 e2;exact OH Z s σ w.H _ _ v u Q I Y W ⟨i,j,rfl,rfl,au S h _ rfl⟩
 ·exact h.elim
def xX (f g:abZ D):abZ D:=λenv s=>aj (f env s) λd s=>match d with
 | .str x=>if decide (x.length<=Ñ)=true then (if (x.length==0)=true then g env s else ok (.str x) s) else none
 |_=>none
def Wz {rest:List Ġ} (ha:PE X a (tE X.K Ξ f)) (hb:PE X (.BoolOp .Or (b::rest) pos) (tE X.K Ξ g)):PE X (.BoolOp .Or (a::b::rest) pos) (tE X.K Ξ (xX f g)):=by
 intro T s σ H Q I J;obtain⟨w,env,G,S,R,h⟩:=J;subst G
 refine PyProof.Rows.BoolOp_or (aH (ha T s σ w.H (λv V=>∃x,v=.str x/\x.length<=Ñ/\if (x.length==0)=true then tE X.K Ξ g σ V Q else Q (.str x) V) I ⟨w,env,rfl,S,R,(Out.aj h).mono λU d F P Z v E=>?_⟩) λv D ⟨x,V,C,O,W⟩=>?_)
 ·cases d with
  |str x =>
   have e:v=.str x:=E;subst e
   have Z:Out X.K Ξ U (if decide (x.length<=Ñ)=true then (if (x.length==0)=true then g env U.aw else ok (.str x) U.aw) else none) (λN d=>∀v,DV X.K N d v->Q v N.H):=Z
   split at Z
   ·rename_i B
    refine⟨x,rfl,ð B,?_⟩;split at Z
    ·rename_i Y
     rw[Þ Y];exact⟨U,env,rfl,P,R.le F,Z⟩
    ·rename_i Y
     rw[ì Y];exact au P Z _ rfl
   ·exact Z.elim
  |_=>exact Z.elim
 ·obtain⟨y,rfl,A,W⟩:=W
  refine Ĕ (AB T D σ V (.str y) v (λk z=>z=V/\k=((y.length:Int) != 0)) C O ⟨_,⟨A,rfl⟩,rfl,rfl⟩) (λk u ⟨M,L,e2,t⟩=>?_) λ_ _ h=>h;subst e2 t
  cases Y:((y.length:Int) != 0) with
  |true =>
   have:(y.length==0)=false:=by
    cases r:(y.length==0) with
    |false=>rfl
    |true=>rw[show y.length=0 by simpa using r] at Y;simp at Y
   rw[this,ì Õ] at W;exact⟨.str y,M,L,O,W⟩
  |false =>
   have:(y.length==0)=true:=by
    have q:y.length=0:=by simpa using Y
    rw[q];rfl
   rw[this,Þ rfl] at W;exact hb T u σ M Q L W
def xY {x y:Str} (h:∃t,X.mg x=some (.str y t)) (hg:Gl X x) (hd:(x==("__debug__":Str))=false:=by decide):PE X (.Name x pos) (tE X.K Ξ (eC (.str y))):=by
 obtain⟨t,e⟩:=h;exact oO (v:=.str y) (zW hg e ⟨t,rfl⟩ hd) λ_=>rfl
def ju (d:D) (s:aa):Res D:=match d with
 | .str x=>if decide (x.length<=Ñ)=true then ok (.str x) s else none
 | .int i=>if decide (i.natAbs.log2<1920)=true then ok (.str (toString i)) s else none
 |_=>none
def xr (ha:PE X a (tE X.K Ξ f)):PE X (.FormattedValue a (-1) none pos) (tE X.K Ξ (e1 ju f)):=by
 intro P s σ H Q I O;obtain⟨w,env,N,S,M,h⟩:=O;subst N;refine wpAny_FormattedValue_plain (aH (ha P s σ w.H (λv Y=>(∃x,v=.str x/\x.length<=Ñ/\Q (.str x) Y)\/∃i,v=.int i/\i.natAbs.log2<1920/\Q (.str (toString i)) Y) I ⟨w,env,rfl,S,M,(Out.aj h).mono λG d F U Z v T=>?_⟩) λv E ⟨x,Y,W,R,L⟩=>?_)
 ·unfold ju at Z
  split at Z
  ·rename_i x
   split at Z
   ·rename_i V
    exact .inl ⟨x,T,ð V,au U Z _ rfl⟩
   ·exact Z.elim
  ·rename_i i
   split at Z
   ·rename_i V
    exact .inr ⟨i,T,ð V,au U Z _ rfl⟩
   ·exact Z.elim
  ·exact Z.elim
 ·rcases L with ⟨y,rfl,J,q⟩ | ⟨i,rfl,hi,q⟩
  ·obtain⟨t,rfl⟩:=R
   exact wpAny_formatField_str ⟨.str y,Y,W,⟨_,rfl⟩,q⟩ ⟨.str y,Y,W.tok _,⟨_,rfl⟩,q⟩ J
  ·obtain⟨t,rfl⟩:=R
   exact wpAny_formatField_int hi ⟨.str (toString i),Y,W.tok _,⟨_,rfl⟩,q⟩
def lL:List (abZ D)->Str->abZ D
 | [],Z,env,s=>if decide (Z.length<=Ñ)=true then ok (.str Z) s else none
 |f::fs,Z,env,s=>aj (f env s) λd s=>match d with
  | .str y=>if decide ((Z++y).length<=Ñ)=true then lL fs (Z++y) env s else none
  |_=>none
inductive ja (X:Cx) (Ξ:Wd->aT->Prop):List Ġ->List (abZ D)->Prop
 |nil:ja X Ξ [] []
 |cons {e es f fs} (h:PE X e (tE X.K Ξ f)) (r:ja X Ξ es fs):ja X Ξ (e::es) (f::fs)
def QX {π:List (Ú×Obj)} {σ:St} {Q:VK} {env:Env}:∀{es:List Ġ} {fs:List (abZ D)},ja X Ξ es fs->∀{acc:Str} {w:Wd} {s:Ä},Inv X π σ w.H s->aI X.K w->bG X.K w env σ ->
  Out X.K Ξ w (lL fs acc env w.aw) (λw' d=>∀v,DV X.K w' d v->Q v w'.H)->Joins (ã X.prog X.w) X.A X.xe (evalEach es X.env) acc (λout bb=>out.length<=Ñ/\EP X π σ Q (.str out bb.toks) { bb with toks:=bb.toks+1 }) s:=by
 intro es fs P
 induction P with
 |nil =>
  intro acc w s I S W h;unfold lL at h;split at h
  ·rename_i V
   exact⟨ð V,.str acc,w.H,I.tok _,⟨_,rfl⟩,au S h _ rfl⟩
  ·exact h.elim
 |cons R r ih =>
  rename_i e es f fs;intro acc w s I S W h;refine aH (R π s σ w.H (λv T=>∃y Z,v=.str y/\Z.H=T/\aI X.K Z/\bG X.K Z env σ/\(acc++y).length<=Ñ/\Out X.K Ξ Z (lL fs (acc++y) env Z.aw) (λw' d=>∀v,DV X.K w' d v->Q v w'.H)) I ⟨w,env,rfl,S,W,(Out.aj h).mono λZ d O U Y v N=>?_⟩) λv E ⟨x,T,M,L,J⟩=>?_
  ·cases d with
   |str y =>
    have Y:Out X.K Ξ Z (if decide ((acc++y).length<=Ñ)=true then lL fs (acc++y) env Z.aw else none) _:=Y
    split at Y
    ·rename_i V
     exact⟨y,Z,N,rfl,U,W.le O,ð V,Y⟩
    ·exact Y.elim
   |_=>exact Y.elim
  ·obtain⟨y,Z,rfl,rfl,U,G,F,Y⟩:=J
   obtain⟨t,rfl⟩:=L;exact⟨y,t,rfl,F,ih M U G Y⟩
def U6 {e':Ġ} {fs:List (abZ D)} (h:ja X Ξ (e::e'::es) fs):PE X (.JoinedStr (e::e'::es) pos) (tE X.K Ξ (lL fs Str.empty)):=by
 intro U s σ H Q I Z;obtain⟨w,env,Y,S,W,V⟩:=Z;subst Y;exact wpAny_JoinedStr (QX h I S W V)
end
end DI
namespace DI.bj
open PySem L2 DI
noncomputable section
noncomputable def bx:List Str:=["NoBook","NoText"]
def sk:List D->aa->Res D:=aM 2 3 (ax (aU (aD p6 (af (ae 0) (af (ae 1) ah))) (gN 2)) (ax (bB (bg (e2 ua (ae 2) (e2 qI (eC (.int 10)) (eC (.int 18))))) (aG (eNew (af (e2 tm (ae 2) (e2 qI (eC (.int 10)) (eC (.int 18)))) (af (eC (.bl true)) ah)))) bQ) (aG (eNew (af (e2 gQ (ae 2) (eC (.int 2147483647))) (af (eC (.bl false)) ah))))))
def cH:List D->aa->Res D:=aM 2 4 (ax (bB (cN (e2 ar (ae 0) (eC (.int 1)))) (ax (aU (e2 gQ (e2 ar (ae 0) (eC (.int 0))) (ae 1)) (gN 2)) (ax (ma (e2 oQ (e2 ar (ae 0) (eC (.int 0))) (ae 1)) (ae 0) (eC (.int 0))) (aG (ae 2)))) bQ) (ax (ma (e2 gQ (e2 bO (e2 eQ (e2 ar (ae 0) (eC (.int 0))) (eC (.int 48271))) (eC (.int 29))) (eC (.int 2147483647))) (ae 0) (eC (.int 0))) (ax (aU (e2 gQ (e2 bO (e2 bO (e2 eQ (e2 ar (ae 0) (eC (.int 0))) (e2 ar (ae 0) (eC (.int 0)))) (e2 eQ (eC (.int 39373)) (e2 ar (ae 0) (eC (.int 0))))) (eC (.int 7))) (eC (.int 2147483629))) (gN 3)) (ax (aU (e2 gQ (e2 bO (e2 eQ (ae 3) (ae 3)) (e2 eQ (eC (.int 16807)) (ae 3))) (eC (.int 2147483587))) (gN 3)) (aG (e2 gQ (e2 oQ (ae 3) (eC (.int 8))) (ae 1)))))))
def vY:List D->aa->Res D:=aM 1 4 (ax (aU (e2 ar (eT (af (eC (.int 2)) (af (eC (.int 4)) (af (eC (.int 8)) ah)))) (aD cH (af (ae 0) (af (eC (.int 3)) ah)))) (gN 1)) (ax (aU (cB 1 [0] (dM (af (ae 1) ah)) (gN 0) dh (aD cH (af (ae 1) (af (eC (.int 3)) ah)))) (gN 2)) (ax (aU (eB ij (af (cB 1 [2] (dM (af (ae 1) ah)) (gN 0) (bg (e2 aY (e2 ar (ae 1) (ae 0)) (eC (.int 1)))) (ae 0)) ah)) (gN 3)) (aG (cD (af (ae 3) (af (eB ij (af (cB 1 [2] (dM (af (ae 1) ah)) (gN 0) (bg (e2 aY (e2 ar (ae 1) (ae 0)) (eC (.int 2)))) (ae 0)) ah)) ah)))))))
def wy:List D->aa->Res D:=aM 2 4 (ax (ue 2 3 (af (e2 ar (eT (af (eC (.int 0)) (af (aD cH (af (ae 0) (af (eC (.int 4)) ah))) ah))) (aD cH (af (ae 0) (af (eC (.int 2)) ah)))) (af (aD cH (af (ae 0) (af (ae 1) ah))) ah))) (ax (bB (bg (e2 aY (aD cH (af (ae 0) (af (eC (.int 3)) ah))) (eC (.int 0)))) (aG (cD (af (eC (.str "mended")) (af (ae 2) (af (ae 3) (af (aD cH (af (ae 0) (af (e2 ar (eT (af (eC (.int 2)) (af (eC (.int 4)) (af (eC (.int 8)) ah)))) (aD cH (af (ae 0) (af (eC (.int 3)) ah)))) ah))) ah)))))) bQ) (aG (cD (af (eC (.str "made")) (af (ae 2) (af (ae 3) (af (aD vY (af (ae 0) ah)) ah))))))))
def yQ:abZ Fl:=(ax (bB (gb (bg (e2 aY (e2 ar (ae 6) (eC (.int 0))) (eC (.str "mended")))) (gb (bg (e2 aY (e2 ar (ae 6) (eC (.int 1))) (ae 1))) (bg (e2 aY (e2 ar (ae 6) (eC (.int 3))) (ae 2))))) (kN (nv (ae 5) (e2 ar (ae 6) (eC (.int 2))))) bQ) (bB (gb (bg (e2 aY (e2 ar (ae 6) (eC (.int 0))) (eC (.str "made")))) (bg (e2 aY (e2 ar (ae 6) (eC (.int 1))) (ae 1)))) (ax (aU (e2 bO (ae 3) (e2 eQ (eT (af (e2 ar (ae 6) (eC (.int 2))) ah)) (eB qZ (af (e2 fm (ae 2) (e2 ar (e2 ar (ae 6) (eC (.int 3))) (eC (.int 0)))) ah)))) (gN 3)) (aU (e2 bO (ae 4) (e2 eQ (eT (af (e2 ar (ae 6) (eC (.int 2))) ah)) (eB qZ (af (e2 fm (ae 2) (e2 ar (e2 ar (ae 6) (eC (.int 3))) (eC (.int 1)))) ah)))) (gN 4))) bQ))
def yR:abZ Fl:=(ax (bB (gb (bg (e2 fm (ae 8) (ae 5))) (bg (e2 fm (ae 8) (ae 3)))) (aG (eC (.bl false))) bQ) (ax (aU (nL (e2 fm (ae 8) (ae 3)) (dA (ae 7) (e2 ig (ae 8) (ae 5)))) (gN 7)) (bB (gb (cN (ae 7)) (bg (e2 fm (ae 8) (ae 4)))) (aG (eC (.bl false))) bQ)))
def vi:List D->aa->Res D:=aM 3 9 (ax (xU 3 4 5 (af (eT ah) (af (eT ah) (af (eNew ah) ah)))) (ax (fQ (cO (ae 0)) (gN 6) yQ) (ax (aU (eC (.bl false)) (gN 7)) (ax (fQ (dM (af (eC (.int 31)) ah)) (gN 8) yR) (aG (eC (.bl true)))))))
def Fo:abZ Fl:=(bB (eG (cN (aD vi (af (ae 0) (af (ae 1) (af (ae 2) ah)))))) (aG (eC (.bl false))) bQ)
def Fp:abZ Fl:=(fQ (dM (af (eC (.int 8)) ah)) (gN 2) Fo)
def vE:List D->aa->Res D:=aM 1 3 (ax (bB (bg (e2 t9 (eB cy (af (ae 0) ah)) (eC (.int 24)))) (aG (eC (.bl false))) bQ) (ax (fQ (dM (af (eC (.int 4)) ah)) (gN 1) Fp) (aG (eC (.bl true)))))
def GX:abZ Fl:=(ax (aU (aD wy (af (ae 0) (af (ae 3) ah))) (gN 5)) (bB (gb (bg (e2 ig (ae 5) (ae 2))) (cN (aD vE (af (e2 bO (ae 2) (eT (af (ae 5) ah))) ah)))) (kN (nv (ae 2) (ae 5))) bQ))
def qq:List D->aa->Res D:=aM 2 6 (ax (ue 2 3 (af (eNew ah) (af (e2 ar (eT (af (eC (.int 31)) (af (eC (.int 6)) (af (eC (.int 12)) ah)))) (aD cH (af (ae 0) (af (eC (.int 3)) ah)))) ah))) (ax (fQ (dM (af (ae 1) ah)) (gN 4) GX) (aG (eB ij (af (eB TK.mU (af (ae 2) ah)) ah)))))
def pX:List D->aa->Res D:=aM 1 1 (bB (eG (cN (aD qa (af (ae 0) ah)))) (qB "NoBook" (af (eC (.str "a book is laid pages without faults")) ah)) bQ)
def rV:List D->aa->Res D:=aM 1 1 (aG (xX (hX jX (eC (.str "")) (cB 1 [] (cO (ae 0)) (gN 0) dh (eB jt (af (ae 0) ah)))) (eC (.str "-"))))
def vp:List D->aa->Res D:=aM 1 3 (ax (aU (ae 0) (gT [(gN 1),(gN 2)])) (aG (e2 bO (e2 bO (aD rV (af (ae 1) ah)) (eC (.str "/"))) (aD rV (af (ae 2) ah)))))
def vw:List D->aa->Res D:=aM 1 6 (ax (aU (ae 0) (gT [(gN 1),(gN 2),(gN 3),(gN 4)])) (ax (aU (nM (bg (e2 aY (ae 1) (eC (.str "made")))) (aD vp (af (ae 4) ah)) (eB jt (af (ae 4) ah))) (gN 5)) (aG (lL [(e1 ju (ae 1)),(eC (.str " ")),(e1 ju (ae 2)),(eC (.str " ")),(e1 ju (ae 3)),(eC (.str " ")),(e1 ju (ae 5))] Str.empty))))
def vz:List D->aa->Res D:=aM 1 1 (ax (kN (qD pX (af (ae 0) ah))) (aG (hX jX (eC (.str "")) (cB 1 [] (cO (ae 0)) (gN 0) dh (e2 bO (aD vw (af (ae 0) ah)) (eC (.str "\n")))))))
def fV:Nat->List D->aa->Res D
 |0=>λ_ _=>none
 |n+1=>aM 2 2 (ax (bB (cN (e1 qW (ae 1))) (ax (bB (gY (bg (e2 dW (eB cm (af (ae 0) (af (eC (.ty "list")) ah))) (eB cm (af (ae 1) (af (eC (.ty "list")) ah))))) (bg (e2 dW (eB cm (af (ae 0) (af (eC (.ty "tuple")) ah))) (eB cm (af (ae 1) (af (eC (.ty "tuple")) ah)))))) (aG (eC (.bl false))) bQ) (ax (bB (bg (e2 dW (eB cy (af (ae 0) ah)) (eB cy (af (ae 1) ah)))) (aG (eC (.bl false))) bQ) (aG (e2 ig (eC (.bl false)) (sM 2 [] (lY (af (ae 0) (af (ae 1) ah))) (gT [gN 0,gN 1]) dh (aD (fV n) (af (ae 0) (af (ae 1) ah)))))))) bQ) (aG (dA (e2 aY (eB cm (af (ae 0) (af (eC (.ty "bool")) ah))) (eB cm (af (ae 1) (af (eC (.ty "bool")) ah)))) (e2 aY (ae 0) (ae 1)))))
def rR:List D->aa->Res D:=aM 1 1 (aG (nM (bg (e2 dW (ae 0) (cD ah))) (hX jX (eC (.str "")) (cB 1 [] (cO (ae 0)) (gN 0) dh (eB jt (af (ae 0) ah)))) (eC (.str "-"))))
def rS:List D->aa->Res D:=aM 1 1 (aG (e2 bO (e2 bO (aD rR (af (e2 ar (ae 0) (eC (.int 0))) ah)) (eC (.str "/"))) (aD rR (af (e2 ar (ae 0) (eC (.int 1))) ah))))
def wz:List D->aa->Res D:=aM 1 2 (ax (aU (nM (bg (e2 aY (e2 ar (ae 0) (eC (.int 0))) (eC (.str "made")))) (aD rS (af (e2 ar (ae 0) (eC (.int 3))) ah)) (eB jt (af (e2 ar (ae 0) (eC (.int 3))) ah))) (gN 1)) (aG (e2 bO (e2 bO (e2 bO (e2 bO (e2 bO (e2 bO (e2 ar (ae 0) (eC (.int 0))) (eC (.str " "))) (eB jt (af (e2 ar (ae 0) (eC (.int 1))) ah))) (eC (.str " "))) (eB jt (af (e2 ar (ae 0) (eC (.int 2))) ah))) (eC (.str " "))) (ae 1))))
def FD:List D->aa->Res D:=aM 1 2 (ax (aU (eT (af (e1 (dC bx (isNm "NoMarks")) (ae 0)) (af (e1 (dC bx (isNm "NoSheet")) (ae 0)) (af (e1 (dC bx (isNm "NoPage")) (ae 0)) (af (e1 (dC bx (isNm "NoBook")) (ae 0)) ah))))) (gN 1)) (ax (aU (e2 bO (ae 1) (eT (af (e1 (dC bx (isNm "NoMould")) (ae 0)) (af (e1 (dC bx (isNm "NoDay")) (ae 0)) (af (e1 (dC bx (isNm "NoSort")) (ae 0)) (af (e1 (dC bx (isNm "NoNumber")) (ae 0)) ah)))))) (gN 1)) (ax (aU (e2 bO (ae 1) (eT (af (e1 (dC bx (isNm "NoSheets")) (ae 0)) (af (e1 (dC bx (isNm "NoRun")) (ae 0)) (af (e1 (dC bx (isNm "NoLaying")) (ae 0)) (af (e1 (dC bx (isNm "NoHeap")) (ae 0)) ah)))))) (gN 1)) (ax (aU (e2 bO (ae 1) (eT (af (e1 (dC bx (isNm "NoCount")) (ae 0)) (af (e1 (dC bx (isNm "Clash")) (ae 0)) (af (e1 (dC bx (isNm "NoDeed")) (ae 0)) (af (e1 (dC bx (isNm "NoText")) (ae 0)) ah)))))) (gN 1)) (aG (e2 bO (ae 1) (eT (af (e1 (dC bx (isNm "NoRow")) (ae 0)) (af (e1 (dC bx (isNm "TooMany")) (ae 0)) (af (e1 (dC bx (isNm "Lacking")) (ae 0)) ah))))))))))
def rX:List D->aa->Res D:=aM 1 1 (ax (bB (bg (e2 aY (ae 0) (eC (.str "-")))) (aG (cD ah)) bQ) (aG (eB ij (af (cB 1 [] (tO (ae 0)) (gN 0) dh (eB nj (af (ae 0) ah))) ah))))
def vF:List D->aa->Res D:=aM 1 3 (ax (aU (hX oE (ae 0) (eC (.str "/"))) (gL [(gN 1),(gN 2)])) (aG (cD (af (aD rX (af (ae 1) ah)) (af (aD rX (af (ae 2) ah)) ah)))))
def vL:List D->aa->Res D:=aM 1 6 (ax (aU (ae 0) (gL [(gN 1),(gN 2),(gN 3),(gN 4)])) (ax (aU (nM (bg (e2 aY (ae 1) (eC (.str "made")))) (aD vF (af (ae 4) ah)) (eB nj (af (ae 4) ah))) (gN 5)) (aG (cD (af (ae 1) (af (eB nj (af (ae 2) ah)) (af (eB nj (af (ae 3) ah)) (af (ae 5) ah))))))))
def rT:List D->aa->Res D:=aM 1 1 (aG (dA (rB pb pb (eC (.int 1)) (eB cy (af (ae 0) ah)) (eC (.int (30)))) (eB l9 (af (cB 1 [] (tO (ae 0)) (gN 0) dh (e2 Bw (ae 0) (eC (.str "0123456789")))) ah))))
def vh:List D->aa->Res D:=aM 1 2 (ax (aU (hX oE (ae 0) (eC (.str "/"))) (gN 1)) (aG (dA (e2 aY (eB cy (af (ae 1) ah)) (eC (.int 2))) (eB l9 (af (cB 1 [] (cO (ae 1)) (gN 0) dh (nL (e2 aY (ae 0) (eC (.str "-"))) (aD rT (af (ae 0) ah)))) ah)))))
def pW:List D->aa->Res D:=aM 1 1 (aG (dA (aD rT (af (ae 0) ah)) (nL (e2 dW (e2 ar (ae 0) (eC (.int 0))) (eC (.str "0"))) (e2 aY (ae 0) (eC (.str "0"))))))
def ve:List D->aa->Res D:=aM 1 5 (ax (bB (bg (e2 dW (eB cy (af (ae 0) ah)) (eC (.int 4)))) (aG (eC (.bl false))) bQ) (ax (aU (ae 0) (gL [(gN 1),(gN 2),(gN 3),(gN 4)])) (ax (bB (gY (eG (cN (aD pW (af (ae 2) ah)))) (eG (cN (aD pW (af (ae 3) ah))))) (aG (eC (.bl false))) bQ) (ax (bB (bg (e2 aY (ae 1) (eC (.str "made")))) (aG (aD vh (af (ae 4) ah))) bQ) (aG (dA (e2 aY (ae 1) (eC (.str "mended"))) (aD pW (af (ae 4) ah))))))))
def vA:List D->aa->Res D:=aM 1 2 (ax (aU (hX oE (ae 0) (eC (.str " "))) (gN 1)) (ax (bB (eG (cN (aD ve (af (ae 1) ah)))) (qB "NoText" (af (eC (.str "each line has the words of a page")) ah)) bQ) (aG (aD vL (af (ae 1) ah)))))
def n6:List D->aa->Res D:=aM 1 3 (ax (bB (eG (cN (eB cm (af (ae 0) (af (eC (.ty "str")) ah))))) (qB "NoText" (af (eC (.str "the text of a book is a text")) ah)) bQ) (ax (aU (hX oE (ae 0) (eC (.str "\n"))) (gN 1)) (ax (bB (bg (e2 dW (e2 ar (ae 1) (e1 tw (eC (.int 1)))) (eC (.str "")))) (qB "NoText" (af (eC (.str "behind each page stands a line end")) ah)) bQ) (ax (aU (eB ij (af (eB TK.mU (af (cB 1 [] (cO (pO (ae 1) pN (pd (e1 tw (eC (.int 1)))))) (gN 0) dh (aD vA (af (ae 0) ah))) ah)) ah)) (gN 2)) (ax (bB (eG (cN (aD qa (af (ae 2) ah)))) (qB "NoText" (af (eC (.str "the pages make no book")) ah)) bQ) (aG (ae 2)))))))
def ik (cl:D) (th:aa->Res D):List D->aa->Res D:=aM 1 3 (ni bx "told" (rN cl th 0) 1 (ax (aU (aD FD (af (ae 1) ah)) (gN 2)) (ax (bB (gY (eG (cN (e1 (dC bx anyS) (ae 1)))) (bg (e2 Bs (e1 Cr (ae 2)) (eC (.int 1))))) (aG (cD (af (eC (.str "other")) (af (eC .ao) ah)))) bQ) (ax (bB (cN (e2 ar (ae 2) (eC (.int 17)))) (aG (cD (af (eC (.str "many")) (af D6 ah)))) bQ) (ax (bB (cN (e2 ar (ae 2) (eC (.int 18)))) (aG (cD (af (eC (.str "lacking")) (af D6 ah)))) bQ) (aG (cD (af (eC (.str "refused")) (af (e1 D1 (ae 2)) ah)))))))))
def AW:abZ Fl:=(ax (aU (aD vz (af (ae 4) ah)) (gN 7)) (bB (gY (bg (e2 dW (ae 7) (hX jX (eC (.str "")) (ae 5)))) (gY (eG (cN (eB cm (af (ae 7) (af (eC (.ty "str")) ah))))) (eG (cN (aD (fV 8) (af (aD n6 (af (ae 7) ah)) (af (ae 4) ah))))))) (aG (eC (.bl false))) bQ))
def AX:abZ Fl:=(aU (e2 bO (ae 9) (xR (ae 8) (aD cH (af (ae 2) (af (eB cy (af (ae 8) ah)) ah))))) (gN 9))
def AY:abZ Fl:=(ax (aU (cB 1 [] (cO (ae 4)) (gN 0) dh (e2 bO (aD wz (af (ae 0) ah)) (eC (.str "\n")))) (gN 5)) (ax (fQ (dM (af (eC (.int 2)) ah)) (gN 6) AW) (ax (aU (cD (af (eB wO (af (ae 5) ah)) (af (eC (.str "")) ah))) (gT [(gN 8),(gN 9)])) (ax (fQ (dM (af (eB cy (af (ae 5) ah)) ah)) (gN 10) AX) (bB (eG (cN (aD (fV 8) (af (uj "law" [9] (qD n6 (af (ae 0) ah)) ik) (af (cD (af (eC (.str "told")) (af (ae 4) ah))) ah))))) (aG (eC (.bl false))) bQ)))))
def AZ:abZ Fl:=(ax (aU (aD sk (af (ae 0) (af (ae 1) ah))) (gN 2)) (ax (aU (cD (af (cD (af (eC (.str "made")) (af (eC (.int 3)) (af (eC (.int 30)) (af (cD (af (eB Bp (af (eC (.int 8)) ah)) (af (cD ah) ah))) ah))))) (af (cD (af (eC (.str "mended")) (af (eC (.int 2)) (af (eC (.int 7)) (af (eC (.int 7)) ah))))) ah))) (gN 3)) (fQ (cO (eT (af (aD qq (af (ae 2) (af (aD cH (af (ae 2) (af (eC (.int 30)) ah))) ah))) (af (cD ah) (af (ae 3) ah))))) (gN 4) AY)))
def xt:List D->aa->Res D:=aM 1 11 (ax (fQ (dM (af (eB qK (af (eC (.int 1)) (af (eB tD (af (eB cy (af (ae 0) ah)) (af (eC (.int 3)) ah))) ah))) ah)) (gN 1) AZ) (aG (eC (.bl true))))
end
end DI.bj
namespace DI
open PySem L2
def Wp {α:Type} (r:Res α) (Q:α->aa->Prop):Prop:=∃a s,r=some (.ok a,s)/\Q a s
section
variable {α β:Type} {r:Res α} {k:α->aa->Res β} {Q Q':α->aa->Prop} {R:β->aa->Prop} {env:Env} {s:aa}
theorem Wp.ok {a:α} (h:Q a s):Wp (DI.ok a s) Q:=⟨a,s,rfl,h⟩
def Wp.mono (h:Wp r Q) (i:∀a s,Q a s->Q' a s):Wp r Q':=by
 obtain⟨a,s,e,q⟩:=h;exact⟨a,s,e,i a s q⟩
theorem Wp.aj (h:Wp r λa s=>Wp (k a s) R):Wp (DI.aj r k) R:=by
 obtain⟨a,s,e,b,Z,Y,q⟩:=h;exact⟨b,Z,by rw[e];exact Y,q⟩
theorem Wp.ne (h:Wp r Q):Wp (DI.ne r) Q:=by
 obtain⟨a,s,e,q⟩:=h;exact⟨a,s,by rw[e];rfl,q⟩
def ab0 (e:r=some (.ok a,s)) (h:Q a s):Wp r Q:=⟨a,s,e,h⟩
def Wp.seq {f g:abZ Fl} {Q:Fl->aa->Prop} (h:Wp (f env s) λfl s=>match fl with
  | .nx env=>Wp (g env s) Q
  |fl=>Q fl s):Wp (ax f g env s) Q:=by
 obtain⟨fl,Z,e,h⟩:=h;unfold ax;rw[e]
 cases fl with
 |nx env=>exact h
 |rt d=>exact⟨_,_,rfl,h⟩
 |bk e=>exact⟨_,_,rfl,h⟩
 |ct e=>exact⟨_,_,rfl,h⟩
def Wp.mj {Q:Fl->aa->Prop} (I:Nat->Env->aa->Prop) (all:List D) (h0:I 0 env s)
 (step:∀i d env s,all[i]?=some d->I i env s->∃aA,g d env=some aA/\Wp (b aA s) λfl s=>match fl with
   | .nx e=>I (i+1) e s
   | .ct e=>I (i+1) e s
   | .bk e=>Q (.nx e) s
   | .rt d=>Q (.rt d) s) (fin:∀env s,I all.length env s->Q (.nx env) s):Wp (kO g b all env s) Q:=by
 have key:∀(Z:List D) (i:Nat) (env:Env) (s:aa),all.drop i=Z->i<=all.length->I i env s->Wp (kO g b Z env s) Q:=by
  intro Z
  induction Z with
  |nil =>
   intro i env s Y hi h;have e:i=all.length:=by
    have:=Ľ List.length Y;simp at this;omega
   subst e;exact Wp.ok (fin _ _ h)
  |cons d Z ih =>
   intro i env s Y hi h;have X:all[i]?=some d:=by
    have:=Ľ (λl=>l[0]?) Y;simpa using this
   have W:all.drop (i+1)=Z:=by
    have:=Ľ (List.drop 1) Y;simpa [List.drop_drop] using this
   obtain⟨aA,U,T⟩:=step i d env s X h;have V:=(È.mp X).1;unfold kO;rw[U];refine Wp.aj (T.mono λfl s q=>?_)
   cases fl with
   |nx e=>exact ih (i+1) e s W V q
   |ct e=>exact ih (i+1) e s W V q
   |bk e=>exact Wp.ok q
   |rt d=>exact Wp.ok q
 exact key all 0 env s rfl (ē _) h0
def SF {nt:Nat} {t:abZ Bool} {Q:List D->aa->Prop} (I:Nat->List D->aa->Prop) (all:List D) (h0:I 0 [] s)
 (step:∀i d acc s,all[i]?=some d->I i acc s->∃env,g d (Ò nt none++caps)=some env/\Wp (t env s) λb s=>if b=true then Wp (f env s) λx s=>I (i+1) (acc++[x]) s else I (i+1) acc s)
 (fin:∀acc s,I all.length acc s->Q acc s):Wp (fX nt caps g t f all s) Q:=by
 have key:∀(Z:List D) (i:Nat) (acc:List D) (s:aa),all.drop i=Z->i<=all.length->I i acc s->Wp (fX nt caps g t f Z s) λX s=>Q (acc++X) s:=by
  intro Z
  induction Z with
  |nil =>
   intro i acc s Y hi h;have e:i=all.length:=by
    have:=Ľ List.length Y;simp at this;omega
   subst e;exact Wp.ok (by rw[þ];exact fin _ _ h)
  |cons d Z ih =>
   intro i acc s Y hi h;have W:all[i]?=some d:=by
    have:=Ľ (λl=>l[0]?) Y;simpa using this
   have V:all.drop (i+1)=Z:=by
    have:=Ľ (List.drop 1) Y;simpa [List.drop_drop] using this
   obtain⟨R,T,S⟩:=step i d acc s W h;have U:=(È.mp W).1;unfold fX;rw[T];refine Wp.aj (Wp.ne (S.mono λb s q=>?_))
   cases b with
   |true =>
    rw[Þ rfl] at q |-;refine Wp.aj (Wp.ne (q.mono λx s q=>?_));refine Wp.aj ((ih (i+1) (acc++[x]) s V U q).mono λX s q=>Wp.ok ?_);rw[Ł] at q;exact q
   |false =>
    rw[ì Õ] at q |-;exact ih (i+1) acc s V U q
 have:=key all 0 [] s rfl (ē _) h0;simpa using this
end
section
variable {α β:Type} {Q:D->aa->Prop} {QL:List D->aa->Prop} {QB:Bool->aa->Prop} {QF:Fl->aa->Prop} {QO:Option Int->aa->Prop} {env:Env} {s:aa} {f g h:abZ D} {fa:abZ (List D)} {c c':abZ Bool} {st cF:abZ Fl} {o o':D->D->aa->Res D} {u:D->aa->Res D} {bf:List D->aa->Res D}
def bo {a:α} {Q:α->aa->Prop}:Wp (ok a s) Q=Q a s:=propext ⟨λ⟨b,Z,e,q⟩=>by cases e;exact q,λq=>⟨a,s,rfl,q⟩⟩
def IL {Q:α->aa->Prop}:Wp (some (Except.ok a,s)) Q=Q a s:=bo
def bR {r:Res α} {k:α->aa->Res β} {R:β->aa->Prop}:Wp (aj r k) R=Wp r λa s=>Wp (k a s) R:=propext ⟨λ⟨b,Z,e,q⟩=>by
 obtain⟨a,s,e1,e2⟩:=qf e;exact⟨a,s,e1,b,Z,e2,q⟩,λh=>Wp.aj h⟩
def xu {Q:α->aa->Prop}:Wp (ne r) Q=Wp r Q:=propext ⟨λ⟨b,Z,e,q⟩=>⟨b,Z,Al e,q⟩,λh=>h.ne⟩
def aQ {a:D} {r:Env}:Wp (ae 0 (some a::r) s) Q=Q a s:=by rw[show ae 0 (some a::r) s=ok a s from rfl,bo]
def bq {i:Nat} {a:Option D} {r:Env}:Wp (ae (i+1) (a::r) s) Q=Wp (ae i r s) Q:=by rw[show ae (i+1) (a::r) s=ae i r s from rfl]
def bX:Wp (eC d env s) Q=Q d s:=by rw[show eC d env s=ok d s from rfl,bo]
def Bx:Wp (e1 u f env s) Q=Wp (f env s) λx s=>Wp (u x s) Q:=by unfold e1;rw[bR]
def cL:Wp (e2 o f g env s) Q=Wp (f env s) λx s=>Wp (g env s) λy s=>Wp (o x y s) Q:=by unfold e2;simp only[bR]
def bz:Wp (ah env s) QL=QL [] s:=by unfold ah;rw[bo]
def bC:Wp (af f fa env s) QL=Wp (f env s) λx s=>Wp (fa env s) λxs s=>QL (x::xs) s:=by unfold af;simp only[bR,bo]
def ei:Wp (eB bf fa env s) Q=Wp (fa env s) λds s=>Wp (bf ds s) Q:=by unfold eB;rw[bR]
def wp_call:Wp (aD fn fa env s) Q=Wp (fa env s) λds s=>Wp (fn ds s) Q:=by unfold aD;simp only[bR,xu]
def qh {Q:α->aa->Prop}:Wp (iN ds r) Q=(ds.length<=Ñ/\Wp r Q):=propext ⟨λ⟨b,Z,e,q⟩=>by
 unfold iN at e;split at e
 ·exact⟨by assumption,b,Z,e,q⟩
 ·(cases e),λ⟨Y,b,Z,e,q⟩=>⟨b,Z,by unfold iN;rw[Þ Y];exact e,q⟩⟩
def kJ:Wp (cD fa env s) Q=Wp (fa env s) λds s=>ds.length<=Ñ/\Q (.tup ds) s:=by unfold cD;simp only[bR,qh,bo]
def qE:Wp (eT fa env s) Q=Wp (fa env s) λds s=>ds.length<=Ñ/\Q (.lst ds) s:=by unfold eT;simp only[bR,qh,bo]
def A0:Wp (eNew fa env s) Q=Wp (fa env s) λds s=>ds.length<=Ñ/\Q (.az s.length) (s++[.lst ds]):=by unfold eNew;simp only[bR,qh,bo]
def IM:Wp (B7 f env s) Q=Wp (f env s) λd s=>Wp (aV d s) Q:=by unfold B7;rw[bR]
def fY:Wp (bg f env s) QB=Wp (f env s) λd s=>Wp (gS d s) QB:=by unfold bg;rw[bR]
def cZ {b:Bool}:Wp (gS (.bl b) s) QB=QB b s:=by rw[show gS (.bl b) s=ok b s from rfl,bo]
def kK:Wp (cN f env s) QB=Wp (f env s) λd s=>Wp (truth d s) QB:=by unfold cN;rw[bR]
def je {b:Bool}:Wp (truth (.bl b) s) QB=QB b s:=by rw[show truth (.bl b) s=ok b s from rfl,bo]
def sC:Wp (gb c c' env s) QB=Wp (c env s) λb s=>if b=true then Wp (c' env s) QB else QB false s:=by
 unfold gb;rw[bR];congr 1;funext b s
 cases b<;>simp[bo]
def sP:Wp (gY c c' env s) QB=Wp (c env s) λb s=>if b=true then QB true s else Wp (c' env s) QB:=by
 unfold gY;rw[bR];congr 1;funext b s
 cases b<;>simp[bo]
def mM:Wp (eG c env s) QB=Wp (c env s) λb s=>QB (!b) s:=by unfold eG;simp only[bR,bo]
def ot:Wp (dA f g env s) Q=Wp (f env s) λx s=>Wp (gS x s) λb s=>if b=true then Wp (g env s) Q else Q (.bl false) s:=by
 unfold dA;rw[bR];congr 1;funext x s;rw[bR];congr 1;funext b s
 cases b<;>simp[bo]
def sQ:Wp (nL f g env s) Q=Wp (f env s) λx s=>Wp (gS x s) λb s=>if b=true then Q (.bl true) s else Wp (g env s) Q:=by
 unfold nL;rw[bR];congr 1;funext x s;rw[bR];congr 1;funext b s
 cases b<;>simp[bo]
def HH:Wp (t5 f env s) Q=Wp (f env s) λx s=>Wp (gS x s) λb s=>Q (.bl (!b)) s:=by unfold t5;simp only[bR,bo]
def mV:Wp (nM c f g env s) Q=Wp (c env s) λb s=>if b=true then Wp (f env s) Q else Wp (g env s) Q:=by
 unfold nM;rw[bR];congr 1;funext b s
 cases b<;>simp
def A1:Wp (rB o o' f g h env s) Q=Wp (f env s) λx s=>Wp (g env s) λy s=>Wp (o x y s) λz s=>Wp (gS z s) λb s=>if b=true then Wp (h env s) λu s=>Wp (o' y u s) Q else Q (.bl false) s:=by
 unfold rB;simp only[bR];congr 1;funext x s;congr 1;funext y s;congr 1;funext z s;congr 1;funext b s
 cases b<;>simp[bo,bR]
def fx:Wp (bQ env s) QF=QF (.nx env) s:=by unfold bQ;rw[bo]
def cQ:Wp (aG f env s) QF=Wp (f env s) λd s=>QF (.rt d) s:=by unfold aG;simp only[bR,bo]
def vZ:Wp (kN f env s) QF=Wp (f env s) λ_ s=>QF (.nx env) s:=by unfold kN;simp only[bR,bo]
def GY:Wp (Jr env s) QF=QF (.ct env) s:=by unfold Jr;rw[bo]
def kq (st:abZ Fl) (Q:Fl->aa->Prop):Fl->aa->Prop:=λfl s=>match fl with
 | .nx env=>Wp (st env s) Q
 |fl=>Q fl s
def Ao:Wp (ax st cF env s) QF=Wp (st env s) (kq cF QF):=propext ⟨λh=>by
 unfold ax at h;rw[bR] at h;refine h.mono λZ s q=>?_
 cases Z with
 |nx e=>exact q
 |rt d=>have q:Wp (ok (Fl.rt d) s) QF:=q;rw[bo] at q;exact q
 |bk d=>have q:Wp (ok (Fl.bk d) s) QF:=q;rw[bo] at q;exact q
 |ct d=>have q:Wp (ok (Fl.ct d) s) QF:=q;rw[bo] at q;exact q,λh=>Wp.seq (h.mono λZ s q=>by cases Z<;>exact q)⟩
def ab2 (h:∀R,R=cF->Wp (st env s) (kq R QF)):Wp (ax st cF env s) QF:=by rw[Ao];exact h _ rfl
def bS:kq st QF (.nx env) s=Wp (st env s) QF:=rfl
def oF:kq st QF (.rt d) s=QF (.rt d) s:=rfl
def IQ:kq st QF (.ct env) s=QF (.ct env) s:=rfl
def gB:Wp (bB c st cF env s) QF=Wp (c env s) λb s=>if b=true then Wp (st env s) QF else Wp (cF env s) QF:=by
 unfold bB;rw[bR];congr 1;funext b s
 cases b<;>simp
def eJ {gd:D->Env->Option Env}:Wp (aU f gd env s) QF=Wp (f env s) λd s=>∃e,gd d env=some e/\QF (.nx e) s:=by
 unfold aU;rw[bR];congr 1;funext d s
 cases h:gd d env with
 |none=>exact propext ⟨λ⟨_,_,e,_⟩=>(by cases e),λ⟨_,e,_⟩=>(by cases e)⟩
 |some e=>rw[bo];exact propext ⟨λq=>⟨e,rfl,q⟩,λ⟨Z,z,q⟩=>by cases z;exact q⟩
def fF {i:Nat} {P:Env->Prop}:(∃e,gN i d env=some e/\P e)=P (env.set i (some d)):=propext ⟨λ⟨e,z,q⟩=>by cases z;exact q,λq=>⟨_,rfl,q⟩⟩
def By {P:Env->Prop}:(∃e,gT gs (.tup ds) env=some e/\P e)=∃e,fP gs ds env=some e/\P e:=rfl
def Ap {P:Env->Prop}:(∃e,fP [] [] env=some e/\P e)=P env:=propext ⟨λ⟨e,z,q⟩=>by cases z;exact q,λq=>⟨_,rfl,q⟩⟩
def zL {i:Nat} {P:Env->Prop}:(∃e,fP (gN i::gs) (d::ds) env=some e/\P e)=∃e,fP gs ds (env.set i (some d))=some e/\P e:=rfl
def wA {i j:Nat}:Wp (ue i j fa env s) QF=Wp (fa env s) λds s=>∃x y,ds=[x,y]/\QF (.nx ((env.set i (some x)).set j (some y))) s:=by
 unfold ue;rw[bR];congr 1;funext ds s
 match ds with
 | [x,y] =>
  show Wp (ok (Fl.nx ((env.set i (some x)).set j (some y))) s) QF=_;rw[bo];exact propext ⟨λq=>⟨x,y,rfl,q⟩,λ⟨Z,Y,e,q⟩=>by cases e;exact q⟩
 | []=>exact propext ⟨λ⟨_,_,e,_⟩=>(by cases e),λ⟨_,_,e,_⟩=>(by cases e)⟩
 | [_]=>exact propext ⟨λ⟨_,_,e,_⟩=>(by cases e),λ⟨_,_,e,_⟩=>(by cases e)⟩
 |_::_::_::_=>exact propext ⟨λ⟨_,_,e,_⟩=>(by cases e),λ⟨_,_,e,_⟩=>(by cases e)⟩
def IS {P:D->D->Prop}:(∃x' y',[x,y]=[x',y']/\P x' y')=P x y:=propext ⟨λ⟨_,_,e,q⟩=>by cases e;exact q,λq=>⟨x,y,rfl,q⟩⟩
def jM:Wp (fQ it gd st env s) QF=Wp (it env s) λds s=>Wp (kO gd st ds env s) QF:=by unfold fQ;rw[bR]
def HI {fo fi:abZ D}:Wp (ma f fo fi env s) QF=Wp (f env s) λx s=>Wp (fo env s) λd s=>Wp (fi env s) λn s=>∃s',j6 d n x s=some s'/\QF (.nx env) s':=by
 unfold ma;simp only[bR];congr 1;funext x s;congr 1;funext d s;congr 1;funext n s
 cases h:j6 d n x s with
 |none=>exact propext ⟨λ⟨_,_,e,_⟩=>(by cases e),λ⟨_,e,_⟩=>(by cases e)⟩
 |some e=>simp only[bo];exact propext ⟨λq=>⟨e,rfl,q⟩,λ⟨Z,z,q⟩=>by cases z;exact q⟩
def A2:Wp (nv f g env s) Q=Wp (f env s) λd s=>kU d s=true/\Wp (g env s) λx s=>Wp (qV d x s) Q:=by
 unfold nv;rw[bR];congr 1;funext d s
 cases h:kU d s with
 |true=>rw[Þ rfl,bR];simp
 |false=>rw[ì Õ];exact propext ⟨λ⟨_,_,e,_⟩=>(by cases e),λ⟨e,_⟩=>(by cases e)⟩
def Cu (Q:D->aa->Prop):Fl->aa->Prop:=λZ s=>match Z with
 | .rt d=>Q d s
 | .nx _=>Q .ao s
 |_=>False
def dS:Wp (aM np ns st ds s) Q=(ds.length=np/\Wp (st (ds.map some++Ò (ns-np) none) s) (Cu Q)):=by
 unfold aM;by_cases h:ds.length=np
 ·rw[Þ h,bR]
  refine propext ⟨λq=>⟨h,q.mono λZ s q=>?_⟩,λ⟨_,q⟩=>q.mono λZ s q=>?_⟩
  ·cases Z with
   |rt d=>exact(show Wp (ok d s) Q from q) |> λz=>by rw[bo] at z;exact z
   |nx e=>exact(show Wp (ok D.ao s) Q from q) |> λz=>by rw[bo] at z;exact z
   |bk e=>obtain⟨_,_,e,_⟩:=q;cases e
   |ct e=>obtain⟨_,_,e,_⟩:=q;cases e
  ·cases Z with
   |rt d=>exact Wp.ok q
   |nx e=>exact Wp.ok q
   |bk e=>exact q.elim
   |ct e=>exact q.elim
 ·rw[ì h]
  exact propext ⟨λ⟨_,_,e,_⟩=>(by cases e),λ⟨e,_⟩=>absurd e h⟩
def oG:Cu Q (.rt d) s=Q d s:=rfl
def IT:Cu Q (.nx env) s=Q .ao s:=rfl
def mO:Wp (cB nt cap it gd c f env s) Q=Wp (it env s) λds s=>ds.length<=Ñ/\Wp (fX nt (f6 cap env) gd c f ds s) λxs s=>Q (.lst xs) s:=by
 unfold cB;simp only[bR,qh,bo]
def Bz:Wp (pO f l' h' env s) Q=Wp (f env s) λd s=>Wp (l' env s) λlo s=>Wp (h' env s) λhi s=>Wp (oA d lo hi s) Q:=by unfold pO;simp only[bR]
def A3:Wp (pN env s) QO=QO none s:=by unfold pN;rw[bo]
def Aq {i:Int} (hi:f env s=ok (.int i) s):Wp (pd f env s) QO=QO (some i) s:=by unfold pd;rw[hi,dH,bo]
end
open DI.bj
def SG {cl:D} {th:aa->Res D} {r:Env} {s:aa}:rN cl th 0 (some cl::r) s=th s:=Þ rfl
def JW (b:abZ Fl) (cl:D) (r:Res D) (s:aa):Res D:=aj (ni bx "told" (λ_ _=>r) 1 b [some cl,none,none] s) λZ s=>match Z with
 | .rt d=>ok d s
 | .nx _=>ok .ao s
 |_=>none
def ou {cl:D} {th:aa->Res D} {s:aa} {b:abZ Fl}:aM 1 3 (ni bx "told" (rN cl th 0) 1 b) [cl] s=JW b cl (th s) s:=by
 show aj (ni bx "told" (rN cl th 0) 1 b [some cl,none,none] s) _=_;unfold ni;rw[SG];rfl
def A4 {cl d:D} {th:aa->Res D} {s s':aa} (h:th s=some (.ok d,s')):ik cl th [cl] s=ok (.tup [.str "told",d]) s':=by
 unfold ik;rw[ou,h];rfl
def FE {cl:D} {th:aa->Res D} {s s':aa} {m:Option Int} (h:th s=some (.error ⟨"NoBook",m⟩,s')):ik cl th [cl] s=ok (.tup [.str "refused",.int 3]) s':=by
 unfold ik;rw[ou,h]
 kernel_rfl
def FF {cl:D} {th:aa->Res D} {s s':aa} {m:Option Int} (h:th s=some (.error ⟨"NoText",m⟩,s')):ik cl th [cl] s=ok (.tup [.str "refused",.int 15]) s':=by
 unfold ik;rw[ou,h]
 kernel_rfl
def QY (cl:D) (th:aa->Res D) (s:aa):ik cl th [cl] s=ik .ao th [.ao] s:=by
 cases h:th s with
 |none=>unfold ik;rw[ou,ou,h];rfl
 |some q =>
  obtain⟨q,Y⟩:=q
  cases q with
  |ok d=>rw[A4 h,A4 h]
  |error x =>
   obtain⟨c,m⟩:=x;by_cases Z:decide (c∈bx)=true
   ·rw[Ê] at Z
    have e1:c="NoBook"\/c="NoText":=by simpa [bx] using Z
    rcases e1 with rfl|rfl
    ·rw[FE h,FE h]
    ·rw[FF h,FF h]
   ·unfold ik
    rw[ou,ou,h];unfold JW ni;dsimp only;rw[ì Z,ì Z]
end DI
namespace DI.bj
open PySem L2 DI
noncomputable def top (i:Nat):abM:=PySem.Challenge.pw_twinmoulds_k49_books_as_texts.main.body.getD i (.Pass ⟨0,0,0,0⟩)
noncomputable abbrev uq:List Str:=[ab6,"_law_k"]
noncomputable abbrev xZ:List Str:=[ab5,acb]
noncomputable abbrev KP:List Str:=[ab5]
noncomputable abbrev KQ:List Str:=[ab5,"_law_days"]
noncomputable abbrev KR:List Str:=[ab8,ace,ab7]
noncomputable abbrev KS:List Str:=[ab8]
noncomputable abbrev Cv:List Str:=["things"]
noncomputable abbrev cW:List Str:=["thing"]
noncomputable abbrev Cw:List Str:=["thing","many"]
noncomputable abbrev Cy:List Str:=["marks","others"]
noncomputable abbrev BA:List Str:=["pages","mould","mark","half"]
noncomputable abbrev tQ:List Str:=["pages","mould","mark"]
noncomputable abbrev BB:List Str:=["days","day","later"]
noncomputable abbrev BC:List Str:=["pages"]
noncomputable abbrev BD:List Str:=["marks"]
noncomputable abbrev JX:List Str:=["sheet"]
noncomputable abbrev JY:List Str:=["page"]
noncomputable abbrev BE:List Str:=["book"]
noncomputable abbrev WA:List Str:=[ab9,acd]
noncomputable abbrev BF:List Str:=["_law_marks"]
noncomputable abbrev BG:List Str:=["_law_sheet_here"]
noncomputable abbrev JZ:List Str:=[aca]
noncomputable abbrev J0:List Str:=["_law_e"]
noncomputable abbrev iQ:List Str:=["word"]
noncomputable abbrev xw:List Str:=["words"]
noncomputable abbrev J1:List Str:=["line"]
noncomputable abbrev J2:List Str:=["text"]
noncomputable abbrev J3:List Str:=["_law_call"]
noncomputable abbrev J4:List Str:=[ab6]
structure bE (K:Ē) (mg:Str->Option Å):Prop where
 MA:mg "ValueError"=none
 sR:mg "all"=none
 IU:mg "any"=none
 Ar:mg "bool"=none
 oH:mg "int"=none
 cf:mg "isinstance"=none
 iK:mg "len"=none
 wB:mg "list"=none
 U7:mg "max"=none
 U8:mg "min"=none
 ic:mg "range"=none
 U9:mg "set"=none
 zo:mg "sorted"=none
 mW:mg "str"=none
 iG:mg "tuple"=none
 IV:mg "zip"=none
 N9:eY K mg bx "NoMarks"
 Oa:eY K mg bx "NoSheet"
 O8:eY K mg bx "NoPage"
 O9:eY K mg bx "NoBook"
 Ob:eY K mg bx "NoMould"
 QZ:eY K mg bx "NoDay"
 Pa:eY K mg bx "NoSort"
 Nq:eY K mg bx "NoNumber"
 Nr:eY K mg bx "NoSheets"
 Q0:eY K mg bx "NoRun"
 Nt:eY K mg bx "NoLaying"
 Pb:eY K mg bx "NoHeap"
 Oc:eY K mg bx "NoCount"
 Q2:eY K mg bx "Clash"
 Pc:eY K mg bx "NoDeed"
 Pd:eY K mg bx "NoText"
 Q3:eY K mg bx "NoRow"
 Od:eY K mg bx "TooMany"
 Oe:eY K mg bx "Lacking"
 MB:qr K bx (.type "ValueError") anyS
 Pe:xV K mg "NoBook"
 vM:xV K mg "NoText"
 MC:LM K mg bx "MouldError"
 v5:∃t,mg "MARKS"=some (.int (8) t)
 vN:∃t,mg "MOULDS"=some (.int (4) t)
 wC:∃t,mg "DAYS"=some (.int (31) t)
 zM:∃t,mg "PAGES"=some (.int (24) t)
 A5:∃t,mg "HAS"=some (.int (0) t)
 zN:∃t,mg "LACKS"=some (.int (1) t)
 ze:∃t,mg "LONGEST"=some (.int (30) t)
 rY:∃t,mg "NOTHING"=some (.str "-" t)
 zf:∃t,mg "FIGURES"=some (.str "0123456789" t)
 Nu:GG K mg "_law_cell_at" (top 65) uq
 Pf:GG K mg "_law_state" (top 66) uq
 jH:GG K mg "_law_take" (top 67) xZ
 Ph:GG K mg "_law_sheet" (top 68) KP
 Q4:GG K mg "_law_page" (top 69) KQ
 Mi:GG K mg  acg (top 70) KR
 Nv:GG K mg "_law_is_book" (top 71) KS
 Q5:GG K mg "_law_book" (top 72) xZ
 E9:GG K mg "is_rising" (top 30) Cv
 MV:GG K mg "is_number" (top 25) cW
 yZ:GG K mg "is_below" (top 26) Cw
 FG:GG K mg "is_mark" (top 27) cW
 Fb:GG K mg "are_marks" (top 35) cW
 MW:GG K mg "are_apart" (top 37) Cy
 Nw:GG K mg "is_sheet" (top 36) cW
 Nx:GG K mg "is_mould" (top 28) cW
 Pj:GG K mg "is_day" (top 29) cW
 Of:GG K mg "is_page" (top 38) cW
 Ny:GG K mg "are_laid" (top 39) cW
 Fc:GG K mg "days_seen" (top 44) BA
 Mp:GG K mg "days_mended" (top 45) tQ
 Md:GG K mg "is_any_behind" (top 43) BB
 Og:GG K mg "clashes" (top 42) tQ
 MX:GG K mg "faults_of" (top 41) BC
 FH:GG K mg "is_book" (top 40) cW
 MY:GG K mg "need_book" (top 46) cW
 E2:GG K mg "marks_text" (top 53) BD
 MD:GG K mg "sheet_text" (top 54) JX
 MZ:GG K mg "page_text" (top 55) JY
 M0:GG K mg "book_text" (top 51) BE
 Q6:GG K mg "_law_same" (top 75) WA
 EU:GG K mg  ach (top 76) BF
 Mq:GG K mg  aci (top 77) BG
 Q7:GG K mg "_law_line" (top 78) JZ
 Nz:GG K mg "_law_classes" (top 73) J0
 Fq:GG K mg "marks_of" (top 63) iQ
 NA:GG K mg "sheet_of" (top 62) iQ
 Oh:GG K mg "page_of" (top 61) xw
 EV:GG K mg "are_figures" (top 60) iQ
 Me:GG K mg "is_sheet_word" (top 59) iQ
 yO:GG K mg "is_number_word" (top 58) iQ
 L9:GG K mg "are_page_words" (top 57) xw
 M6:GG K mg "read_page" (top 56) J1
 Fd:GG K mg "read_book" (top 52) J2
 SH:GG K mg "_law_met" (top 74) J3
section
variable {P:â} {w:Ą} {K:Ē} {mg:Str->Option Å} {base:Ī}
def NB (F:bE K mg):bU P w K mg base "_law_cell_at" (top 65) uq 1 p6:=λ{_ _} G =>
 bW G uq (by kernel_rfl) λY _ _ _ _ _ _ Z=>(aL (cE (bT (xO Z) (ag 1) (bV iO rfl F.iK iP (ay (ag 0))) (bF _)) (aF (aN (bA (ag 0) (ag 1)))) cC) (aF (aN aE)))
def Pk (F:bE K mg):bU P w K mg base "_law_state" (top 66) uq 2 sk:=λ{_ _} G =>
 bW G [ab6,"_law_k","_law_cell"] (by kernel_rfl) λZ _ _ _ _ _ _ Y=>(aL (cK 2 Z (aW F.Nu (NB F) Y (ba (ag 0) (ag 1)))) (aL (cE (bT Ku (ag 2) (bN Jv aE aE) (bF _)) (aF (aN (xm (ba (bN V2 (ag 2) (bN Jv aE aE)) fj)))) cC) (aF (aN (xm (ba (bN qJ (ag 2) aE) fj))))))
def jI (F:bE K mg):bU P w K mg base "_law_take" (top 67) xZ 1 cH:=λ{_ _} G =>
 bW G [ab5,acb,"_law_found","_law_mixed"] (by kernel_rfl) λZ _ _ _ _ _ _ Y=>(aL (cE (eh (bA (ag 0) aE)) (aL (cK 2 Z (bN qJ (bA (ag 0) aE) (ag 1))) (aL (JA (bN Ju (bA (ag 0) aE) (ag 1)) (ag 0) aE) (aF (aN (ag 2))))) cC) (aL (JA (bN qJ (bN dI (bN oR (bA (ag 0) aE) aE) aE) aE) (ag 0) aE) (aL (cK 3 Z (bN qJ (bN dI (bN dI (bN oR (bA (ag 0) aE) (bA (ag 0) aE)) (bN oR aE (bA (ag 0) aE))) aE) aE)) (aL (cK 3 Z (bN qJ (bN dI (bN oR (ag 3) (ag 3)) (bN oR aE (ag 3))) aE)) (aF (aN (bN qJ (bN Ju (ag 3) aE) (ag 1))))))))
def Pl (F:bE K mg):bU P w K mg base "_law_sheet" (top 68) KP 2 vY:=λ{_ _} G =>
 bW G [ab5,acb,"_law_parts","_law_has"] (by kernel_rfl) λY _ _ _ _ _ _ Z=>(aL (cK 1 Y (bA (gP (kH aE aE aE)) (aW F.jH (jI F) Z (ba (ag 0) aE)))) (aL (cK 2 Y (gI [ab7,ab5] (jf rfl F.ic (ay (ag 1))) (λ_ _ _ _ _ _=>⟨fC,(aW F.jH (jI F) Z (ba (ag 1) aE))⟩))) (aL (cK 3 Y (fM sx rfl F.iG jd (ay (gI [ab7,"_law_parts"] (jf rfl F.ic (ay (ag 1))) (λ_ _ _ _ _ _=>⟨(tj (bT (de Z) (bA (ag 1) (ag 0)) aE (bF _))),(ag 0)⟩))))) (aF (aN (eO (ba (ag 3) (fM sx rfl F.iG jd (ay (gI [ab7,"_law_parts"] (jf rfl F.ic (ay (ag 1))) (λ_ _ _ _ _ _=>⟨(tj (bT (de Z) (bA (ag 1) (ag 0)) aE (bF _))),(ag 0)⟩)))))))))))
def Q8 (F:bE K mg):bU P w K mg base "_law_page" (top 69) KQ 3 wy:=λ{_ _} G =>
 bW G [ab5,"_law_days",ace,"_law_day"] (by kernel_rfl) λY _ _ _ _ _ _ Z=>(aL (Iu 2 3 rfl Y (ba (bA (gP (ba aE (aW F.jH (jI F) Z (ba (ag 0) aE)))) (aW F.jH (jI F) Z (ba (ag 0) aE))) (aW F.jH (jI F) Z (ba (ag 0) (ag 1))))) (aL (cE (bT (de Z) (aW F.jH (jI F) Z (ba (ag 0) aE)) aE (bF _)) (aF (aN (eO (bh bu (bh (ag 2) (bh (ag 3) (bh (aW F.jH (jI F) Z (ba (ag 0) (bA (gP (kH aE aE aE)) (aW F.jH (jI F) Z (ba (ag 0) aE))))) dQ))))))) cC) (aF (aN (eO (bh bu (bh (ag 2) (bh (ag 3) (bh (aW F.Ph (Pl F) Z (ay (ag 0))) dQ)))))))))
def Mj (F:bE K mg):bU P w K mg base  acg (top 70) KR 1 vi:=λ{_ _} G =>
 bW G [ab8,ace,ab7,"_law_shown","_law_lacked","_law_mended",aca,"_law_sure","_law_day"] (by kernel_rfl) λY _ _ _ _ _ _ Z=>(aL (UK 3 4 5 rfl Y (kH (gP dQ) (gP dQ) (xm dQ))) (aL (lW Ō rfl (gF (ag 0)) (cw 6 Y) (aL (cE (PW.pt (w_and (bT (de Z) (bA (ag 6) aE) bu (bF _)) (w_and (bT (de Z) (bA (ag 6) aE) (ag 1) (bF _)) (lS (bT (de Z) (bA (ag 6) aE) (ag 2) (bF _)))))) (aF (AG (Jz (ag 5) (bA (ag 6) aE)))) cC) (aF (cE (PW.pt (w_and (bT (de Z) (bA (ag 6) aE) bu (bF _)) (lS (bT (de Z) (bA (ag 6) aE) (ag 1) (bF _))))) (aL (cK 3 Y (bN dI (ag 3) (bN oR (gP (ay (bA (ag 6) aE))) (fM JU rfl F.oH oT (ay (fB (kT Z) (ag 2) (bA (bA (ag 6) aE) aE) rfl)))))) (aF (cK 4 Y (bN dI (ag 4) (bN oR (gP (ay (bA (ag 6) aE))) (fM JU rfl F.oH oT (ay (fB (kT Z) (ag 2) (bA (bA (ag 6) aE) aE) rfl)))))))) cC)))) (aL (cK 7 Y fj) (aL (lW Ō rfl (jf rfl F.ic (ay aE)) (cw 8 Y) (aL (cE (PW.pt (w_and (bT (kT Z) (ag 8) (ag 5) rfl) (lS (bT (kT Z) (ag 8) (ag 3) rfl)))) (aF (aN fj)) cC) (aL (cK 7 Y (B9 (fB (kT Z) (ag 8) (ag 3) rfl) (fZ (fO (ag 7) (fZ (fB (Ak Z) (ag 8) (ag 5) rfl)))))) (aF (cE (PW.pt (w_and (eh (ag 7)) (lS (bT (kT Z) (ag 8) (ag 4) rfl)))) (aF (aN fj)) cC))))) (aF (aN fj))))))
def NC (F:bE K mg):bU P w K mg base "_law_is_book" (top 71) KS 2 vE:=λ{_ _} G =>
 bW G [ab8,ace,ab7] (by kernel_rfl) λZ _ _ _ _ _ _ Y=>(aL (cE (bT Xy (bV iO rfl F.iK iP (ay (ag 0))) aE (bF _)) (aF (aN fj)) cC) (aL (lW Ō rfl (jf rfl F.ic (ay aE)) (cw 1 Z) (aF (lW Ō rfl (jf rfl F.ic (ay aE)) (cw 2 Z) (aF (cE (gE (eh (aW F.Mi (Mj F) Y (kH (ag 0) (ag 1) (ag 2))))) (aF (aN fj)) cC))))) (aF (aN fj))))
def Q9 (F:bE K mg):bU P w K mg base "_law_book" (top 72) xZ 4 qq:=λ{_ _} G =>
 bW G [ab5,acb,ab8,"_law_days","_law_turn",aca] (by kernel_rfl) λY _ _ _ _ _ _ Z=>(aL (Iu 2 3 rfl Y (ba (xm dQ) (bA (gP (kH aE aE aE)) (aW F.jH (jI F) Z (ba (ag 0) aE))))) (aL (lW Ō rfl (jf rfl F.ic (ay (ag 1))) (cw 4 Y) (aL (cK 5 Y (aW F.Q4 (Q8 F) Z (ba (ag 0) (ag 3)))) (aF (cE (PW.pt (w_and (bT (Ak Z) (ag 5) (ag 2) rfl) (lS (eh (aW F.Nv (NC F) Z (ay (bN dI (ag 2) (gP (ay (ag 5)))))))))) (aF (AG (Jz (ag 2) (ag 5)))) cC)))) (aF (aN (fM sx rfl F.iG jd (ay (bV (TK.HD Z) rfl F.zo zD (ay (ag 2)))))))))
def Fe (F:bE K mg):bU P w K mg base "is_rising" (top 30) Cv 1 n5:=λ{_ _} G=>by
 have Z:(["ahead","behind"]:List Str).Nodup:=by decide +kernel
 exact bW G Cv (by kernel_rfl) λX _ _ _ _ _ _ Y=>(aF (aN (bV (tB rfl) rfl F.sR tF (ay (Hz (N:=["ahead","behind"]) (nt:=2) (cap:=[]) rfl (xn (by kernel_rfl)) (AI (qd 0 (qd 1 Aj))) (V1 rfl F.IV (ba (ag 0) (Kw (ag 0) (Jy aE) Kv))) (λcl C s H ex W=>⟨(ow rfl (oi (iH (i:=0) Z rfl (aa1 rfl)) (oi (iH (i:=1) Z rfl (aa1 rfl)) we))),fC,(fB (xO Y) (ag 0) (ag 1) (bF _))⟩))))))
def M7 (F:bE K mg):bU P w K mg base "is_number" (top 25) cW 1 yY:=λ{_ _} G =>
 bW G cW (by kernel_rfl) λZ _ _ _ _ _ _ Y=>(aF (aN (fO (bV iu rfl F.cf fT (ba (ag 0) (ix oT rfl F.oH))) (fO (Jq (bV iu rfl F.cf fT (ba (ag 0) (ix AL rfl F.Ar)))) (fZ (fB Ku (ag 0) aE (bF _)))))))
def za (F:bE K mg):bU P w K mg base "is_below" (top 26) Cw 2 p9:=λ{_ _} G =>
 bW G Cw (by kernel_rfl) λY _ _ _ _ _ _ Z=>(aF (aN (fO (aW F.MV (M7 F) Z (ay (ag 0))) (fZ (fB (xO Z) (ag 0) (ag 1) (bF _))))))
def FI (F:bE K mg):bU P w K mg base "is_mark" (top 27) cW 3 rZ:=λ{_ _} G =>
 bW G cW (by kernel_rfl) λY _ _ _ _ _ _ Z=>(aF (aN (aW F.yZ (za F) Z (ba (ag 0) (kW F.v5 rfl)))))
def Ff (F:bE K mg):bU P w K mg base "are_marks" (top 35) cW 4 rW:=λ{_ _} G =>
 bW G cW (by kernel_rfl) λY _ _ _ _ _ _ Z=>(aF (aN (fO (bV iu rfl F.cf fT (ba (ag 0) (ix jd rfl F.iG))) (fO (bV (tB rfl) rfl F.sR tF (ay (gI ["mark"] (gF (ag 0)) (λ_ _ _ _ _ _=>⟨fC,(aW F.FG (FI F) Z (ay (ag 0)))⟩)))) (fZ (aW F.E9 (Fe F) Z (ay (ag 0))))))))
def M8 (F:bE K mg):bU P w K mg base "are_apart" (top 37) Cy 1 vt:=λ{_ _} G =>
 bW G Cy (by kernel_rfl) λY _ _ _ _ _ _ Z=>(aF (aN (Jq (bV (Jx rfl) rfl F.IU JG (ay (gI ["mark","others"] (gF (ag 0)) (λ_ _ _ _ _ _=>⟨fC,(fB (kT Z) (ag 0) (ag 1) rfl)⟩)))))))
def ND (F:bE K mg):bU P w K mg base "is_sheet" (top 36) cW 5 vB:=λ{_ _} G =>
 bW G ["thing","has","lacks"] (by kernel_rfl) λY _ _ _ _ _ _ Z=>(aL (cE (PW.pt (w_or (gE (eh (bV iu rfl F.cf fT (ba (ag 0) (ix jd rfl F.iG))))) (mZ (bT (kS Z) (bV iO rfl F.iK iP (ay (ag 0))) aE (bF _))))) (aF (aN fj)) cC) (aL (m6 (ag 0) (s9 rfl (dF (cw 1 Y) (dF (cw 2 Y) mR)))) (aF (aN (fO (aW F.Fb (Ff F) Z (ay (ag 1))) (fO (aW F.Fb (Ff F) Z (ay (ag 2))) (fZ (aW F.MW (M8 F) Z (ba (ag 1) (ag 2))))))))))
def NF (F:bE K mg):bU P w K mg base "is_mould" (top 28) cW 3 vC:=λ{_ _} G =>
 bW G cW (by kernel_rfl) λY _ _ _ _ _ _ Z=>(aF (aN (aW F.yZ (za F) Z (ba (ag 0) (kW F.vN rfl)))))
def Pn (F:bE K mg):bU P w K mg base "is_day" (top 29) cW 3 vV:=λ{_ _} G =>
 bW G cW (by kernel_rfl) λY _ _ _ _ _ _ Z=>(aF (aN (aW F.yZ (za F) Z (ba (ag 0) (kW F.wC rfl)))))
def Oi (F:bE K mg):bU P w K mg base "is_page" (top 38) cW 6 vJ:=λ{_ _} G =>
 bW G ["thing","word","mould","day","what"] (by kernel_rfl) λY _ _ _ _ _ _ Z=>(aL (cE (PW.pt (w_or (gE (eh (bV iu rfl F.cf fT (ba (ag 0) (ix jd rfl F.iG))))) (mZ (bT (kS Z) (bV iO rfl F.iK iP (ay (ag 0))) aE (bF _))))) (aF (aN fj)) cC) (aL (m6 (ag 0) (s9 rfl (dF (cw 1 Y) (dF (cw 2 Y) (dF (cw 3 Y) (dF (cw 4 Y) mR)))))) (aL (cE (PW.pt (w_or (gE (eh (aW F.Nx (NF F) Z (ay (ag 2))))) (mZ (gE (eh (aW F.Pj (Pn F) Z (ay (ag 3)))))))) (aF (aN fj)) cC) (aL (cE (bT (de Z) (ag 1) bu (bF _)) (aF (aN (aW F.Nw (ND F) Z (ay (ag 4))))) cC) (aF (aN (fO (fB (de Z) (ag 1) bu (bF _)) (fZ (aW F.FG (FI F) Z (ay (ag 4)))))))))))
def NG (F:bE K mg):bU P w K mg base "are_laid" (top 39) cW 7 vD:=λ{_ _} G =>
 bW G cW (by kernel_rfl) λY _ _ _ _ _ _ Z=>(aF (aN (fO (bV iu rfl F.cf fT (ba (ag 0) (ix jd rfl F.iG))) (fO (fB xM (bV iO rfl F.iK iP (ay (ag 0))) (kW F.zM rfl) (bF _)) (fO (bV (tB rfl) rfl F.sR tF (ay (gI ["page"] (gF (ag 0)) (λ_ _ _ _ _ _=>⟨fC,(aW F.Of (Oi F) Z (ay (ag 0)))⟩)))) (fZ (aW F.E9 (Fe F) Z (ay (ag 0)))))))))
def Fg (F:bE K mg):bU P w K mg base "days_seen" (top 44) BA 1 mK:=λ{_ _} G =>
 bW G BA (by kernel_rfl) λY _ _ _ _ _ _ Z=>(aF (aN (gI ["page","mould","mark","half"] (gF (ag 0)) (λ_ _ _ _ _ _=>⟨(tj (PW.pt (w_and (bT (de Z) (bA (ag 0) aE) bu (bF _)) (w_and (bT (de Z) (bA (ag 0) aE) (ag 1) (bF _)) (lS (bT (kT Z) (ag 2) (bA (bA (ag 0) aE) (ag 3)) rfl)))))),(bA (ag 0) aE)⟩))))
def Mr (F:bE K mg):bU P w K mg base "days_mended" (top 45) tQ 1 vm:=λ{_ _} G =>
 bW G tQ (by kernel_rfl) λY _ _ _ _ _ _ Z=>(aF (aN (gI ["page","mould","mark"] (gF (ag 0)) (λ_ _ _ _ _ _=>⟨(tj (PW.pt (w_and (bT (de Z) (bA (ag 0) aE) bu (bF _)) (w_and (bT (de Z) (bA (ag 0) aE) (ag 1) (bF _)) (lS (bT (de Z) (bA (ag 0) aE) (ag 2) (bF _))))))),(bA (ag 0) aE)⟩))))
def Mf (F:bE K mg):bU P w K mg base "is_any_behind" (top 43) BB 1 vf:=λ{_ _} G =>
 bW G BB (by kernel_rfl) λY _ _ _ _ _ _ Z=>(aF (aN (bV (Jx rfl) rfl F.IU JG (ay (gI ["other","day","later"] (gF (ag 0)) (λ_ _ _ _ _ _=>⟨fC,(Hq (xO Z) xM (ag 1) (ag 0) (ag 2))⟩))))))
def Oj (F:bE K mg):bU P w K mg base "clashes" (top 42) tQ 2 sd:=λ{_ _} G=>by
 have Y:(["day","later","lacked","mended"]:List Str).Nodup:=by decide +kernel
 exact bW G ["pages","mould","mark","lacked","mended"] (by kernel_rfl) λX _ _ _ _ _ _ Z=>(aL (cK 3 X (aW F.Fc (Fg F) Z (bh (ag 0) (bh (ag 1) (bh (ag 2) (bh (kW F.zN rfl) dQ)))))) (aL (cK 4 X (aW F.Mp (Mr F) Z (kH (ag 0) (ag 1) (ag 2)))) (aF (aN (Se (N:=["day","later","lacked","mended"]) (nt:=2) (cap:=[3,4]) rfl (Jm (by kernel_rfl)) (qo 0) (wo 0) (qo 1) (wo 1) (gF (N4 (aW F.Fc (Fg F) Z (bh (ag 0) (bh (ag 1) (bh (ag 2) (bh (kW F.A5 rfl) dQ))))) rfl rfl F.zo zD rfl F.U9 V3)) (λcl C s H ex W=>⟨(iH (i:=0) Y rfl (aa1 rfl)),fC,(Uo rfl F.ic (ba (ag 0) (kW F.wC rfl))),(iH (i:=1) Y rfl (aa1 rfl)),(tj (PW.pt (w_and (PW.pt (w_or (bT (kT Z) (ag 1) (ag 2) rfl) (mZ (PW.pt (w_and (bT (de Z) (ag 1) (ag 0) (bF _)) (lS (bT (kT Z) (ag 0) (ag 3) rfl))))))) (lS (gE (eh (aW F.Md (Mf F) Z (kH (ag 3) (ag 0) (ag 1))))))))),(eO (ba (ag 0) (ag 1)))⟩))))))
def M9 (F:bE K mg):bU P w K mg base "faults_of" (top 41) BC 3 vv:=λ{_ _} G=>by
 have Z:(["mould","mark","day","later","pages"]:List Str).Nodup:=by decide +kernel
 exact bW G BC (by kernel_rfl) λX _ _ _ _ _ _ Y=>(aF (aN (Sg (N:=["mould","mark","day","later","pages"]) (nt:=4) (cap:=[0]) rfl (Jm (by kernel_rfl)) (qo 0) (wo 0) (qo 1) (wo 1) (AI (qd 2 (qd 3 Aj))) (AD [2,3]) (jf rfl F.ic (ay (kW F.vN rfl))) (λcl C s H ex W=>⟨(iH (i:=0) Z rfl (aa1 rfl)),fC,(jf rfl F.ic (ay (kW F.v5 rfl))),(iH (i:=1) Z rfl (aa1 rfl)),fC,(gF (aW F.Og (Oj F) Y (kH (ag 4) (ag 0) (ag 1)))),(ow rfl (oi (iH (i:=2) Z rfl (aa1 rfl)) (oi (iH (i:=3) Z rfl (aa1 rfl)) we))),fC,(eO (bh (ag 0) (bh (ag 1) (bh (ag 2) (bh (ag 3) dQ)))))⟩))))
def FJ (F:bE K mg):bU P w K mg base "is_book" (top 40) cW 8 qa:=λ{_ _} G =>
 bW G cW (by kernel_rfl) λY _ _ _ _ _ _ Z=>(aF (aN (fO (aW F.Ny (NG F) Z (ay (ag 0))) (fZ (TK.UI (aW F.MX (M9 F) Z (ay (ag 0))))))))
def Na (F:bE K mg):rP P w K mg base "need_book" (top 46) cW 9 pX:=λ{_ _} G =>
 wR G cW (by kernel_rfl) λY _ _ _ _ _ _ Z L=>(aF (cE (gE (eh (aW F.FH (FJ F) Z (ay (ag 0))))) (aF (sA L F.Pe (ay bu))) cC))
def E3 (F:bE K mg):bU P w K mg base "marks_text" (top 53) BD 1 rV:=λ{_ _} G =>
 bW G BD (by kernel_rfl) λZ _ _ _ _ _ _ Y=>(aF (aN (Wz (wY bu (gI ["mark"] (gF (ag 0)) (λ_ _ _ _ _ _=>⟨fC,(fM qM rfl F.mW m8 (ay (ag 0)))⟩))) (fZ (xY F.rY rfl)))))
def ME (F:bE K mg):bU P w K mg base "sheet_text" (top 54) JX 2 vp:=λ{_ _} G =>
 bW G ["sheet","has","lacks"] (by kernel_rfl) λZ _ _ _ _ _ _ Y=>(aL (m6 (ag 0) (s9 rfl (dF (cw 1 Z) (dF (cw 2 Z) mR)))) (aF (aN (bN dI (bN dI (aW F.E2 (E3 F) Y (ay (ag 1))) bu) (aW F.E2 (E3 F) Y (ay (ag 2)))))))
def Nb (F:bE K mg):bU P w K mg base "page_text" (top 55) JY 3 vw:=λ{_ _} G =>
 bW G ["page","word","mould","day","what","last"] (by kernel_rfl) λZ _ _ _ _ _ _ Y=>(aL (m6 (ag 0) (s9 rfl (dF (cw 1 Z) (dF (cw 2 Z) (dF (cw 3 Z) (dF (cw 4 Z) mR)))))) (aL (cK 5 Z (xG (bT (de Y) (ag 1) bu (bF _)) (aW F.MD (ME F) Y (ay (ag 4))) (fM qM rfl F.mW m8 (ay (ag 4))))) (aF (aN (U6 (ja.cons (xr (ag 1)) (ja.cons bu (ja.cons (xr (ag 2)) (ja.cons bu (ja.cons (xr (ag 3)) (ja.cons bu (ja.cons (xr (ag 5)) ja.nil))))))))))))
def Nc (F:bE K mg):rP P w K mg base "book_text" (top 51) BE 10 vz:=λ{_ _} G =>
 wR G BE (by kernel_rfl) λY _ _ _ _ _ _ Z L=>(aL (AG (JT F.MY (Na F) (IH L) Z (ay (ag 0)))) (aF (aN (wY bu (gI ["page"] (gF (ag 0)) (λ_ _ _ _ _ _=>⟨fC,(bN dI (aW F.MZ (Nb F) Z (ay (ag 0))) bu)⟩))))))
def GZ:oo [ab9,acd] [ab9,acd] (cG (top 75)):=⟨rfl,rfl,rfl,by decide +kernel,rfl,by decide +kernel,by decide +kernel⟩
theorem zO (F:bE K mg) {f:Ú} {fd:ĝ} (G:Gd K mg "_law_same" (top 75) [ab9,acd] f fd):∀n,cR P w K mg base dg (1+n) f fd [ab9,acd] (i5 K (fV n))
 |0=>V6 λ_ _=>rfl
 |n+1=>by
  have Y:(["_law_one",acf]:List Str).Nodup:=by decide +kernel
  have X:=GZ.nd;have ih:=zO F G n;exact Jt G.fn GZ λW A outer s H E Z=>(aL (cE (eh (SD (ag 1) rfl F.cf fT (wc rfl F.iG jd rfl) (wc rfl F.wB wL rfl))) (aL (cE (PW.pt (w_or (bT (kS Z) (bV iu rfl F.cf fT (ba (ag 0) (ix wL rfl F.wB))) (bV iu rfl F.cf fT (ba (ag 1) (ix wL rfl F.wB))) (bF _)) (mZ (bT (kS Z) (bV iu rfl F.cf fT (ba (ag 0) (ix jd rfl F.iG))) (bV iu rfl F.cf fT (ba (ag 1) (ix jd rfl F.iG))) (bF _))))) (aF (aN fj)) cC) (aL (cE (bT (kS Z) (bV iO rfl F.iK iP (ay (ag 0))) (bV iO rfl F.iK iP (ay (ag 1))) (bF _)) (aF (aN fj)) cC) (aF (aN (fB (Ak Z) fj (QG (N:=["_law_one",acf]) (nt:=2) (cap:=[]) rfl (xn (by kernel_rfl)) (AI (qd 0 (qd 1 Aj))) (UL rfl F.IV (ba (ag 0) (ag 1))) (λcl C s H ex V=>⟨(ow rfl (oi (iH (i:=0) Y rfl (aa1 rfl)) (oi (iH (i:=1) Y rfl (aa1 rfl)) we))),fC,(wK ih Z rfl G.mg G.fn.kp G.b (ba (ag 0) (ag 1)))⟩)) rfl))))) cC) (aF (aN (fO (fB (de Z) (bV iu rfl F.cf fT (ba (ag 0) (ix AL rfl F.Ar))) (bV iu rfl F.cf fT (ba (ag 1) (ix AL rfl F.Ar))) (bF _)) (fZ (fB (de Z) (ag 0) (ag 1) (bF _)))))))
def EW (F:bE K mg):bU P w K mg base  ach (top 76) BF 1 rR:=λ{_ _} G =>
 bW G BF (by kernel_rfl) λY _ _ _ _ _ _ Z=>(aF (aN (xG (bT (kS Z) (ag 0) (eO dQ) (bF _)) (wY bu (gI [ab7] (gF (ag 0)) (λ_ _ _ _ _ _=>⟨fC,(fM qM rfl F.mW m8 (ay (ag 0)))⟩))) bu)))
def Ms (F:bE K mg):bU P w K mg base  aci (top 77) BG 2 rS:=λ{_ _} G =>
 bW G BG (by kernel_rfl) λY _ _ _ _ _ _ Z=>(aF (aN (bN dI (bN dI (aW F.EU (EW F) Z (ay (bA (ag 0) aE))) bu) (aW F.EU (EW F) Z (ay (bA (ag 0) aE))))))
def Ra (F:bE K mg):bU P w K mg base "_law_line" (top 78) JZ 3 wz:=λ{_ _} G =>
 bW G [aca,"_law_last"] (by kernel_rfl) λY _ _ _ _ _ _ Z=>(aL (cK 1 Y (xG (bT (de Z) (bA (ag 0) aE) bu (bF _)) (aW F.Mq (Ms F) Z (ay (bA (ag 0) aE))) (fM qM rfl F.mW m8 (ay (bA (ag 0) aE))))) (aF (aN (bN dI (bN dI (bN dI (bN dI (bN dI (bN dI (bA (ag 0) aE) bu) (fM qM rfl F.mW m8 (ay (bA (ag 0) aE)))) bu) (fM qM rfl F.mW m8 (ay (bA (ag 0) aE)))) bu) (ag 1)))))
def NH (F:bE K mg):LN P w K mg base "_law_classes" (top 73) J0 1 FD:=λ{_ _} G =>
 Ws G ["_law_e","_law_found"] (by kernel_rfl) λZ _ _ _ _ _ _ Y=>(aL (cK 1 Z (gP (bh (fz F.N9 (ag 0) F.cf) (bh (fz F.Oa (ag 0) F.cf) (bh (fz F.O8 (ag 0) F.cf) (bh (fz F.O9 (ag 0) F.cf) dQ)))))) (aL (cK 1 Z (bN dI (ag 1) (gP (bh (fz F.Ob (ag 0) F.cf) (bh (fz F.QZ (ag 0) F.cf) (bh (fz F.Pa (ag 0) F.cf) (bh (fz F.Nq (ag 0) F.cf) dQ))))))) (aL (cK 1 Z (bN dI (ag 1) (gP (bh (fz F.Nr (ag 0) F.cf) (bh (fz F.Q0 (ag 0) F.cf) (bh (fz F.Nt (ag 0) F.cf) (bh (fz F.Pb (ag 0) F.cf) dQ))))))) (aL (cK 1 Z (bN dI (ag 1) (gP (bh (fz F.Oc (ag 0) F.cf) (bh (fz F.Q2 (ag 0) F.cf) (bh (fz F.Pc (ag 0) F.cf) (bh (fz F.Pd (ag 0) F.cf) dQ))))))) (aF (aN (bN dI (ag 1) (gP (kH (fz F.Q3 (ag 0) F.cf) (fz F.Od (ag 0) F.cf) (fz F.Oe (ag 0) F.cf))))))))))
def Fs (F:bE K mg):bU P w K mg base "marks_of" (top 63) iQ 1 rX:=λ{_ _} G =>
 bW G iQ (by kernel_rfl) λY _ _ _ _ _ _ Z=>(aL (cE (bT (de Z) (ag 0) (xY F.rY rfl) (bF _)) (aF (aN (eO dQ))) cC) (aF (aN (fM sx rfl F.iG jd (ay (gI ["figure"] (JV (ag 0)) (λ_ _ _ _ _ _=>⟨fC,(fM wZ rfl F.oH oT (ay (ag 0)))⟩)))))))
def NI (F:bE K mg):bU P w K mg base "sheet_of" (top 62) iQ 2 vF:=λ{_ _} G =>
 bW G ["word","has","lacks"] (by kernel_rfl) λZ _ _ _ _ _ _ Y=>(aL (m6 (wx (ag 0) bu) (Bv rfl (dF (cw 1 Z) (dF (cw 2 Z) mR)))) (aF (aN (eO (ba (aW F.Fq (Fs F) Y (ay (ag 1))) (aW F.Fq (Fs F) Y (ay (ag 2))))))))
def Ol (F:bE K mg):bU P w K mg base "page_of" (top 61) xw 3 vL:=λ{_ _} G =>
 bW G ["words","word","mould","day","what","last"] (by kernel_rfl) λZ _ _ _ _ _ _ Y=>(aL (m6 (ag 0) (Bv rfl (dF (cw 1 Z) (dF (cw 2 Z) (dF (cw 3 Z) (dF (cw 4 Z) mR)))))) (aL (cK 5 Z (xG (bT (de Y) (ag 1) bu (bF _)) (aW F.NA (NI F) Y (ay (ag 4))) (fM wZ rfl F.oH oT (ay (ag 4))))) (aF (aN (eO (bh (ag 1) (bh (fM wZ rfl F.oH oT (ay (ag 2))) (bh (fM wZ rfl F.oH oT (ay (ag 3))) (bh (ag 5) dQ)))))))))
def EX (F:bE K mg):bU P w K mg base "are_figures" (top 60) iQ 1 rT:=λ{_ _} G =>
 bW G iQ (by kernel_rfl) λZ _ _ _ _ _ _ Y=>(aF (aN (fO (Hq xM xM aE (bV iO rfl F.iK iP (ay (ag 0))) (kW F.ze rfl)) (fZ (bV (tB rfl) rfl F.sR tF (ay (gI ["sign"] (JV (ag 0)) (λ_ _ _ _ _ _=>⟨fC,(fB Wy (ag 0) (xY F.zf rfl) rfl)⟩))))))))
def Mg (F:bE K mg):bU P w K mg base "is_sheet_word" (top 59) iQ 2 vh:=λ{_ _} G =>
 bW G ["word","halves"] (by kernel_rfl) λY _ _ _ _ _ _ Z=>(aL (cK 1 Y (wx (ag 0) bu)) (aF (aN (fO (fB (de Z) (bV iO rfl F.iK iP (ay (ag 1))) aE (bF _)) (fZ (bV (tB rfl) rfl F.sR tF (ay (gI ["half"] (gF (ag 1)) (λ_ _ _ _ _ _=>⟨fC,(B9 (fB (de Z) (ag 0) (xY F.rY rfl) (bF _)) (fZ (aW F.EV (EX F) Z (ay (ag 0)))))⟩)))))))))
def yP (F:bE K mg):bU P w K mg base "is_number_word" (top 58) iQ 2 pW:=λ{_ _} G =>
 bW G iQ (by kernel_rfl) λY _ _ _ _ _ _ Z=>(aF (aN (fO (aW F.EV (EX F) Z (ay (ag 0))) (fZ (B9 (fB (kS Z) (bA (ag 0) aE) bu (bF _)) (fZ (fB (de Z) (ag 0) bu (bF _))))))))
def Ma (F:bE K mg):bU P w K mg base "are_page_words" (top 57) xw 3 ve:=λ{_ _} G =>
 bW G ["words","word","mould","day","what"] (by kernel_rfl) λY _ _ _ _ _ _ Z=>(aL (cE (bT (kS Z) (bV iO rfl F.iK iP (ay (ag 0))) aE (bF _)) (aF (aN fj)) cC) (aL (m6 (ag 0) (Bv rfl (dF (cw 1 Y) (dF (cw 2 Y) (dF (cw 3 Y) (dF (cw 4 Y) mR)))))) (aL (cE (PW.pt (w_or (gE (eh (aW F.yO (yP F) Z (ay (ag 2))))) (mZ (gE (eh (aW F.yO (yP F) Z (ay (ag 3)))))))) (aF (aN fj)) cC) (aL (cE (bT (de Z) (ag 1) bu (bF _)) (aF (aN (aW F.Me (Mg F) Z (ay (ag 4))))) cC) (aF (aN (fO (fB (de Z) (ag 1) bu (bF _)) (fZ (aW F.yO (yP F) Z (ay (ag 4)))))))))))
def Nd (F:bE K mg):rP P w K mg base "read_page" (top 56) J1 4 vA:=λ{_ _} G =>
 wR G ["line","words"] (by kernel_rfl) λY _ _ _ _ _ _ Z L=>(aL (cK 1 Y (wx (ag 0) bu)) (aL (cE (gE (eh (aW F.L9 (Ma F) Z (ay (ag 1))))) (aF (sA L F.vM (ay bu))) cC) (aF (aN (aW F.Oh (Ol F) Z (ay (ag 1)))))))
def Fh (F:bE K mg):rP P w K mg base "read_book" (top 52) J2 9 n6:=λ{_ _} G =>
 wR G ["text","lines","book"] (by kernel_rfl) λY _ _ _ _ _ _ Z L=>(aL (cE (gE (eh (bV iu rfl F.cf fT (ba (ag 0) (ix m8 rfl F.mW))))) (aF (sA L F.vM (ay bu))) cC) (aL (cK 1 Y (wx (ag 0) bu)) (aL (cE (bT (kS Z) (bA (ag 1) (Kr Jw aE)) bu (bF _)) (aF (sA L F.vM (ay bu))) cC) (aL (cK 2 Y (fM sx rfl F.iG jd (ay (bV (TK.HD Z) rfl F.zo zD (ay (gI ["line"] (gF (Kw (ag 1) Kv (Jy (Kr Jw aE)))) (λ_ _ _ _ _ _=>⟨fC,(Br F.M6 (Nd F) Z (ay (ag 0)))⟩))))))) (aL (cE (gE (eh (aW F.FH (FJ F) Z (ay (ag 2))))) (aF (sA L F.vM (ay bu))) cC) (aF (aN (ag 2))))))))
def SI (F:bE K mg):LF P w K mg "_law_met" (top 74) J3 11 10 ik:=λ{_ _ _ _ _ _} T {_ _} G =>
 Wl G ["_law_call","_law_e","_law_some"] (by kernel_rfl) λZ _ _ _ _ _ _ X Y=>(aF (U2 T X (Y.mono (by decide)) F.MC (λ_=>(aL (cK 2 Z (Wt F.Nz (NH F) (Y.h.held _) (ay (ag 1)))) (aL (cE (PW.pt (w_or (gE (eh (U0 F.MB (ag 1) F.cf F.MA))) (mZ (bT Wu (UY (ag 2)) aE (bF _))))) (aF (aN (eO (ba bu V0)))) cC) (aL (cE (eh (bA (ag 2) aE)) (aF (aN (eO (ba bu KO)))) cC) (aL (cE (eh (bA (ag 2) aE)) (aF (aN (eO (ba bu KO)))) cC) (aF (aN (eO (ba bu (Wo (ag 2))))))))))) Z))
def Va (F:bE K mg) {c T:Ú} (ht:abW K "law"=some (c,T)) (hC:PySem.W.codeHdIn K c T=true) (hB:base.BuiltinsAt mg T) {f:Ú} {fd:ĝ} (G:Gd K mg "law" (top 79) J4 f fd) (hx:è K Ö "law"=some (some (.ref f))):cR P w K mg base dg 12 f fd J4 (i5 K xt):=by
 obtain⟨_,_,X⟩:=F.Q6;have V:([aca]:List Str).Nodup:=by decide +kernel
 exact Wq G hx ht [ab6,"_law_k",ab5,"_law_full","_law_book_here","_law_lines","_law_lap",ab9,"_law_left",acf,"_law_turn"] (by kernel_rfl) λY _ _ _ _ _ Z=>(aL (lW Ō rfl (jf rfl F.ic (ay (bV (Us rfl) rfl F.U7 V4 (ba aE (bV (Ut rfl) rfl F.U8 V5 (ba (bV iO rfl F.iK iP (ay (ag 0))) aE)))))) (cw 1 Y) (aL (cK 2 Y (aW F.Pf (Pk F) Z (ba (ag 0) (ag 1)))) (aL (cK 3 Y (eO (ba (eO (bh bu (bh aE (bh aE (bh (eO (ba (UJ (ay aE) rfl rfl F.iG rfl F.ic) (eO dQ))) dQ))))) (eO (bh bu (bh aE (bh aE (bh aE dQ)))))))) (aF (lW Ō rfl (gF (gP (kH (aW F.Q5 (Q9 F) Z (ba (ag 2) (aW F.jH (jI F) Z (ba (ag 2) aE)))) (eO dQ) (ag 3)))) (cw 4 Y) (aL (Sj 5 (N:=[aca]) (nt:=1) (cap:=[]) Y rfl (xn (by kernel_rfl)) (qo 0) (gF (ag 4)) (λcl C s H ex U=>⟨(iH (i:=0) V rfl (aa1 rfl)),fC,(bN dI (aW F.Q7 (Ra F) Z (ay (ag 0))) bu)⟩)) (aL (lW Ō rfl (jf rfl F.ic (ay aE)) (cw 6 Y) (aL (cK 7 Y (Br F.M0 (Nc F) Z (ay (ag 4)))) (aF (cE (PW.pt (w_or (bT (kS Z) (ag 7) (wY bu (ag 5)) (bF _)) (w_or (gE (eh (bV iu rfl F.cf fT (ba (ag 7) (ix m8 rfl F.mW))))) (mZ (gE (eh (wK (zO F X 8) (Z.mono (by decide)) rfl X.mg X.fn.kp X.b (ba (Br F.Fd (Fh F) Z (ay (ag 7))) (ag 4))))))))) (aF (aN fj)) cC)))) (aL (m6 (eO (ba (fM Sw rfl F.wB wL (ay (ag 5))) bu)) (s9 rfl (dF (cw 8 Y) (dF (cw 9 Y) mR)))) (aL (lW Ō rfl (jf rfl F.ic (ay (bV iO rfl F.iK iP (ay (ag 5))))) (cw 10 Y) (aF (cK 9 Y (bN dI (ag 9) (V9 (ag 8) (aW F.jH (jI F) Z (ba (ag 2) (bV iO rfl F.iK iP (ay (ag 8)))))))))) (aF (cE (gE (eh (wK (zO F X 8) (Z.mono (by decide)) rfl X.mg X.fn.kp X.b (ba (Wn [acf] rfl rfl ht hC hB F.SH (SI F) QY Z (λ_ _ _ _ _ _ _ _ _ _ Z L=>(JT F.Fd (Fh F) (IH L) Z (ay (ag 0))))) (eO (ba bu (ag 4))))))) (aF (aN fj)) cC))))))))))) (aF (aN fj)))
end
end DI.bj
namespace DI
open PySem L2
def jv (s:aa) (k:Nat):Prop:=∃a b:Int,s[k]?=some (.lst [.int a,.int b])/\0<=a/\0<=b/\b<2147483647
structure Ex (k:Nat) (s s':aa):Prop where
 len:s.length<=s'.length
 val:∀j,j<s.length->j≠k->s'[j]?=s[j]?
def Ex.refl (k:Nat) (s:aa):Ex k s s:=⟨ab3 _,λ_ _ _=>rfl⟩
theorem Ex.trans (h:Ex k a b) (g:Ex k b c):Ex k a c:=⟨à h.len g.len,λj Z Y=>(g.val j (Ç Z h.len) Y).trans (h.val j Z Y)⟩
theorem Ex.set (k:Nat) (s:aa) (c:Cell):Ex k s (s.set k c):=⟨by simp,λj _ Z=>Ý (Ź Z)⟩
def Ex.app (k:Nat) (s:aa) (c:List Cell):Ex k s (s++c):=⟨by simp,λj Z _=>Ü Z⟩
def jv.lt (h:jv s k):k<s.length:=by
 obtain⟨a,b,e,_⟩:=h;exact(È.mp e).1
def jv.app (h:jv s k) (c:List Cell):jv (s++c) k:=by
 obtain⟨a,b,e,r⟩:=h;exact⟨a,b,by rw[Ü (È.mp e).1];exact e,r⟩
theorem jv.set (h:jv s k) (hj:j≠k) (c:Cell):jv (s.set j c) k:=by
 obtain⟨a,b,e,r⟩:=h;exact⟨a,b,by rw[Ý hj];exact e,r⟩
def yG (x y:D) (k:Nat) (s:aa) (h:s[k]?=some (.lst [x,y])):ar (.az k) (.int 0) s=ok x s:=by
 simp[ar,nO,res,h,dj,dY,bM]
def Ea (x y:D) (k:Nat) (s:aa) (h:s[k]?=some (.lst [x,y])):ar (.az k) (.int 1) s=ok y s:=by
 simp[ar,nO,res,h,dj,dY,bM]
def Cz (x y z:D) (k:Nat) (s:aa) (h:s[k]?=some (.lst [x,y])):j6 (.az k) (.int 0) z s=some (s.set k (.lst [z,y])):=by
 simp[j6,h,dY]
def XW (x y z:D) (k:Nat) (s:aa) (h:s[k]?=some (.lst [x,y])):j6 (.az k) (.int 1) z s=some (s.set k (.lst [x,z])):=by
 simp[j6,h,dY]
@[simp] theorem w9 {a:D} {r:Env} {s:aa}:ae 0 (some a::r) s=ok a s:=rfl
@[simp] theorem xa {i:Nat} {a:Option D} {r:Env} {s:aa}:ae (i+1) (a::r) s=ae i r s:=rfl
def ltI (i j:Int) (s:aa):kY (.int i) (.int j) s=ok (.bl (decide (i<j))) s:=rfl
def Zu (i j:Int) (s:aa):t9 (.int i) (.int j) s=ok (.bl (decide (j<i))) s:=rfl
def Zv (i j:Int) (s:aa):ua (.int i) (.int j) s=ok (.bl (decide (j<=i))) s:=rfl
def Zw (i j:Int) (s:aa):pb (.int i) (.int j) s=ok (.bl (decide (i<=j))) s:=rfl
def KU (i j:Int) (s:aa):bO (.int i) (.int j) s=ok (.int (i+j)) s:=rfl
def XX (i j:Int) (s:aa):tm (.int i) (.int j) s=ok (.int (i-j)) s:=rfl
def Zx (i j:Int) (s:aa):aY (.int i) (.int j) s=ok (.bl (i==j)) s:=rfl
def Zy (i j:Int) (s:aa):dW (.int i) (.int j) s=ok (.bl (!(i==j))) s:=rfl
def q0 {i j:Int} (s:aa) (h:0<j):gQ (.int i) (.int j) s=ok (.int (i % j)) s:=by
 simp[gQ,Cd,h,bM]
def KW (s:aa) (h:0<j) (h2:j<1073741824):oQ (.int i) (.int j) s=ok (.int (i / j)) s:=by
 simp[oQ,Ce,h,h2,bM]
def uu (s:aa) (h:tu i j=true):eQ (.int i) (.int j) s=ok (.int (i*j)) s:=by
 simp[eQ,Cc,h,bM]
def mulOk_of (h1:-(2 ^ 64)<i) (h2:i<2 ^ 64):tu i j=true:=by
 unfold tu;rw[Ó h1,Ó h2];rfl
def le_size (h:n<=1000000):n<=Ñ:=à h (by decide)
def zP (h1:-1000000<=j) (h2:j<=1000000):kP j=true:=by
 unfold kP;rw[Ó (show -(2 ^ 62)<=j by omega),Ó (show j<2 ^ 62 by omega)];rfl
def xb {α:Type} {xs:List α} {i:Int} (h0:0<=i) (h1:i<xs.length):∃x,dj xs i=some x/\xs[i.toNat]?=some x:=by
 have Z:i.toNat<xs.length:=by omega
 refine⟨xs[i.toNat],?_,Ð Z⟩;unfold dj dY;rw[Þ h0,Þ h1];exact Ð Z
def SJ {ns:List Int} {i:Int} {s:aa} (h0:0<=i):∃c:Int,p6 [.bJ ns,.int i] s=ok (.int c) s:=by
 by_cases h:i<(ns.length:Int)
 ·obtain⟨x,Z,_⟩:=xb h0 h
  refine⟨x,?_⟩;have Y:ar (.bJ ns) (.int i) s=ok (.int x) s:=by simp[ar,nO,res,Z,bM]
  simp only[p6,aM,ax,bB,bg,e2,eB,af,ah,cy,l8,res,bM,w9,xa,eC,dH,á,Ő,Ę,Ķ,õ,đ,ô,ltI,gS,Ó h,aG,Y,Ò]
 ·refine⟨0,?_⟩
  simp only[p6,aM,ax,bB,bg,e2,eB,af,ah,cy,l8,res,bM,w9,xa,eC,dH,á,Ő,Ę,Ķ,õ,đ,ô,ltI,gS,ç h,Â,ä,bQ,aG,Ò]
structure ck (m:Nat) (ns:List Int):Prop where
 lo:∀x∈ns,0<=x/\x<m
 up:ns.Pairwise (· < ·)
noncomputable abbrev mD (ns:List Int):D:=.tup (ns.map D.int)
def ck.len (h:ck m ns):ns.length<=m:=by
 have key:∀(l:List Int) (b:Int),l.Pairwise (· < ·)->(∀x∈l,b<=x/\x<m)->(l.length:Int)<=m-b\/l=[]:=by
  intro l
  induction l with
  |nil=>intro b _ _;exact .inr rfl
  |cons x l ih =>
   intro b X Z;obtain⟨W,V⟩:=ó.mp X;have U:=Z x Ø;left
   rcases ih (x+1) V (λy Y=>⟨by have:=W y Y;omega,(Z y (Ï _ Y)).2⟩) with h|h
   ·rw[õ];omega
   ·subst h
    simp;omega
 rcases key ns 0 h.up h.lo with h'|h'
 ·omega
 ·subst h';simp
def jR (h:fa env s=ok [.int n] s1) (hn:n<=1000000):dM fa env s=ok (cj 0 n) s1:=by
 unfold dM;rw[h,dH]
 show (if kP (n:Int)=true then ok (cj 0 (n:Int).toNat) s1 else none)=_
 rw[Þ (zP (by omega) (by omega)),ł]
def HJ {n:Nat} {i:Int} (h:fa env s=ok [.int i] s1) (hi:i=n) (hn:n<=1000000):dM fa env s=ok (cj 0 n) s1:=by
 subst hi;exact jR h hn
def Vb (h:fa env s=ok [.int i,.int j] s1) (h1:-1000000<=i) (h2:i<=1000000) (h3:-1000000<=j) (h4:j<=1000000):yr fa env s=ok (cj i (j-i).toNat) s1:=by
 unfold yr;rw[h,dH]
 show (if (kP i&&kP j)=true then ok (cj i (j-i).toNat) s1 else none)=_
 rw[Þ (by rw[zP h1 h2,zP h3 h4];rfl)]
def IW:Wp (kY (.int i) (.int j) s) Q=Q (.bl (decide (i<j))) s:=by rw[ltI,bo]
def IY:Wp (t9 (.int i) (.int j) s) Q=Q (.bl (decide (j<i))) s:=by rw[Zu,bo]
def IZ:Wp (ua (.int i) (.int j) s) Q=Q (.bl (decide (j<=i))) s:=by rw[Zv,bo]
def sS:Wp (pb (.int i) (.int j) s) Q=Q (.bl (decide (i<=j))) s:=by rw[Zw,bo]
def HK:Wp (bO (.int i) (.int j) s) Q=Q (.int (i+j)) s:=by rw[KU,bo]
def HL:Wp (tm (.int i) (.int j) s) Q=Q (.int (i-j)) s:=by rw[XX,bo]
def A6:Wp (aY (.int i) (.int j) s) Q=Q (.bl (i==j)) s:=by rw[Zx,bo]
def A7:Wp (dW (.int i) (.int j) s) Q=Q (.bl (!(i==j))) s:=by rw[Zy,bo]
end DI
local macro_rules | `(tactic| simp only[VC])=>`(tactic| simp only[DI.bo,DI.IL,DI.xu,DI.aQ,DI.bq,DI.bX,DI.Bx,DI.cL,DI.bz,DI.bC,DI.ei,DI.wp_call,DI.kJ,DI.qE,DI.A0,DI.IM,DI.fY,DI.cZ,DI.kK,DI.je,DI.sC,DI.sP,DI.mM,DI.ot,DI.sQ,DI.HH,DI.mV,DI.A1,DI.fx,DI.cQ,DI.vZ,DI.GY,DI.Ao,DI.bS,DI.oF,DI.IQ,DI.gB,DI.eJ,DI.fF,DI.By,DI.Ap,DI.zL,DI.wA,DI.IS,DI.jM,DI.HI,DI.A2,DI.dS,DI.oG,DI.IT,DI.mO,DI.Bz,DI.A3,List.map_cons,List.map_nil,List.cons_append,List.nil_append,List.length_cons,List.length_nil,List.set_cons_succ,List.set_cons_zero,List.replicate,true_and,Nat.reduceSub,Nat.reduceAdd,DI.IW,DI.IY,DI.IZ,DI.sS,DI.HK,DI.HL,DI.A6,DI.A7])
local macro_rules | `(tactic| simp only[VC,$xs,*])=>`(tactic| simp only[DI.bo,DI.IL,DI.xu,DI.aQ,DI.bq,DI.bX,DI.Bx,DI.cL,DI.bz,DI.bC,DI.ei,DI.wp_call,DI.kJ,DI.qE,DI.A0,DI.IM,DI.fY,DI.cZ,DI.kK,DI.je,DI.sC,DI.sP,DI.mM,DI.ot,DI.sQ,DI.HH,DI.mV,DI.A1,DI.fx,DI.cQ,DI.vZ,DI.GY,DI.Ao,DI.bS,DI.oF,DI.IQ,DI.gB,DI.eJ,DI.fF,DI.By,DI.Ap,DI.zL,DI.wA,DI.IS,DI.jM,DI.HI,DI.A2,DI.dS,DI.oG,DI.IT,DI.mO,DI.Bz,DI.A3,List.map_cons,List.map_nil,List.cons_append,List.nil_append,List.length_cons,List.length_nil,List.set_cons_succ,List.set_cons_zero,List.replicate,true_and,Nat.reduceSub,Nat.reduceAdd,DI.IW,DI.IY,DI.IZ,DI.sS,DI.HK,DI.HL,DI.A6,DI.A7,$xs,*])
namespace DI
open PySem L2
def ab1 {α:Type} {r:Res α} {d:α} {s:aa} (h:Wp r λa s'=>a=d/\s'=s):r=DI.ok d s:=by
 obtain⟨a,s',e,rfl,rfl⟩:=h;exact e
def kA {f:abZ D} {env:Env} {s s1:aa} {ds:List D} (h:f env s=ok (.tup ds) s1):cO f env s=ok ds s1:=by
 unfold cO;rw[h];rfl
def oj (h:f env s=ok (.lst ds) s1):cO f env s=ok ds s1:=by
 unfold cO;rw[h];rfl
theorem se:∀(ns:List Int),c9 (ns.map D.int)=true
 | []=>rfl
 |n::ns=>by simp only[á,c9,lay,se ns,Ĭ]
def HM (x:Int) (ns:List Int):((ns.map D.int).any λy=>beq y (.int x))=decide (x∈ns):=by
 induction ns with
 |nil=>simp
 |cons n ns ih =>
  simp only[á,List.any_cons,ih,beq];by_cases h:n=x
  ·subst h;simp
  ·have Z:¬ x=n:=λe=>h e.symm
   simp[h,Z]
def qt {x:Int} {ns:List Int} {s:aa}:fm (.int x) (mD ns) s=ok (.bl (decide (x∈ns))) s:=by
 have Z:m7 100 (.int x) (ns.map D.int)=true:=by simp only[m7,lay,se,dep,Ĭ,ē,Ĩ]
 have e:inD (.int x) (ns.map D.int)=some (decide (x∈ns)):=by unfold inD;rw[Þ Z,HM]
 unfold fm;rw[show lX (mD ns) s=some (ns.map D.int) from rfl];simp only[e];rfl
noncomputable def sub (a b:List Int):Bool:=a.all λx=>decide (x∈b)
def qu {α:Type} (p:α->Bool) (xs:List α) (s:aa):l9 [.lst (xs.map λx=>D.bl (p x))] s=ok (.bl (xs.all p)) s:=by
 have e:gr (xs.map λx=>D.bl (p x))=some (xs.map p):=by
  have:=Sd (bs:=xs.map p);rw[ė] at this;exact this
 show bM ((gr (xs.map λx=>D.bl (p x))).map λ(bs:List Bool)=>D.bl (bs.all id)) s=_;rw[e];show ok (D.bl ((xs.map p).all id)) s=_;rw[List.all_map];rfl
def filter_tt {α:Type} (xs:List α):xs.filter (λ_=>true)=xs:=by simp
def zp {nt:Nat} {caps:Env} {g:D->Env->Option Env} {t:abZ Bool} {f:abZ D} {s:aa} (p:Int->Bool) (h:Int->D) (ns:List Int) (hh:∀n∈ns,∃env,g (.int n) (Ò nt none++caps)=some env/\t env s=ok (p n) s/\(p n=true->f env s=ok (h n) s)) :
  fX nt caps g t f (ns.map D.int) s=ok ((ns.filter p).map h) s:=by
 induction ns with
 |nil=>rfl
 |cons n ns ih =>
  obtain⟨env,Y,X,W⟩:=hh n Ø;have ih:=ih λV U=>hh V (Ï _ U);rw[á];unfold fX;rw[Y];simp only[X,oP,dH]
  cases Z:p n with
  |true=>simp only[ô,W Z,oP,dH,ih,Ŷ,Z,á]
  |false=>simp only[Â,ä,ih,Ŷ,Z]
def comp_map {α:Type} (d:α->D) (p:α->Bool) (h:α->D) (xs:List α) (hh:∀x∈xs,∃env,g (d x) (Ò nt none++caps)=some env/\t env s=ok (p x) s/\(p x=true->f env s=ok (h x) s)) :
  fX nt caps g t f (xs.map d) s=ok ((xs.filter p).map h) s:=by
 induction xs with
 |nil=>rfl
 |cons n T ih =>
  obtain⟨env,Y,X,W⟩:=hh n Ø;have ih:=ih λV U=>hh V (Ï _ U);rw[á];unfold fX;rw[Y];simp only[X,oP,dH]
  cases Z:p n with
  |true=>simp only[ô,W Z,oP,dH,ih,Ŷ,Z,á]
  |false=>simp only[Â,ä,ih,Ŷ,Z]
def Po:yY [.int i] s=ok (.bl (decide (0<=i))) s:=by
 rfl
def qb:p9 [.int i,.int m] s=ok (.bl (decide (0<=i)&&decide (i<m))) s:=by
 refine ab1 ?_;unfold p9;simp only[VC,Po];by_cases h:0<=i
 ·simp[h]
 ·simp[h]
def HN:rZ [.int i] s=ok (.bl (decide (0<=i)&&decide (i<8))) s:=by
 refine ab1 ?_;unfold rZ;simp only[VC,qb,true_and]
def G0 (xs:List D):cutD xs (some 1) none=xs.drop 1:=by
 unfold cutD HT.aP
 cases xs with
 |nil=>simp
 |cons x xs =>
  simp only[õ]
  have e:(if (1:Int)<0 then (1+((xs.length+1:Nat):Int)).toNat else min (1:Int).toNat (xs.length+1))=1:=by simp
  simp
noncomputable def rise:List Int->Bool
 | []=>true
 | [_]=>true
 |a::b::r=>decide (a<b)&&rise (b::r)
def SK (h:ns.Pairwise (· < ·)):rise ns=true:=by
 induction ns with
 |nil=>rfl
 |cons a ns ih =>
  cases ns with
  |nil=>rfl
  |cons b r =>
   obtain⟨Z,Y⟩:=ó.mp h;simp only[rise,ih Y,Bool.and_true];exact Ó (Z b Ø)
theorem G1:∀(ns:List Int),((ns.zip (ns.drop 1)).all λp=>decide (p.1<p.2))=rise ns
 | []=>rfl
 | [_]=>rfl
 |a::b::r=>by
  have ih:=G1 (b::r);simp only[abE,abh,ě,List.all_cons,rise] at ih |-;rw[ih]
def Pp (xs ys:List Int):fk (xs.map D.int) (ys.map D.int)=(xs.zip ys).map λp=>D.tup [.int p.1,.int p.2]:=by
 unfold fk;rw[List.zip_map,ė];rfl
def G2 (h:fa env s=ok [.tup xs,.tup ys] s1):o9 fa env s=ok (fk xs ys) s1:=by
 unfold o9;rw[h];rfl
def Pq (hl:ns.length<=1000000):n5 [mD ns] s=ok (.bl (rise ns)) s:=by
 refine ab1 ?_;unfold n5;simp only[VC];have Z:o9 (af (ae 0) (af (pO (ae 0) (pd (eC (.int 1))) pN) ah)) [some (mD ns)] s=ok (fk (ns.map D.int) ((ns.drop 1).map D.int)) s:=by
  refine G2 (ab1 ?_);simp only[VC];rw[Aq (i:=1) rfl]
  try simp only[VC]
  refine ab0 (show oA (mD ns) (some 1) none s=ok (.tup (cutD (ns.map D.int) (some 1) none)) s from rfl) ⟨?_,rfl⟩;rw[G0,List.map_drop]
 refine ab0 Z ⟨le_size (by rw[si];simp only[É];omega),?_⟩;rw[Pp];refine ab0 (comp_map (λp:Int×Int=>D.tup [.int p.1,.int p.2]) (λ_=>true) (λp=>.bl (decide (p.1<p.2))) _ λp _=>⟨[some (.int p.1),some (.int p.2)],rfl,rfl,λ_=>rfl⟩) ?_;rw[filter_tt];exact ab0 (qu _ _ _) ⟨by rw[G1],rfl⟩
structure aas (rs:List (List Int)):Prop where
 lo:1<=rs.length
 hi:rs.length<=10
 yH:∀r∈rs,ck 8 r
def getD_some {α:Type} {xs:List α} {i:Nat} {d:α} (h:i<xs.length):xs[i]?=some (xs.getD i d):=by
 rw[List.getD_eq_getElem?_getD,Ð h];rfl
def HP (lo:Int) (n:Nat):cj lo n=(Ā n).map λi:Nat=>D.int (lo+i):=rfl
def Vc (rs:List (List Int)) (laid:List Int) (m:Int):Bool:=((Ā laid.length).filter λi=>laid.getD i 0==m).all λi=>sub (rs.getD i []) (rs.getD laid.length [])
def sT {α:Type} (d:α->D) (p:α->Bool) (h:α->List D) (xs:List α) (hh:∀x∈xs,∃env,g (d x) l0=some env/\t env s=ok (p x) s/\(p x=true->act env s=ok (h x) s)) :
  js g t act l0 (xs.map d) s=ok ((xs.filter p).flatMap h) s:=by
 induction xs with
 |nil=>rfl
 |cons n T ih =>
  obtain⟨env,Y,X,W⟩:=hh n Ø;have ih:=ih λV U=>hh V (Ï _ U);rw[á];unfold js;rw[Y];simp only[X,oP,dH]
  cases Z:p n with
  |true=>simp only[ô,W Z,oP,dH,ih,Ŷ,Z,List.flatMap_cons]
  |false=>simp only[Â,ä,ih,Ŷ,Z]
def G3 :
  Wp (sJ nt cap it gd c act env s) Q=Wp (it env s) λds s=>Wp (js gd c act (Ò nt none++f6 cap env) ds s) λxs s=>xs.length<=Ñ/\Q (.lst xs) s:=by
 unfold sJ;simp only[bR,xu,qh,bo]
def step (rs:List (List Int)) (told:List (List Int)):List (List Int):=told.flatMap λlaid=>([0,1].filter λm=>Vc rs laid m).map λm=>laid++[m]
def xS (h:a.length+b.length<=1000000):bO (mD a) (mD b) s=ok (mD (a++b)) s:=by
 have e:qS (mD a) (mD b)=some (mD (a++b)):=by
  show (if l7 (a.map D.int) (b.map D.int)=true then some (D.tup (a.map D.int++b.map D.int)) else none)=_
  have Z:l7 (a.map D.int) (b.map D.int)=true:=by
   unfold l7;rw[É,É];exact Ó (le_size h)
  rw[Þ Z];show some (D.tup (a.map D.int++b.map D.int))=some (D.tup ((a++b).map D.int));rw[Ļ]
 show bM (qS (mD a) (mD b)) s=_;rw[e];rfl
noncomputable def brk (l:List Int):List Int:=((Ā (l.length-1)).filter λi=>l.getD (i+1) 0==l.getD i 0).map λi:Nat=>1+(i:Int)
def Vd (h:xs≠[]):ar (.lst xs) (.int (-1)) s=ok (xs.getLast h) s:=by
 have e:dj xs (-1)=some (xs.getLast h):=by
  conv=>lhs;rw[<- List.dropLast_concat_getLast h]
  exact P5 _ _
 unfold ar nO;rw[show res (.lst xs) s=.lst xs from rfl];simp only[e];rfl
def XY (h:xs.length+ys.length<=1000000):bO (.lst xs) (.lst ys) s=ok (.lst (xs++ys)) s:=by
 have e:qS (.lst xs) (.lst ys)=some (.lst (xs++ys)):=by
  show (if l7 xs ys=true then some (D.lst (xs++ys)) else none)=_
  have Z:l7 xs ys=true:=Ó (le_size h);rw[Þ Z]
 show bM (qS (.lst xs) (.lst ys)) s=_;rw[e];rfl
def Ex.get (h:Ex k s s') (e:s[j]?=some c) (hj:j≠k):s'[j]?=some c:=by
 rw[h.val j (È.mp e).1 hj];exact e
theorem Ex.hi (h:Ex k s s') (hj:s.length<=j) (c:Cell):Ex k s (s'.set j c):=⟨by rw[Č];exact h.len,λi hi Z=>by rw[Ý (by omega)];exact h.val i hi Z⟩
structure RI (s0:aa) (k rh mh:Nat) (rs:List (List Int)) (s:aa):Prop where
 st:jv s k
 ex:Ex k s0 s
 run:s[rh]?=some (.lst (rs.map mD))
 mo:∃a b,s[mh]?=some (.lst [mD a,mD b])/\ck 8 a/\ck 8 b
 yH:∀r∈rs,ck 8 r
 k1:k<s0.length
 r1:s0.length<=rh
 m1:s0.length<=mh
 ne:rh≠mh
def RI.draw (h:RI s0 k rh mh rs s) (g:jv s' k) (x:Ex k s s'):RI s0 k rh mh rs s':=by
 have:=h.k1;have:=h.r1;have:=h.m1;obtain⟨a,b,e,Z,Y⟩:=h.mo;exact⟨g,h.ex.trans x,x.get h.run (by omega),⟨a,b,x.get e (by omega),Z,Y⟩,h.yH,h.k1,h.r1,h.m1,h.ne⟩
def RI.push (h:RI s0 k rh mh rs s) (hr:ck 8 r):RI s0 k rh mh (rs++[r]) (s.set rh (.lst (rs.map mD++[mD r]))):=by
 have:=h.k1;have:=h.r1;have:=h.m1;have:=h.ne;obtain⟨a,b,e,Z,Y⟩:=h.mo;refine⟨h.st.set (by omega) _,h.ex.hi (by omega) _,?_,⟨a,b,by rw[Ý (by omega)];exact e,Z,Y⟩,λx hx=>?_,h.k1,h.r1,h.m1,h.ne⟩
 ·rw[ê (È.mp h.run).1,Ļ]
  rfl
 ·rcases ċ.mp hx with hx|hx
  ·exact h.yH x hx
  ·rw[Ĺ.mp hx];exact hr
def RI.put (h:RI s0 k rh mh rs s) (h0:at_=0\/at_=1):(∃a,ar (.az mh) (.int at_) s=ok (mD a) s/\ck 8 a)/\∀c,ck 8 c->∃s',j6 (.az mh) (.int at_) (mD c) s=some s'/\RI s0 k rh mh rs s':=by
 have:=h.k1;have:=h.r1;have:=h.m1;have:=h.ne;obtain⟨a,b,e,Z,Y⟩:=h.mo;have key:∀a b,ck 8 a->ck 8 b->RI s0 k rh mh rs (s.set mh (.lst [mD a,mD b])):=λa b Z Y=>⟨h.st.set (by omega) _,h.ex.hi (by omega) _,by rw[Ý (by omega)];exact h.run,⟨a,b,ê (È.mp e).1,Z,Y⟩,h.yH,h.k1,h.r1,h.m1,h.ne⟩
 rcases h0 with rfl|rfl
 ·exact⟨⟨a,yG _ _ _ _ e,Z⟩,λc X=>⟨_,Cz _ _ _ _ _ e,key _ _ X Y⟩⟩
 ·exact⟨⟨b,Ea _ _ _ _ e,Y⟩,λc X=>⟨_,XW _ _ _ _ _ e,key _ _ Z X⟩⟩
def ck.LP (h:ck n l) (hn:n<=8):ck 8 l:=⟨λx Z=>by have:=h.lo x Z;omega,h.up⟩
structure Ft (n W:Nat) (d:D):Prop where
 pl:plain d=true
 sh:(py d).showable=true
 nd:(py d).hasDict=false
 dp:(py d).depth<=n
 wt:(py d).weight<=W
 lv:(py d).leavesShort 40=true
def ne_str:dW (.str x) (.str x) s=ok (.bl false) s:=by
 show (match jj (.str x) (.str x) with|some b=>ok (D.bl (!b)) s|none=>none)=_
 have e:jj (.str x) (.str x)=some true:=by
  unfold jj;rw[Þ (show (mB (.str x)&&mB (.str x))=true from rfl)];simp[beq]
 rw[e];rfl
open TK
noncomputable def markB (i:Int):Bool:=decide (0<=i)&&decide (i<8)
noncomputable def kL (i:Int):Bool:=decide (0<=i)&&decide (i<4)
noncomputable def j9 (i:Int):Bool:=decide (0<=i)&&decide (i<31)
def jh (ns:List Int):Bool:=ns.all markB&&rise ns
noncomputable def xc (a b:List Int):Bool:=!(a.any λx=>decide (x∈b))
def dw:Pg->Bool
 | .made m d h l=>kL m&&j9 d&&(jh h&&(jh l&&xc h l))
 | .bI m d k=>kL m&&j9 d&&markB k
def ra:Pg->Prop
 | .made _ _ h l=>h.length<=1000/\l.length<=1000
 | .bI _ _ _=>True
def Rb:gr (bs.map D.bl)=some bs:=by
 induction bs with
 |nil=>rfl
 |cons b bs ih=>simp only[á,gr,ih];rfl
def G4 {α:Type} (p:α->Bool) (xs:List α) (s:aa):qU [.lst (xs.map λx=>D.bl (p x))] s=ok (.bl (xs.any p)) s:=by
 have e:gr (xs.map λx=>D.bl (p x))=some (xs.map p):=by
  have:=Rb (bs:=xs.map p);rw[ė] at this;exact this
 simp only[qU,res,e,bM,θ,List.any_map,œ,id]
def G5 (hl:ns.length<=1000):rW [mD ns] s=ok (.bl (jh ns)) s:=by
 refine ab1 ?_;unfold rW;simp only[VC];refine ab0 (show cm [mD ns,.ty "tuple"] s=ok (.bl true) s from rfl) ?_;simp only[VC,ô];refine ab0 (kA rfl) ⟨le_size (by rw[É];omega),?_⟩;refine ab0 (zp (λ_=>true) (λx=>.bl (markB x)) ns λn _=>⟨[some (.int n)],rfl,rfl,λ_=>?_⟩) ?_
 ·refine ab1 ?_
  simp only[VC,HN,markB,true_and]
 ·rw[filter_tt]
  refine ab0 (qu _ _ _) ?_;simp only[VC];unfold jh
  cases e:ns.all markB with
  |true =>
   simp only[ô,ă];exact ab0 (Pq (by omega)) ⟨rfl,rfl⟩
  |false=>simp
def Rc (ha:a.length<=1000):vt [mD a,mD b] s=ok (.bl (xc a b)) s:=by
 refine ab1 ?_;unfold vt;simp only[VC];refine ab0 (kA rfl) ⟨le_size (by rw[É];omega),?_⟩;refine ab0 (zp (λ_=>true) (λx=>.bl (decide (x∈b))) a λn _=>⟨[some (.int n),some (mD b)],rfl,rfl,λ_=>?_⟩) ?_
 ·refine ab1 ?_
  simp only[VC,qt,true_and]
 ·rw[filter_tt]
  refine ab0 (G4 _ _ _) ?_;simp only[VC];exact⟨rfl,trivial⟩
def Rf (h1:h.length<=1000) (h2:l.length<=1000):vB [.tup [mD h,mD l]] s=ok (.bl (jh h&&(jh l&&xc h l))) s:=by
 refine ab1 ?_;unfold vB;simp only[VC];refine ab0 (show cm [.tup [mD h,mD l],.ty "tuple"] s=ok (.bl true) s from rfl) ?_;simp only[VC,å,Â,ä];refine ab0 (show cy [.tup [mD h,mD l]] s=ok (.int 2) s from rfl) ?_;simp only[VC];simp only[VC,ą,å,Â,ä];refine ab0 (G5 h1) ?_;simp only[VC]
 cases jh h with
 |false=>simp
 |true =>
  simp only[ô,ă];refine ab0 (G5 h2) ?_;simp only[VC]
  cases jh l with
  |false=>simp
  |true =>
   simp only[ô,ă];exact ab0 (Rc h1) ⟨rfl,rfl⟩
def G6:vC [.int i] s=ok (.bl (kL i)) s:=by
 refine ab1 ?_;unfold vC;simp only[VC,qb,kL,ņ]
def I0:vV [.int i] s=ok (.bl (j9 i)) s:=by
 refine ab1 ?_;unfold vV;simp only[VC,qb,j9,ņ]
def lM:aY (.str x) (.str y) s=ok (.bl (decide (x=y))) s:=by
 show ok (D.bl (x==y)) s=_
 by_cases e:x=y<;>simp[e]
def SM:¬ (ý "made"=ý "mended"):=by decide +kernel
def As:¬ (ý "mended"=ý "made"):=by decide +kernel
def SN (hf:ra p):vJ [p.d] s=ok (.bl (dw p)) s:=by
 refine ab1 ?_;unfold vJ;have key:∀(a b c d:D),p.d=.tup [a,b,c,d]->cm [p.d,.ty "tuple"] s=ok (.bl true) s/\cy [p.d] s=ok (.int 4) s:=λa b c d e=>by rw[e];exact⟨rfl,rfl⟩
 cases p with
 |made m d h l =>
  obtain⟨Z,Y⟩:=key _ _ _ _ rfl;simp only[VC];refine ab0 Z ?_;simp only[VC,å,Â,ä];refine ab0 Y ?_;simp only[VC];simp only[VC,ą,å,Â,ä,Pg.d];refine ab0 G6 ?_;simp only[VC,dw]
  cases kL m with
  |false=>simp[oF,oG,cQ,bX]
  |true =>
   simp only[å,Â,ä,ă];refine ab0 I0 ?_;simp only[VC]
   cases j9 d with
   |false=>simp[oF,oG,cQ,bX]
   |true =>
    simp only[VC,å,Â,ä,ă];refine ab0 lM ?_;simp only[VC,Ĩ,ô];exact ab0 (Rf hf.1 hf.2) ⟨rfl,rfl⟩
 |bI m d k =>
  obtain⟨Z,Y⟩:=key _ _ _ _ rfl;simp only[VC];refine ab0 Z ?_;simp only[VC,å,Â,ä];refine ab0 Y ?_;simp only[VC];simp only[VC,ą,å,Â,ä,Pg.d];refine ab0 G6 ?_;simp only[VC,dw]
  cases kL m with
  |false=>simp[oF,oG,cQ,bX]
  |true =>
   simp only[å,Â,ä,ă];refine ab0 I0 ?_;simp only[VC]
   cases j9 d with
   |false=>simp[oF,oG,cQ,bX]
   |true =>
    simp only[VC,å,Â,ä,ă];refine ab0 lM ?_;simp only[VC,ç As,Â,ä];refine ab0 lM ?_;simp only[VC,Ĩ,ô];exact ab0 HN ⟨rfl,rfl⟩
abbrev bD (ps:List Pg):D:=.tup (ps.map Pg.d)
def Ve:kY p.d q.d s=ok (.bl (cb.lt p q)) s:=by
 unfold kY;rw[Þ (by rw[oB _ (oU p),oB _ (oU q)];simp only[Ĭ,ă,Ê];have:=wN p;omega),JO];rfl
noncomputable def oV (ps:List Pg):Bool:=(ps.zip (ps.drop 1)).all λp=>cb.lt p.1 p.2
def Rg (xs ys:List Pg):fk (xs.map Pg.d) (ys.map Pg.d)=(xs.zip ys).map λp=>D.tup [p.1.d,p.2.d]:=by
 unfold fk;rw[List.zip_map,ė];rfl
def Om (hl:ps.length<=1000):n5 [bD ps] s=ok (.bl (oV ps)) s:=by
 refine ab1 ?_;unfold n5;simp only[VC];have Z:o9 (af (ae 0) (af (pO (ae 0) (pd (eC (.int 1))) pN) ah)) [some (bD ps)] s=ok (fk (ps.map Pg.d) ((ps.drop 1).map Pg.d)) s:=by
  refine G2 (ab1 ?_);simp only[VC];rw[Aq (i:=1) rfl]
  try simp only[VC]
  refine ab0 (show oA (bD ps) (some 1) none s=ok (.tup (cutD (ps.map Pg.d) (some 1) none)) s from rfl) ⟨?_,rfl⟩;rw[G0,List.map_drop]
 refine ab0 Z ⟨le_size (by rw[si];simp only[É];omega),?_⟩;rw[Rg];refine ab0 (comp_map (λp:Pg×Pg=>D.tup [p.1.d,p.2.d]) (λ_=>true) (λp=>.bl (cb.lt p.1 p.2)) _ λp _=>⟨[some p.1.d,some p.2.d],rfl,rfl,λ_=>?_⟩) ?_
 ·refine ab1 ?_
  simp only[VC,Ve,ņ]
 rw[filter_tt];exact ab0 (qu _ _ _) ⟨rfl,rfl⟩
def iR (ps:List Pg):Bool:=decide (ps.length<=24)&&(ps.all dw&&oV ps)
def SO (hl:ps.length<=1000) (hf:∀p∈ps,ra p):vD [bD ps] s=ok (.bl (iR ps)) s:=by
 refine ab1 ?_;unfold vD iR;simp only[VC];refine ab0 (show cm [bD ps,.ty "tuple"] s=ok (.bl true) s from rfl) ?_;simp only[VC,ô];refine ab0 (show cy [bD ps] s=ok (.int ps.length) s from by show ok (D.int (ps.map Pg.d).length) s=_;rw[É]) ?_;simp only[VC];by_cases h:ps.length<=24
 ·have Z:(ps.length:Int)<=24:=by omega
  simp only[h,Z,Ĩ,ô,ă];refine ab0 (kA rfl) ⟨le_size (by rw[É];omega),?_⟩;refine ab0 (comp_map Pg.d (λ_=>true) (λp=>.bl (dw p)) ps λp Y=>⟨[some p.d],rfl,rfl,λ_=>?_⟩) ?_
  ·refine ab1 ?_
   simp only[VC,SN (hf p Y),ņ]
  ·rw[filter_tt]
   refine ab0 (qu _ _ _) ?_;simp only[VC]
   cases ps.all dw with
   |false=>simp
   |true =>
    simp only[ô,ă];exact ab0 (Om hl) ⟨rfl,rfl⟩
 ·have Z:¬ (ps.length:Int)<=24:=by omega
  simp[h,Z]
noncomputable def _root_.TK.Pg.day:Pg->Int
 | .made _ d _ _=>d
 | .bI _ d _=>d
noncomputable def nS (m k:Int):Pg->Bool
 | .made Z _ h _=>decide (Z=m)&&decide (k∈h)
 |_=>false
noncomputable def nT (m k:Int):Pg->Bool
 | .made Z _ _ l=>decide (Z=m)&&decide (k∈l)
 |_=>false
noncomputable def mI (m k:Int):Pg->Bool
 | .bI Z _ Y=>decide (Z=m)&&decide (Y=k)
 |_=>false
def shown (ps:List Pg) (m k:Int):List Int:=(ps.filter (nS m k)).map Pg.day
def gC (ps:List Pg) (m k:Int):List Int:=(ps.filter (nT m k)).map Pg.day
def fN (ps:List Pg) (m k:Int):List Int:=(ps.filter (mI m k)).map Pg.day
noncomputable abbrev lI (ns:List Int):D:=.lst (ns.map D.int)
def jF (a b c d:D) (s:aa):ar (.tup [a,b,c,d]) (.int 0) s=ok a s/\ar (.tup [a,b,c,d]) (.int 1) s=ok b s/\ar (.tup [a,b,c,d]) (.int 2) s=ok c s/\ar (.tup [a,b,c,d]) (.int 3) s=ok d s:=⟨rfl,rfl,rfl,rfl⟩
def LQ (a b:D) (s:aa):ar (.tup [a,b]) (.int 0) s=ok a s/\ar (.tup [a,b]) (.int 1) s=ok b s:=⟨rfl,rfl⟩
def Eb (p:Pg) (s:aa):ar p.d (.int 1) s=ok (.int (match p with | .made m _ _ _=>m | .bI m _ _=>m)) s/\ar p.d (.int 2) s=ok (.int p.day) s:=by cases p<;>exact⟨rfl,rfl⟩
def HQ (hl:ps.length<=1000):mK [bD ps,.int m,.int k,.int 0] s=ok (lI (shown ps m k)) s/\mK [bD ps,.int m,.int k,.int 1] s=ok (lI (gC ps m k)) s:=by
 constructor
 ·refine ab1 ?_
  unfold mK;simp only[VC];refine ab0 (kA rfl) ⟨le_size (by rw[É];omega),?_⟩;refine ab0 (comp_map Pg.d (nS m k) (λp=>.int p.day) ps λp Y=>⟨[some p.d,some (.int m),some (.int k),some (.int 0)],rfl,?_,λ_=>?_⟩) ?_
  ·refine ab1 ?_
   cases p with
   |made Z d h l =>
    simp only[VC,Pg.d];rw[(jF _ _ _ _ s).1];simp only[VC,lM,Ĩ,ô];rw[(jF _ _ _ _ s).2.1];simp only[VC,nS];by_cases e:Z=m
    ·simp only[e,ą,ô,Ĩ,ă]
     rw[(jF _ _ _ _ s).2.2.2];simp only[VC];rw[(LQ _ _ s).1];simp only[VC];refine ab0 (qt (ns:=h)) ?_;simp only[VC,ņ]
    ·simp[e]
   |bI Z d X =>
    simp only[VC,Pg.d];rw[(jF _ _ _ _ s).1];simp only[VC,lM,ç As,Â,ä,nS,ņ]
  ·refine ab1 ?_
   simp only[VC,(Eb p s).2,ņ]
  ·simp only[shown,lI,ė,œ,ņ]
 ·refine ab1 ?_
  unfold mK;simp only[VC];refine ab0 (kA rfl) ⟨le_size (by rw[É];omega),?_⟩;refine ab0 (comp_map Pg.d (nT m k) (λp=>.int p.day) ps λp Y=>⟨[some p.d,some (.int m),some (.int k),some (.int 1)],rfl,?_,λ_=>?_⟩) ?_
  ·refine ab1 ?_
   cases p with
   |made Z d h l =>
    simp only[VC,Pg.d];rw[(jF _ _ _ _ s).1];simp only[VC,lM,Ĩ,ô];rw[(jF _ _ _ _ s).2.1];simp only[VC,nT];by_cases e:Z=m
    ·simp only[e,ą,ô,Ĩ,ă]
     rw[(jF _ _ _ _ s).2.2.2];simp only[VC];rw[(LQ _ _ s).2];simp only[VC];refine ab0 (qt (ns:=l)) ?_;simp only[VC,ņ]
    ·simp[e]
   |bI Z d X =>
    simp only[VC,Pg.d];rw[(jF _ _ _ _ s).1];simp only[VC,lM,ç As,Â,ä,nT,ņ]
  ·refine ab1 ?_
   simp only[VC,(Eb p s).2,ņ]
  ·simp only[gC,lI,ė,œ,ņ]
def SQ (hl:ps.length<=1000):vm [bD ps,.int m,.int k] s=ok (lI (fN ps m k)) s:=by
 refine ab1 ?_;unfold vm;simp only[VC];refine ab0 (kA rfl) ⟨le_size (by rw[É];omega),?_⟩;refine ab0 (comp_map Pg.d (mI m k) (λp=>.int p.day) ps λp X=>⟨[some p.d,some (.int m),some (.int k)],rfl,?_,λ_=>?_⟩) ?_
 ·refine ab1 ?_
  cases p with
  |bI Z d Y =>
   simp only[VC,Pg.d];rw[(jF _ _ _ _ s).1];simp only[VC,lM,Ĩ,ô];rw[(jF _ _ _ _ s).2.1];simp only[VC,mI];by_cases e:Z=m
   ·simp only[e,ą,ô,Ĩ,ă]
    rw[(jF _ _ _ _ s).2.2.2];simp only[VC]
    by_cases e:Y=k<;>simp[e]
   ·simp[e]
  |made Z d h l =>
   simp only[VC,Pg.d];rw[(jF _ _ _ _ s).1];simp only[VC,lM,ç SM,Â,ä,mI,ņ]
 ·refine ab1 ?_
  simp only[VC,(Eb p s).2,ņ]
 ·simp only[fN,lI,ė,œ,ņ]
def Ja (h:n<=1000):n<=Ñ:=le_size (by omega)
def WB:fm (.int x) (lI ns) s=ok (.bl (decide (x∈ns))) s:=by
 show fm (.int x) (mD ns) s=_;exact qt
noncomputable def x8 (ds:List Int) (a b:Int):Bool:=ds.any λx=>decide (a<x)&&decide (x<=b)
def Pt (hl:ds.length<=1000):vf [lI ds,.int a,.int b] s=ok (.bl (x8 ds a b)) s:=by
 refine ab1 ?_;unfold vf;simp only[VC];refine ab0 (oj rfl) ⟨Ja (by rw[É];omega),?_⟩;refine ab0 (zp (λ_=>true) (λx=>.bl (decide (a<x)&&decide (x<=b))) ds λn _=>⟨[some (.int n),some (.int a),some (.int b)],rfl,rfl,λ_=>?_⟩) ?_
 ·refine ab1 ?_
  simp only[VC]
  by_cases e:a<n<;>simp[e,bo,sS,bq,aQ]
 ·rw[filter_tt]
  exact ab0 (G4 _ _ _) ⟨rfl,rfl⟩
def nU (ps:List Pg) (m k d l:Int):Bool:=(decide (l∈gC ps m k)||(decide (l=d)&&decide (d∈fN ps m k)))&&!x8 (fN ps m k) d l
noncomputable def oI (d:Int):List Int:=(Ā (31-d).toNat).map λi:Nat=>d+(i:Int)
def kM (ps:List Pg) (m k:Int):List (Int×Int):=(fE (shown ps m k)).flatMap λd=>((oI d).filter (nU ps m k d)).map λl=>(d,l)
def v7 {ps:List Pg} {f:Pg->Bool}:((ps.filter f).map Pg.day).length<=ps.length:=by rw[É];exact ξ _ _
theorem so {α β:Type} {f:α->List β} {b:Nat}:∀{l:List α},(∀x∈l,(f x).length<=b)->(l.flatMap f).length<=l.length*b
 | [],_=>by simp
 |x::l,h=>by
  rw[List.flatMap_cons,é,õ,Nat.succ_mul];have Y:=h x Ø;have X:=so (l:=l) λy Z=>h y (Ï _ Z);omega
def FK (d:Int) (h:0<=d):(oI d).length<=31:=by unfold oI;rw[É,List.length_range];omega
structure pq (ps:List Pg):Prop where
 len:ps.length<=24
 lo:∀p∈ps,0<=p.day/\p.day<31
def pq.of (h:pq ps) (hx:x∈(ps.filter f).map Pg.day):0<=x/\x<31:=by
 obtain⟨p,Z,rfl⟩:=ć.mp hx;exact h.lo p (Ĳ.mp Z).1
def Oo {ps:List Pg} {m k:Int} {s:aa} (h:pq ps):sd [bD ps,.int m,.int k] s=ok (.lst ((kM ps m k).map λp=>D.tup [.int p.1,.int p.2])) s:=by
 have Y:=h.len;have S:(shown ps m k).length<=24:=à v7 Y;have R:(gC ps m k).length<=24:=à v7 Y;have Q:(fN ps m k).length<=24:=à v7 Y;refine ab1 ?_;unfold sd;simp only[VC];refine ab0 (HQ (by omega)).2 ?_;refine ab0 (SQ (by omega)) ?_;rw[G3];have hs:cO (e1 qe (aD mK (af (ae 0) (af (ae 1) (af (ae 2) (af (eC (.int (0))) ah)))))) [some (bD ps),some (.int m),some (.int k),some (lI (gC ps m k)),some (lI (fN ps m k))] s=ok ((fE (shown ps m k)).map D.int) s:=by
  refine oj (ab1 ?_);simp only[VC];refine ab0 (HQ (by omega)).1 ?_;refine ab0 (show qe (lI (shown ps m k)) s=ok (lI (fE (shown ps m k))) s from ?_) ⟨rfl,rfl⟩;unfold qe;simp only[OX];rw[Þ (by have:=zh (shown ps m k);rw[Ê];omega)]
 refine ab0 hs ?_;have day:∀d∈fE (shown ps m k),0<=d/\d<31:=λd Z=>h.of (oh.mp Z);refine ab0 (sT D.int (λ_=>true) (λd=>((oI d).filter (nU ps m k d)).map λl=>D.tup [.int d,.int l]) _ λd Z=>⟨[some (.int d),none,some (lI (gC ps m k)),some (lI (fN ps m k))],rfl,rfl,λ_=>?_⟩) ?_
 ·have Z:=day d Z
  unfold more;rw[Vb (i:=d) (j:=31) rfl (by omega) (by omega) (by omega) (by omega),dH];have T:cj d (31-d).toNat=(oI d).map D.int:=by unfold oI;rw[HP,ė];rfl
  rw[T];rw[sT D.int (nU ps m k d) (λl=>[D.tup [.int d,.int l]]) (oI d) λl Y=>⟨[some (.int d),some (.int l),some (lI (gC ps m k)),some (lI (fN ps m k))],rfl,?_,λ_=>?_⟩]
  ·rw[<- List.map_eq_flatMap]
  ·refine ab1 ?_
   simp only[VC,WB];unfold nU;have X:=Pt (ds:=fN ps m k) (a:=d) (b:=l) (s:=s) (by omega);by_cases W:l∈gC ps m k
   ·simp only[VC,W,Ĩ,ô,Bool.true_or,ă]
    exact ab0 X (by simp only[VC,ņ])
   ·simp only[W,decide_false,Â,ä,Bool.false_or]
    by_cases V:l=d
    ·subst V
     simp only[VC,ą,ô,Ĩ,ă];by_cases U:l∈fN ps m k
     ·simp only[U,Ĩ,ô,ă]
      exact ab0 X (by simp only[VC,ņ])
     ·simp[U]
    ·simp[V]
  ·refine ab1 ?_
   unfold emit;rw[bR];simp only[VC];exact⟨by decide,trivial⟩
 ·rw[filter_tt]
  refine⟨?_,?_,rfl⟩
  ·refine Ja (à (so (b:=31) λd Z=>?_) ?_)
   ·rw[É]
    exact à (ξ _ _) (FK d (day d Z).1)
   ·have:=zh (shown ps m k)
    have:(fE (shown ps m k)).length<=24:=by omega
    omega
  ·unfold kM
   simp only[List.map_flatMap,ė,œ]
noncomputable def m4:List Int:=(Ā 4).map λi:Nat=>(i:Int)
noncomputable def k8:List Int:=(Ā 8).map λi:Nat=>(i:Int)
def lT (ps:List Pg):List (Int×Int×Int×Int):=m4.flatMap λm=>k8.flatMap λk=>(kM ps m k).map λp=>(m,k,p.1,p.2)
noncomputable def fD (p:Int×Int×Int×Int):D:=.tup [.int p.1,.int p.2.1,.int p.2.2.1,.int p.2.2.2]
def Pu {ps:List Pg} (h:pq ps) (m k:Int):(kM ps m k).length<=744:=by
 have Y:(shown ps m k).length<=24:=à v7 h.len;have:=zh (shown ps m k);refine à (so (b:=31) λd Z=>?_) (by omega);rw[É];exact à (ξ _ _) (FK d (h.of (oh.mp Z)).1)
def Pw {ps:List Pg} {s:aa} (h:pq ps):vv [bD ps] s=ok (.lst ((lT ps).map fD)) s:=by
 refine ab1 ?_;unfold vv;simp only[dS,cQ,oG,á,Ő,Ę,Ķ,õ,đ,Ò,true_and,Nat.reduceSub,Nat.reduceAdd];rw[G3];refine ab0 (jR (n:=4) rfl (by decide)) ?_;have Z:cj 0 4=m4.map D.int:=rfl;have Y:cj 0 8=k8.map D.int:=rfl;rw[Z];refine ab0 (sT D.int (λ_=>true) (λm=>k8.flatMap λk=>(kM ps m k).map λp=>fD (m,k,p.1,p.2)) m4 λm X=>⟨[some (.int m),none,none,none,some (bD ps)],rfl,rfl,λ_=>?_⟩) ?_
 ·unfold more
  rw[jR (n:=8) rfl (by decide),dH,Y];rw[sT D.int (λ_=>true) (λk=>(kM ps m k).map λp=>fD (m,k,p.1,p.2)) k8 λk W=>⟨[some (.int m),some (.int k),none,none,some (bD ps)],rfl,rfl,λ_=>?_⟩]
  ·rw[filter_tt]
  ·have hi:cO (aD sd (af (ae 4) (af (ae 0) (af (ae 1) ah)))) [some (.int m),some (.int k),none,none,some (bD ps)] s=ok ((kM ps m k).map λp=>D.tup [.int p.1,.int p.2]) s:=by
    refine oj (ab1 ?_);simp only[VC];exact ab0 (Oo h) ⟨rfl,rfl⟩
   rw[hi,dH];rw[sT (λp:Int×Int=>D.tup [.int p.1,.int p.2]) (λ_=>true) (λp=>[fD (m,k,p.1,p.2)]) (kM ps m k) λp V=>⟨[some (.int m),some (.int k),some (.int p.1),some (.int p.2),some (bD ps)],rfl,rfl,λ_=>?_⟩]
   ·rw[filter_tt,<- List.map_eq_flatMap]
   ·refine ab1 ?_
    unfold emit;rw[bR];simp only[VC];exact⟨by decide,rfl,trivial⟩
 ·rw[filter_tt]
  refine⟨?_,?_,rfl⟩
  ·refine le_size (à (so (b:=8*744) λm X=>?_) (by decide))
   refine à (so (b:=744) λk W=>?_) (by decide);rw[É];exact Pu h m k
  ·unfold lT
   simp only[List.map_flatMap,ė,œ]
def c8 (ps:List Pg):Bool:=iR ps&&(lT ps).isEmpty
def Gj (h:iR ps=true):pq ps:=by
 unfold iR at h;simp only[Æ,Ê,æ] at h;refine⟨h.1,λp Z=>?_⟩;have:=h.2.1 p Z
 cases p<;>simp only[dw,j9,Æ,Ê] at this<;>exact this.1.2
def HR (hl:ps.length<=1000) (hf:∀p∈ps,ra p):qa [bD ps] s=ok (.bl (c8 ps)) s:=by
 refine ab1 ?_;unfold qa;simp only[VC];refine ab0 (SO hl hf) ?_;simp only[VC];unfold c8
 cases h:iR ps with
 |false=>simp
 |true =>
  simp only[ô,ă];unfold Bo;simp only[VC,bR];refine ab0 (Pw (Gj h)) ?_;refine ab0 (show truth (.lst ((lT ps).map fD)) s=ok (!((lT ps).map fD).isEmpty) s from rfl) ?_;simp only[bo];refine⟨?_,trivial⟩
  cases lT ps<;>rfl
def xg:m∈m4↔0<=m/\m<4:=by
 unfold m4;rw[ć];constructor
 ·rintro ⟨i,hi,rfl⟩
  have:=ú.mp hi;omega
 ·rintro ⟨Z,Y⟩
  exact⟨m.toNat,ú.mpr (by omega),by omega⟩
def xh:m∈k8↔0<=m/\m<8:=by
 unfold k8;rw[ć];constructor
 ·rintro ⟨i,hi,rfl⟩
  have:=ú.mp hi;omega
 ·rintro ⟨Z,Y⟩
  exact⟨m.toNat,ú.mpr (by omega),by omega⟩
def Rh (h:c8 ps=true) (hm:0<=m/\m<4) (hk:0<=k/\k<8) (hd:d∈shown ps m k) (h1:d<=l) (h2:l<31):nU ps m k d l=false:=by
 unfold c8 at h;rw[Æ,List.isEmpty_iff] at h
 cases Z:nU ps m k d l with
 |false=>rfl
 |true =>
  exfalso;have Y:(d,l)∈kM ps m k:=by
   refine List.mem_flatMap.mpr ⟨d,oh.mpr hd,ć.mpr ⟨l,Ĳ.mpr ⟨?_,Z⟩,rfl⟩⟩;exact ć.mpr ⟨(l-d).toNat,ú.mpr (by omega),by omega⟩
  have:(m,k,d,l)∈lT ps:=List.mem_flatMap.mpr ⟨m,xg.mpr hm,List.mem_flatMap.mpr ⟨k,xh.mpr hk,ć.mpr ⟨(d,l),Y,rfl⟩⟩⟩;rw[h.2] at this;cases this
theorem HS:∀{ns:List Int},rise ns=true->ns.Pairwise (· < ·)
 | [],_=>.nil
 | [a],_=>by simp
 |a::b::r,h=>by
  simp only[rise,Æ,Ê] at h;have ih:=HS h.2;refine ó.mpr ⟨λx hx=>?_,ih⟩
  rcases Ô.mp hx with rfl|hx
  ·exact h.1
  ·have:=(ó.mp ih).1 x hx
   omega
def vG (h:jh ns=true):ck 8 ns:=by
 unfold jh at h;rw[Æ,æ] at h;refine⟨λx Z=>?_,HS h.2⟩;have:=h.1 x Z;unfold markB at this;simp only[Æ,Ê] at this;exact this
def FL (h:ck n ns) (hn:n<=8):jh ns=true:=by
 unfold jh;rw[Æ,æ];refine⟨λx Z=>?_,SK h.up⟩;have:=h.lo x Z;unfold markB;simp only[Æ,Ê];omega
theorem ck.filter (h:ck n ns) (p:Int->Bool):ck n (ns.filter p):=⟨λx Z=>h.lo x (Ĳ.mp Z).1,h.up.filter p⟩
def Px (hm:0<=m/\m<4) (hd:0<=d/\d<31) (hk:0<=k/\k<8):dw (.bI m d k)=true:=by
 simp only[dw,kL,j9,markB,Æ,Ê];omega
theorem Py (hm:0<=m/\m<4) (hd:0<=d/\d<31) (h1:ck n h) (h2:ck n l) (hn:n<=8) (ha:∀x∈h,x∉l):dw (.made m d h l)=true:=by
 simp only[dw,kL,j9,Æ,Ê,xc,Ě,List.any_eq_false];exact⟨⟨hm,hd⟩,FL h1 hn,FL h2 hn,ha⟩
def zq (h:dw p=true):ra p:=by
 cases p with
 |made m d Z l =>
  simp only[dw,Æ] at h;exact⟨by have:=(vG h.2.1).len;omega,by have:=(vG h.2.2.1).len;omega⟩
 |bI m d k=>trivial
def fv (W:Ą) (R:Pg->Prop) (s:aa) (j n:Nat):Prop:=∃Z:List Pg,s[j]?=some (.dT (Z.map λp=>(p.d,hs W p.d)))/\(Z.Nodup/\∀p∈Z,R p)/\Z.length<=n
def fv.lt (h:fv W R s j n):j<s.length:=by
 obtain⟨Z,e,_⟩:=h;exact(È.mp e).1
def fv.ex (h:fv W R s j n) (x:Ex k s s') (hj:j≠k):fv W R s' j n:=by
 have Z:=h.lt;obtain⟨Y,e,r⟩:=h;exact⟨Y,(x.val j Z hj).trans e,r⟩
def fv.more (h:fv W R s j n) (hm:n<=m):fv W R s j m:=by
 obtain⟨Z,e,r,l⟩:=h;exact⟨Z,e,r,by omega⟩
def fv.app (h:fv W R s j n) (c:List Cell):fv W R (s++c) j n:=by
 have Z:=h.lt;obtain⟨Y,e,r⟩:=h;exact⟨Y,by rw[Ü Z];exact e,r⟩
theorem fv.set (h:fv W R s j n) (hi:i≠j) (c:Cell):fv W R (s.set i c) j n:=by
 obtain⟨Z,e,r⟩:=h;exact⟨Z,by rw[Ý hi];exact e,r⟩
def fv.mono (h:fv W R s j n) (hR:∀p,R p->R' p):fv W R' s j n:=by
 obtain⟨Z,e,r,l⟩:=h;exact⟨Z,e,⟨r.1,λp Y=>hR p (r.2 p Y)⟩,l⟩
def Ex.Zz (h:Ex k s s') (hj:s.length<=j) (c:Cell):Ex k s (s'.set j c) :=
 ⟨by rw[Č];exact h.len,λi hi Z=>by rw[Ý (by omega)];exact h.val i hi Z⟩
def ow (p:Pg):∃ks,p.d=.tup ks/\dE ks=true/\dB ks<=6:=by
 have Z:=oU p;have Y:=wN p;obtain⟨x,r,e⟩:=GQ p;rw[e] at Z Y;simp only[kd,dep] at Z Y;exact⟨_,e,Z,by omega⟩
def Vf (W:Ą) (ps:List Pg):(ps.map λp=>(p.d,hs W p.d)).all (keyOk W)=true:=by
 rw[List.all_map,æ];intro p _;obtain⟨X,e,Z,Y⟩:=ow p;simp only[Function.comp,keyOk];rw[e];simp only[Z,Ó Y,Ĩ,Ĭ]
def Vg (h:fv W R s j n) (hf:R p) (hn:n<1000):∃c,xT W (.az j) p.d (.bl true) s=some (s.set j c)/\fv W R (s.set j c) j (n+1):=by
 have T:=h.lt;obtain⟨Z,e,X,len⟩:=h;obtain⟨Q,V,P,O⟩:=ow p;have S:=Vf W Z;generalize Y:(Z.map λp=>(p.d,hs W p.d))=U at e S;have K:U.length=Z.length:=by rw[<- Y,É]
 refine⟨.dT (TK.xS W U (.tup Q)),?_,?_⟩
 ·rw[V]
  unfold xT;simp only[e];rw[Þ];rw[P,Ó O,S,Ó (Ç (show U.length<1000 by omega) (le_size (by decide)))];rfl
 ·unfold TK.xS
  split
  ·exact⟨Z,by rw[Y];exact ê T,X,by omega⟩
  ·rename_i N
   refine⟨Z++[p],?_,⟨aa9.mpr ⟨X.1,by simp,λa M b L=>?_⟩,λq hq=>?_⟩,by simp;omega⟩
   ·rw[ê T,Ļ,Y]
    simp only[á,Ő,V]
   ·rw[Ĺ.mp L]
    rintro rfl;refine N (ŝ.mpr ⟨(a.d,hs W a.d),?_,?_⟩)
    ·rw[<- Y];exact ć.mpr ⟨a,M,rfl⟩
    ·rw[<- V];exact(wM _ _ (oU a) (oU a)).mpr rfl
   ·rcases ċ.mp hq with hq|hq
    ·exact X.2 q hq
    ·rw[Ĺ.mp hq];exact hf
theorem HU:∀{ps:List Pg},ps.Pairwise (λa b=>cb.lt a b=true)->oV ps=true
 | [],_=>rfl
 | [a],_=>rfl
 |a::b::r,h=>by
  obtain⟨Z,Y⟩:=ó.mp h;have ih:=HU Y;unfold oV at ih |-;simp only[abE,abh,ě,List.all_cons,Æ] at ih |-;exact⟨Z b Ø,ih⟩
def Ri (h:ps.Nodup):(ST.dR cb ps).Pairwise λa b=>cb.lt a b=true:=by
 have Y:=ST.sm (O:=cb) ps;have X:(ST.dR cb ps).Nodup:=(ST.n9 ps).nodup_iff.mpr h;refine(Y.and X).imp λ{a b} Z=>?_
 cases W:cb.lt a b with
 |true=>rfl
 |false=>exact(Z.2 (cb.u6 a b W Z.1)).elim
abbrev ZA (p:Pg):Prop:=dw p=true
structure Laid (ps:List Pg):Prop where
 pg:∀p∈ps,dw p=true
 up:ps.Pairwise λa b=>cb.lt a b=true
theorem Laid.iR (h:Laid ps) (hl:ps.length<=24):iR ps=true:=by
 unfold DI.iR;rw[Ó hl,æ.mpr h.pg,HU h.up];rfl
def Laid.sub (h:Laid ps) (hs:qs.Sublist ps):Laid qs:=⟨λp Z=>h.pg p (hs.subset Z),h.up.sublist hs⟩
def Sf (s:aa) (k:Nat):Prop:=∃(a:Int) (b:Bool),s[k]?=some (.lst [.int a,.bl b])/\0<=a/\(b=false->a<2147483647)
def Sf.lt {s:aa} {k:Nat} (h:Sf s k):k<s.length:=by
 obtain⟨a,b,e,_⟩:=h;exact(È.mp e).1
def jS {s:aa} {k:Nat} {m:Int} (h:Sf s k) (h1:0<m) (h2:m<1073741824):Wp (bj.cH [.az k,.int m] s) λd s'=>∃r:Int,d=.int r/\0<=r/\r<m/\Sf s' k/\Ex k s s':=by
 obtain⟨a,b,e,V,Y⟩:=h;have X:=(È.mp e).1
 cases b with
 |true =>
  have Z:(s.set k (.lst [.int (a / m),.bl true]))[k]?=some (.lst [.int (a / m),.bl true]):=ê X;refine⟨.int (a % m),s.set k (.lst [.int (a / m),.bl true]),?_,a % m,rfl,aaX _ (by omega),ž _ h1,⟨a / m,true,Z,Int.ediv_nonneg V (by omega),λz=>by cases z⟩,Ex.set _ _ _⟩;simp only[bj.cH,aM,ax,bB,cN,truth,e2,w9,xa,eC,dH,á,Ő,Ę,Ķ,yG _ _ k s e,Ea _ _ k s e,õ,đ,ô,aU,gN,q0 s h1,ma,KW s h1 h2,Cz _ _ _ k s e,aG,ö,ø,Ò]
 |false =>
  have Y:=Y rfl;have ex:0<=(a*48271+29) % 2147483647/\(a*48271+29) % 2147483647<2147483647:=⟨aaX _ (by decide),ž _ (by decide)⟩;generalize U:(a*48271+29) % 2147483647=x at ex;have Z:(s.set k (.lst [.int x,.bl false]))[k]?=some (.lst [.int x,.bl false]):=ê X;generalize W:(x*x+39373*x+7) % 2147483629=y;have N:0<=y/\y<2147483629:=by rw[<- W];exact⟨aaX _ (by decide),ž _ (by decide)⟩
  generalize T:(y*y+16807*y) % 2147483587=z;refine⟨.int (z / 8 % m),s.set k (.lst [.int x,.bl false]),?_,_,rfl,aaX _ (by omega),ž _ h1,⟨x,false,Z,ex.1,λ_=>ex.2⟩,Ex.set _ _ _⟩;have S:eQ (.int a) (.int 48271) s=ok (.int (a*48271)) s:=uu s (mulOk_of (by omega) (by omega));have R:∀s',eQ (.int x) (.int x) s'=ok (.int (x*x)) s':=λs'=>uu s' (mulOk_of (by omega) (by omega));have Q:∀s',eQ (.int 39373) (.int x) s'=ok (.int (39373*x)) s':=λs'=>uu s' (mulOk_of (by decide) (by decide));have m4:∀s',eQ (.int y) (.int y) s'=ok (.int (y*y)) s':=λs'=>uu s' (mulOk_of (by omega) (by omega));have P:∀s',eQ (.int 16807) (.int y) s'=ok (.int (16807*y)) s':=λs'=>uu s' (mulOk_of (by decide) (by decide));have O:∀n:Int,ar (.az k) (.int 0) (s.set k (.lst [.int x,.bl false]))=ok (.int x) (s.set k (.lst [.int x,.bl false])):=λ_=>yG _ _ k _ Z;simp only[bj.cH,aM,ax,bB,cN,truth,e2,w9,xa,eC,dH,á,Ő,Ę,Ķ,yG _ _ k s e,Ea _ _ k s e,õ,đ,Â,ä,ô,bQ,aU,gN,ma,Cz _ _ _ k s e,aG,ö,ø,Ò,S,R,Q,m4,P,KU,q0 _ (show (0:Int)<2147483647 by decide),q0 _ (show (0:Int)<2147483629 by decide),q0 _ (show (0:Int)<2147483587 by decide),KW _ (show (0:Int)<8 by decide) (by decide),q0 _ h1,U,W,T,O 0]
def SR {ns:List Int} {i:Int} {s:aa} (h0:0<=i):Wp (bj.sk [.bJ ns,.int i] s) λd s'=>d=.az s.length/\Sf s' s.length/\∃c,s'=s++[c]:=by
 obtain⟨c,Y⟩:=SJ (ns:=ns) (s:=s) h0;have Z:∀s,qI (.int 10) (.int 18) s=ok (.int (10 ^ 18)) s:=λs=>by
  have e:Cf (.int 10) (.int 18)=some (.int (10 ^ 18)):=by
   show (if (decide ((0:Int)<=18)&&decide ((18:Int)<=1000000)&&decide ((10:Int).natAbs<2 ^ 64))=true then some (D.int (10 ^ (18:Int).toNat)) else none)=_
   rw[Þ (by decide)];rfl
  simp only[qI,e,bM]
 unfold bj.sk;simp only[VC,Y,Z];by_cases h:(10:Int) ^ 18<=c
 ·rw[Ó h]
  simp only[VC,Z,ô];exact⟨by decide,⟨_,true,by simp;rfl,by omega,λz=>by cases z⟩,_,rfl⟩
 ·rw[ç h]
  simp only[VC,Â,ä,q0 _ (show (0:Int)<2147483647 by decide)];exact⟨by decide,⟨_,false,by simp;rfl,aaX _ (by decide),λ_=>ž _ (by decide)⟩,_,rfl⟩
def BH {ds:List D} {r:Int} {s:aa} (h0:0<=r) (h1:r<ds.length):∃d∈ds,ar (.lst ds) (.int r) s=ok d s:=by
 obtain⟨x,e,e2⟩:=xb h0 h1;exact⟨x,Ŧ e2,by simp only[ar,nO,res,e,bM]⟩
def LS {k:Int} {s:aa} (h0:0<=k) (h1:k<3):∃n:Nat,ar (.lst [.int 2,.int 4,.int 8]) (.int k) s=ok (.int n) s/\2<=n/\n<=8:=by
 obtain⟨d,Z,e⟩:=BH (ds:=[.int 2,.int 4,.int 8]) (s:=s) h0 h1;simp only[Ô,ï,or_false] at Z
 rcases Z with rfl|rfl|rfl
 ·exact⟨2,e,by decide,by decide⟩
 ·exact⟨4,e,by decide,by decide⟩
 ·exact⟨8,e,by decide,by decide⟩
def Rj {s:aa} {k n:Nat} (h:Sf s k):Wp (fX 1 [some (.az k)] (gN 0) dh (aD bj.cH (af (ae 1) (af (eC (.int 3)) ah))) (cj 0 n) s) λxs s'=>∃ns:List Int,xs=ns.map D.int/\ns.length=n/\Sf s' k/\Ex k s s':=by
 refine SF (λi Z s'=>∃ns:List Int,Z=ns.map D.int/\ns.length=i/\Sf s' k/\Ex k s s') (cj 0 n) ⟨[],rfl,rfl,h,Ex.refl _ _⟩ (λi d Z s' Y X=>?_) λZ s' X=>?_
 ·obtain⟨ns,rfl,W,V,U⟩:=X
  rw[mL] at Y;split at Y
  ·cases Y
   refine⟨[some (.int (0+i)),some (.az k)],rfl,?_⟩;simp only[VC];refine ab0 (show dh _ s'=ok true s' from rfl) ?_;simp only[ô];refine(jS V (by decide) (by decide)).mono λd R Y=>?_;obtain⟨r,rfl,Q,P,T,S⟩:=Y;exact⟨ns++[r],by simp,by rw[é,W];rfl,T,U.trans S⟩
  ·cases Y
 ·rw[jJ] at X
  exact X
noncomputable def pick (ns:List Int) (c:Int) (n:Nat):List Int:=((Ā n).filter λi=>decide (ns.getD i 0=c)).map λi:Nat=>(i:Int)
def G7 (ns:List Int) (c:Int) (n:Nat):ck n (pick ns c n):=by
 refine⟨λx Z=>?_,?_⟩
 ·obtain⟨i,hi,rfl⟩:=ć.mp Z
  have:=ú.mp (Ĳ.mp hi).1;omega
 ·unfold pick
  rw[List.pairwise_map];exact(List.pairwise_lt_range.filter _).imp λh=>by omega
def HV {ns:List Int} {c:Int} {s:aa}:fX 1 [some (.lst (ns.map D.int))] (gN 0) (bg (DI.e2 aY (DI.e2 ar (ae 1) (ae 0)) (eC (.int c)))) (ae 0) (cj 0 ns.length) s=ok ((pick ns c ns.length).map D.int) s:=by
 rw[HP];have:=comp_map (nt:=1) (caps:=[some (.lst (ns.map D.int))]) (g:=gN 0) (t:=bg (DI.e2 aY (DI.e2 ar (ae 1) (ae 0)) (eC (.int c)))) (f:=ae 0) (s:=s) (λi:Nat=>D.int (0+(i:Int))) (λi=>decide (ns.getD i 0=c)) (λi:Nat=>D.int i) (Ā ns.length) λi hi=>⟨[some (.int (0+(i:Int))),some (.lst (ns.map D.int))],rfl,?_,λ_=>?_⟩
 ·rw[this]
  unfold pick;rw[ė];rfl
 ·have hi:=ú.mp hi
  rw[abm];refine ab1 ?_;simp only[VC];refine ab0 (show ar (.lst (ns.map D.int)) (.int i) s=ok (.int (ns.getD i 0)) s from ?_) ?_
  ·unfold ar nO res
   simp only[];rw[RT (by rw[í,getD_some (d:=0) hi];rfl)];rfl
  ·simp only[VC]
   exact⟨by rw[ĳ];simp,trivial⟩
 ·rw[abm];rfl
def SS {ns:List Int} {n:Nat} {x:Int} (h:x∈pick ns 1 n) (g:x∈pick ns 2 n):False:=by
 unfold pick at h g;obtain⟨i,hi,rfl⟩:=ć.mp h;obtain⟨j,Z,e⟩:=ć.mp g;have:i=j:=by omega
 subst this;have Y:=(Ĳ.mp hi).2;have X:=(Ĳ.mp Z).2;simp only[Ê] at Y X;omega
def SU {s:aa} {k:Nat} (h:Sf s k):Wp (bj.vY [.az k] s) λd s'=>∃a b,d=.tup [mD a,mD b]/\ck 8 a/\ck 8 b/\(∀x∈a,x∉b)/\Sf s' k/\Ex k s s':=by
 unfold bj.vY;refine dS.symm ▸ ⟨rfl,ab2 λR Y=>?_⟩;simp only[VC];refine⟨by decide,?_⟩;refine(jS h (by decide) (by decide)).mono λd T S=>?_;obtain⟨r,rfl,Q,P,W,O⟩:=S;obtain⟨n,e,K,U⟩:=LS (s:=T) Q P;refine ab0 e ?_;subst Y;refine ab2 λR Y=>?_;simp only[VC];refine ab0 (jR (n:=n) rfl (by omega)) ⟨by rw[jJ];exact le_size (by omega),?_⟩;refine(Rj W).mono λJ X N=>?_;obtain⟨Z,rfl,M,V,L⟩:=N;subst Y;subst M;refine ab2 λR Y=>?_;simp only[VC];refine ab0 (jR (n:=Z.length) rfl (by omega)) ⟨by rw[jJ];exact le_size (by omega),?_⟩;refine ab0 HV ?_;refine ab0 (show ij [.lst ((pick Z 1 Z.length).map D.int)] X=ok (mD (pick Z 1 Z.length)) X from rfl) ?_;subst Y;simp only[VC];refine ab0 (jR (n:=Z.length) rfl (by omega)) ⟨by rw[jJ];exact le_size (by omega),?_⟩;refine ab0 HV ?_;refine ab0 (show ij [.lst ((pick Z 2 Z.length).map D.int)] X=ok (mD (pick Z 2 Z.length)) X from rfl) ?_;exact⟨by decide,_,_,rfl,(G7 Z 1 _).LP U,(G7 Z 2 _).LP U,λx W V=>SS W V,V,O.trans L⟩
def Vh {s:aa} {k:Nat} {n:Int} (h:Sf s k) (h0:0<n) (h1:n<=31):Wp (bj.wy [.az k,.int n] s) λd s'=>∃p,d=p.d/\dw p=true/\Sf s' k/\Ex k s s':=by
 unfold bj.wy;refine dS.symm ▸ ⟨rfl,ab2 λR X=>?_⟩;simp only[á,Ő,Ò,Nat.reduceSub,Ę,Ķ,wA,bC,bz,cL,qE,bX,wp_call,aQ,bq];refine(jS h (by decide) (by decide)).mono λd A Z=>?_;obtain⟨m,rfl,m0,K,g1,T⟩:=Z;refine⟨le_size (n:=2) (by decide),?_⟩;refine(jS g1 (by decide) (by decide)).mono λd J Z=>?_;obtain⟨r,rfl,I,H,g2,S⟩:=Z;obtain⟨d,Z,e⟩:=BH (ds:=[.int 0,.int m]) (s:=J) I H;refine ab0 e ?_;have W:∃Y:Int,d=.int Y/\0<=Y/\Y < 4:=by
  simp only[Ô,ï,or_false] at Z
  rcases Z with rfl|rfl
  ·exact⟨0,rfl,by decide,by decide⟩
  ·exact⟨m,rfl,m0,K⟩
 obtain⟨Y,rfl,W⟩:=W;refine(jS g2 h0 (by omega)).mono λd x Z=>?_;obtain⟨y,rfl,Q,y1,g3,P⟩:=Z;refine⟨_,_,rfl,?_⟩;simp only[ö,ø,bS];subst X;refine ab2 λR X=>?_;simp only[VC];refine(jS g3 (by decide) (by decide)).mono λd w Z=>?_;obtain⟨z,rfl,O,N,M,L⟩:=Z;simp only[VC];split
 ·refine⟨by decide,?_⟩
  refine(jS M (by decide) (by decide)).mono λd s5 Z=>?_;obtain⟨z,rfl,O,N,V,U⟩:=Z;obtain⟨n,e,v,u⟩:=LS (s:=s5) O N;refine ab0 e ?_;refine(jS V (by omega) (by omega)).mono λd t Z=>?_;obtain⟨c,rfl,G,q,F,E⟩:=Z;refine⟨by decide,?_⟩;subst X;exact⟨.bI Y y c,rfl,Px W ⟨Q,by omega⟩ ⟨G,by omega⟩,F,((((T.trans S).trans P).trans L).trans U).trans E⟩
 ·subst X
  simp only[VC];refine(SU M).mono λd s5 Z=>?_;obtain⟨a,b,rfl,D,C,B,V,U⟩:=Z;exact⟨by decide,.made Y y a b,rfl,Py W ⟨Q,by omega⟩ D C (by decide) B,V,(((T.trans S).trans P).trans L).trans U⟩
def qi {n:Nat} {i:Int} {s:aa}:bj.fV (n+1) [.int i,.int i] s=ok (.bl true) s:=by
 refine ab1 ?_;unfold bj.fV;simp only[VC];refine ab0 (show qW (.int i) s=ok (.bl false) s from rfl) ?_;simp only[VC,Â,ä];refine ab0 (show cm [.int i,.ty "bool"] s=ok (.bl false) s from rfl) ?_;refine ab0 (show cm [.int i,.ty "bool"] s=ok (.bl false) s from rfl) ?_;refine ab0 (show aY (.bl false) (.bl false) s=ok (.bl true) s from rfl) ?_;simp only[VC,ô,ą,ņ]
def eq_str {x:Str} {s:aa}:aY (.str x) (.str x) s=ok (.bl true) s:=by
 show (match jj (.str x) (.str x) with|some b=>ok (D.bl b) s|none=>none)=_
 have e:jj (.str x) (.str x)=some true:=by
  unfold jj;rw[Þ (show (mB (.str x)&&mB (.str x))=true from rfl)];simp[beq]
 rw[e]
def zQ {n:Nat} {x:Str} {s:aa}:bj.fV (n+1) [.str x,.str x] s=ok (.bl true) s:=by
 refine ab1 ?_;unfold bj.fV;simp only[VC];refine ab0 (show qW (.str x) s=ok (.bl false) s from rfl) ?_;simp only[VC,Â,ä];refine ab0 (show cm [.str x,.ty "bool"] s=ok (.bl false) s from rfl) ?_;refine ab0 (show cm [.str x,.ty "bool"] s=ok (.bl false) s from rfl) ?_;refine ab0 (show aY (.bl false) (.bl false) s=ok (.bl true) s from rfl) ?_;simp only[VC,ô];exact ab0 eq_str ⟨rfl,rfl⟩
def Rk {α:Type} {f:α->Bool} (xs:List α):DI.c9 (xs.map λx=>D.bl (f x))=true:=by
 induction xs with
 |nil=>rfl
 |cons a r ih=>simp only[á,DI.c9,lay,ih,Ĭ]
def SV {α:Type} {f:α->Bool} {xs:List α} {s:aa}:ig (.bl false) (.lst (xs.map λx=>D.bl (f x))) s=ok (.bl (xs.all f)) s:=by
 unfold ig inD;rw[show lX (.lst (xs.map λx=>D.bl (f x))) s=some (xs.map λx=>D.bl (f x)) from rfl];simp only[];rw[Þ (by unfold m7;rw[Rk];rfl)];show ok (D.bl (!(xs.map λx=>D.bl (f x)).any λy=>beq y (.bl false))) s=_;congr 3
 have e:∀b,beq (.bl b) (.bl false)=!b:=λb=>by cases b<;>rfl
 rw[List.any_map];simp only[œ,e,List.not_any_eq_all_not,Bool.not_not]
def Rl {nt:Nat} {cap:List Nat} {it:abZ (List D×(aa->Prop))} {gd:D->Env->Option Env} {c:abZ Bool} {f:abZ D} {env:Env} {s:aa} {Q:D->aa->Prop} :
  Wp (sM nt cap it gd c f env s) Q=Wp (it env s) λp s=>p.1.length<=Ñ/\Wp (jL nt (f6 cap env) gd c f p.2 p.1 s) λxs s=>Q (.lst xs) s:=by
 unfold sM;simp only[bR,qh,bo]
def Pz {α:Type} (d:α->D) {nt:Nat} {caps:Env} {g:D->Env->Option Env} {t:abZ Bool} {f:abZ D} {γ:aa->Prop} {s:aa} (lJ:γ s) (h:α->D) (xs:List α) (hh:∀x∈xs,∃env,g (d x) (Ò nt none++caps)=some env/\t env s=ok true s/\f env s=ok (h x) s) :
  jL nt caps g t f γ (xs.map d) s=ok (xs.map h) s:=by
 induction xs with
 |nil=>rw[Ő];unfold jL;rw[Þ lJ];rfl
 |cons n U ih =>
  obtain⟨env,Z,Y,X⟩:=hh n Ø;have ih:=ih λW V=>hh W (Ï _ V);rw[á];unfold jL;rw[Þ lJ,Z];simp only[Y,oP,dH,ô,X,ih,á]
theorem Gk:∀ds:List D,fk ds ds=ds.map λd=>D.tup [d,d]
 | []=>rfl
 |d::ds=>by
  have:=Gk ds;unfold fk at this |-;simp only[ě,á,this]
def qj {n:Nat} {ds:List D} {s:aa} (hl:ds.length<=1000) (h:∀d∈ds,bj.fV n [d,d] s=ok (.bl true) s):bj.fV (n+1) [.tup ds,.tup ds] s=ok (.bl true) s:=by
 have Z:cm [.tup ds,.ty "list"] s=ok (.bl false) s/\cm [.tup ds,.ty "tuple"] s=ok (.bl true) s:=⟨rfl,rfl⟩;have len:cy [.tup ds] s=ok (.int ds.length) s:=rfl;refine ab1 ?_;unfold bj.fV;simp only[VC];refine ab0 (show qW (.tup ds) s=ok (.bl true) s from rfl) ?_;simp only[VC,ô];refine ab0 Z.1 (ab0 Z.1 ?_);refine ab0 (show dW (.bl false) (.bl false) s=ok (.bl false) s from rfl) ?_;simp only[VC,Â,ä];refine ab0 Z.2 (ab0 Z.2 ?_);refine ab0 (show dW (.bl true) (.bl true) s=ok (.bl false) s from rfl) ?_;simp only[VC,Â,ä];refine ab0 len (ab0 len ?_);simp only[VC,ą,å,Â,ä,Rl];refine ab0 (show lY (af (ae 0) (af (ae 1) ah)) [some (.tup ds),some (.tup ds)] s=ok (fk ds ds,λ_=>True) s from rfl) ⟨le_size (by rw[si];omega),?_⟩;rw[Gk];refine ab0 (Pz (γ:=λ_=>True) (λd:D=>D.tup [d,d]) trivial (λ_=>.bl true) ds λd Y=>⟨[some d,some d],rfl,rfl,?_⟩) ?_
 ·refine ab1 ?_
  simp only[VC,h d Y,ņ]
 ·exact ab0 (SV (f:=λ_=>true)) ⟨by simp,rfl⟩
section
variable (s l m:Nat->Bool)
noncomputable def pr:Nat->Bool
 |0=>s 0
 |d+1=>s (d+1)||(pr d&&!m (d+1))
noncomputable def LU:Nat->Bool
 |0=>false
 |n+1=>(LU n||l (30-n))&&!m (30-n)
def br (d:Nat):Bool:=LU l m (31-d)
def ab (d:Nat):Bool:=br l m (d+1)||(l d||m d)
noncomputable def f0 (d:Nat):Bool:=!s d
noncomputable def t0 (d:Nat):Bool:=!m d&&!l d
def fw:Nat->Bool×Bool
 |0=>(f0 s 0,t0 l m 0)
 |d+1=>(f0 s (d+1)&&((fw d).1||(m (d+1)&&((fw d).1||(fw d).2))),t0 l m (d+1)&&((fw d).1||(fw d).2))
def wD:Prop:=∀d e,s d=true->d<=e->e<=30->(l e=true\/(e=d/\m d=true))->∃x,d<x/\x<=e/\m x=true
variable {s l m}
theorem A8:∀{d:Nat},pr s m d=true↔∃e,e<=d/\s e=true/\∀x,e<x->x<=d->m x=false
 |0=>by
  simp only[pr];constructor
  ·intro h;exact⟨0,ab3 _,h,λx Y Z=>by omega⟩
  ·rintro ⟨e,Y,Z,_⟩
   have:e=0:=by omega
   rw[<- this];exact Z
 |d+1=>by
  simp only[pr,aaP,Æ,Ě];rw[A8 (d:=d)];constructor
  ·rintro (h | ⟨⟨e,Y,Z,X⟩,V⟩)
   ·exact⟨d+1,ab3 _,h,λx Y Z=>by omega⟩
   ·refine⟨e,by omega,Z,λx W U=>?_⟩
    by_cases T:x=d+1
    ·rw[T];exact V
    ·exact X x W (by omega)
  ·rintro ⟨e,Y,Z,X⟩
   by_cases S:e=d+1
   ·left;rw[<- S];exact Z
   ·right
    exact⟨⟨e,by omega,Z,λx W U=>X x W (by omega)⟩,X (d+1) (by omega) (ab3 _)⟩
section
variable (N:wD s l m)
include N
end
end
def ia (s:aa) (j n:Nat):Prop:=∃Z:List Int,s[j]?=some (.lst (Z.map D.int))/\Z.length<=n
def ia.lt (h:ia s j n):j<s.length:=by
 obtain⟨Z,e,_⟩:=h;exact(È.mp e).1
def ia.ex (h:ia s j n) (x:Ex k s s') (hj:j≠k):ia s' j n:=by
 have Z:=h.lt;obtain⟨Y,e,r⟩:=h;exact⟨Y,(x.val j Z hj).trans e,r⟩
theorem ia.set (h:ia s j n) (hi:i≠j) (c:Cell):ia (s.set i c) j n:=by
 obtain⟨Z,e,r⟩:=h;exact⟨Z,by rw[Ý hi];exact e,r⟩
def ia.app (h:ia s j n) (c:List Cell):ia (s++c) j n:=by
 have Z:=h.lt;obtain⟨Y,e,r⟩:=h;exact⟨Y,by rw[Ü Z];exact e,r⟩
def ia.more (h:ia s j n) (hm:n<=m):ia s j m:=by
 obtain⟨Z,e,l⟩:=h;exact⟨Z,e,by omega⟩
def nV (s:aa) (j n:Nat):Prop:=∃ls:List (List Int),s[j]?=some (.lst (ls.map lI))/\ls.length=n
def nV.lt (h:nV s j n):j<s.length:=by
 obtain⟨Z,e,_⟩:=h;exact(È.mp e).1
def nV.ex (h:nV s j n) (x:Ex k s s') (hj:j≠k):nV s' j n:=by
 have Z:=h.lt;obtain⟨Y,e,r⟩:=h;exact⟨Y,(x.val j Z hj).trans e,r⟩
theorem nV.set (h:nV s j n) (hi:i≠j) (c:Cell):nV (s.set i c) j n:=by
 obtain⟨Z,e,r⟩:=h;exact⟨Z,by rw[Ý hi];exact e,r⟩
structure BI (W:Ą) (k j b n q:Nat) (s0 s:aa):Prop where
 st:jv s k
 dict:fv W ZA s j n
 bI:∀i,i<8->ia s (b+i) q
 ext:Ex k s0 s
section
variable {W:Ą} {k j b n q:Nat} {s0 s:aa}
def BI.draw (h:BI W k j b n q s0 s) (hj:j≠k) (hb:∀i,i<8->b+i≠k) (x:Ex k s s') (hs:jv s' k):BI W k j b n q s0 s' :=
 ⟨hs,h.dict.ex x hj,λi hi=>(h.bI i hi).ex x (hb i hi),h.ext.trans x⟩
def BI.put (h:BI W k j b n q s0 s) (hj:j≠k) (ZC:∀i,i<8->b+i≠j) (hl:s0.length<=j) (hf:dw p=true) (hn:n<1000):∃s',xT W (.az j) p.d (.bl true) s=some s'/\BI W k j b (n+1) q s0 s'/\Ex j s s':=by
 obtain⟨c,e,d⟩:=Vg h.dict hf hn;exact⟨_,e,⟨h.st.set hj c,d,λi hi=>(h.bI i hi).set (Ź (ZC i hi)) c,h.ext.Zz hl c⟩,Ex.set j s c⟩
end
section
variable (ps:List Pg) (m k:Int)
def sN (d:Nat):Bool:=decide ((d:Int)∈shown ps m k)
def lN (d:Nat):Bool:=decide ((d:Int)∈gC ps m k)
def mN (d:Nat):Bool:=decide ((d:Int)∈fN ps m k)
end
def SW (h:c8 ps=true) (hm:0<=m/\m<4) (hk:0<=k/\k<8):wD (sN ps m k) (lN ps m k) (mN ps m k):=by
 intro d e hs U T Z;simp only[sN,lN,mN,Ê] at hs Z;have c:=Rh h hm hk hs (l:=(e:Int)) (by omega) (by omega);unfold nU at c;have Y:(decide ((e:Int)∈gC ps m k)||(decide ((e:Int)=(d:Int))&&decide ((d:Int)∈fN ps m k)))=true:=by
  rcases Z with Z | ⟨S,X⟩
  ·rw[Ó Z];rfl
  ·rw[Ó (show (e:Int)=d by omega),Ó X];simp
 rw[Y,ă,Bool.not_eq_false'] at c;unfold x8 at c;obtain⟨x,W,V⟩:=ŝ.mp c;simp only[Æ,Ê] at V;refine⟨x.toNat,by omega,by omega,?_⟩;simp only[mN,Ê];rw[show ((x.toNat:Nat):Int)=x by omega];exact W
def pv (s m:Nat->Bool):Nat->Bool
 |0=>false
 |i+1=>pr s m i
open DI.bj
abbrev lD (ps:List Pg):D:=.lst (ps.map Pg.d)
def Kp (s s':aa):Prop:=s.length<=s'.length/\∀j,j<s.length->s'[j]?=s[j]?
def Kp.refl (s:aa):Kp s s:=⟨ab3 _,λ_ _=>rfl⟩
theorem Kp.trans {a b c:aa} (h:Kp a b) (g:Kp b c):Kp a c:=⟨à h.1 g.1,λj Z=>(g.2 j (Ç Z h.1)).trans (h.2 j Z)⟩
def Kp.app (s c:aa):Kp s (s++c):=⟨by simp,λj Z=>Ü Z⟩
def Kp.get {s s':aa} (h:Kp s s') {k:Nat} {c:Cell} (e:s[k]?=some c):s'[k]?=some c:=by rw[h.2 k (È.mp e).1];exact e
def Kp.sf {s s':aa} {k:Nat} (h:Kp s s') (g:Sf s k):Sf s' k:=by
 obtain⟨a,b,e,r⟩:=g;exact⟨a,b,h.get e,r⟩
theorem Kp.set {s s':aa} (h:Kp s s') {j:Nat} (hj:s.length<=j) (c:Cell):Kp s (s'.set j c):=⟨by rw[Č];exact h.1,λi hi=>by rw[Ý (by omega)];exact h.2 i hi⟩
def A9 {x:Int} {ns:List Int} {d:D} {s:aa} (h:lX d s=some (ns.map D.int)):fm (.int x) d s=ok (.bl (decide (x∈ns))) s/\ig (.int x) d s=ok (.bl (!decide (x∈ns))) s:=by
 have Z:m7 100 (.int x) (ns.map D.int)=true:=by simp only[m7,lay,se,dep,Ĭ,ē,Ĩ]
 have e:inD (.int x) (ns.map D.int)=some (decide (x∈ns)):=by unfold inD;rw[Þ Z,HM]
 unfold fm ig;rw[h];simp only[e];exact⟨rfl,rfl⟩
def HW {ds:List D} {j:Nat} {s:aa} (h:s[j]?=some (.lst ds)):lX (.az j) s=some ds:=by unfold lX res;simp only[h]
def HX {ds:List D} {x:D} {j:Nat} {s:aa} (h:s[j]?=some (.lst ds)) (hl:ds.length<=1000):kU (.az j) s=true/\qV (.az j) x s=ok .ao (s.set j (.lst (ds++[x]))):=by
 refine⟨by simp only[kU,h],?_⟩;unfold qV;simp only[h,Ó (aaU hl (show 1000<Ñ by decide)),ô]
section
variable {s:aa} {ps:List Pg} {p:Pg} {m k:Int} {Q:Fl->aa->Prop} {e0 e1 e2 e3 e4 e5 e6 e7 e8:Option D}
def G8 {x:Int} {b:Bool}:eQ (.lst [.int x]) (.int (if b then 1 else 0)) s=ok (.lst ((if b=true then [x] else []).map D.int)) s:=by
 cases b<;>rfl
def Jb {a b:List Int} (h:a.length+b.length<=1000000):bO (.lst (a.map D.int)) (.lst (b.map D.int)) s=ok (.lst ((a++b).map D.int)) s:=by
 rw[XY (by simpa only [É] using h),Ļ]
def one_le (x:Int) (b:Bool):(if b=true then [x] else []).length<=1:=by cases b<;>simp
def nW (m k:Int) (p:Pg):List Int:=if nS m k p=true then [p.day] else []
def nX (m k:Int) (p:Pg):List Int:=if nT m k p=true then [p.day] else []
def ku (m k:Int) (p:Pg):List Int:=if mI m k p=true then [p.day] else []
def PB:shown (ps++[p]) m k=shown ps m k++nW m k p:=by
 unfold shown nW;rw[List.filter_append,Ļ];congr 1
 cases h:nS m k p<;>simp[List.filter,h]
def Oq:gC (ps++[p]) m k=gC ps m k++nX m k p:=by
 unfold gC nX;rw[List.filter_append,Ļ];congr 1
 cases h:nT m k p<;>simp[List.filter,h]
def Ot:fN (ps++[p]) m k=fN ps m k++ku m k p:=by
 unfold fN ku;rw[List.filter_append,Ļ];congr 1
 cases h:mI m k p<;>simp[List.filter,h]
def Vi {a b c:List Int} {j:Nat} (hj:s[j]?=some (.lst (c.map D.int))) (la:a.length<=900) (lb:b.length<=900) (lc:c.length<=900)
  (hQ:∀s',s'[j]?=some (.lst ((c++ku m k p).map D.int))->(s'=s\/∃x,s'=s.set j x)->Q (.nx [e0,some (.int m),some (.int k),some (.lst ((a++nW m k p).map D.int)),some (.lst ((b++nX m k p).map D.int)),some (.az j),some p.d,e7,e8]) s') :
  Wp (yQ [e0,some (.int m),some (.int k),some (.lst (a.map D.int)),some (.lst (b.map D.int)),some (.az j),some p.d,e7,e8] s) Q:=by
 unfold yQ
 cases p with
 |bI Y Z V =>
  have P:nW m k (.bI Y Z V)=[]:=rfl;have O:nX m k (.bI Y Z V)=[]:=rfl;rw[P,O,þ,þ] at hQ;refine ab2 λR N=>?_;simp only[VC,Pg.d];refine ab0 (show ar (.tup [.str "mended",.int Y,.int Z,.int V]) (.int 0) s=ok (.str "mended") s from rfl) ?_;refine ab0 (show aY (.str "mended") (.str "mended") s=ok (.bl true) s from rfl) ?_;simp only[VC,ô];refine ab0 (show ar (.tup [.str "mended",.int Y,.int Z,.int V]) (.int 1) s=ok (.int Y) s from rfl) ?_;have rest:∀s',s'[j]?=some (.lst ((c++ku m k (.bI Y Z V)).map D.int))->(s'=s\/∃x,s'=s.set j x)->kq R Q (.nx [e0,some (.int m),some (.int k),some (.lst (a.map D.int)),some (.lst (b.map D.int)),some (.az j),some (.tup [.str "mended",.int Y,.int Z,.int V]),e7,e8]) s':=λs' e x=>by
   rw[bS];subst N;simp only[VC];refine ab0 (show ar (.tup [.str "mended",.int Y,.int Z,.int V]) (.int 0) s'=ok (.str "mended") s' from rfl) ?_;refine ab0 (show aY (.str "mended") (.str "made") s'=ok (.bl false) s' from rfl) ?_;simp only[VC,Â,ä];exact hQ s' e x
  simp only[VC];split
  ·rename_i U
   refine ab0 (show ar (.tup [.str "mended",.int Y,.int Z,.int V]) (.int 3) s=ok (.int V) s from rfl) ?_;simp only[VC];split
   ·rename_i T
    have S:ku m k (.bI Y Z V)=[Z]:=by
     unfold ku mI;rw[Þ (by simp at U T;simp[U,T])];rfl
    rw[S] at rest;obtain⟨U,T⟩:=HX (x:=.int Z) hj (by rw[É];omega);refine⟨U,?_⟩;refine ab0 (show ar (.tup [.str "mended",.int Y,.int Z,.int V]) (.int 2) s=ok (.int Z) s from rfl) ?_;refine ab0 T (rest _ ?_ (.inr ⟨_,rfl⟩));rw[ê (È.mp hj).1];simp
   ·rename_i T
    have S:ku m k (.bI Y Z V)=[]:=by
     unfold ku mI;rw[ì (by simp at U T;simp[U,T])]
    rw[S,þ] at rest;exact rest s hj (.inl rfl)
  ·rename_i U
   have S:ku m k (.bI Y Z V)=[]:=by
    unfold ku mI;rw[ì (by simp at U;simp[U])]
   rw[S,þ] at rest;simp only[Â,ä];exact rest s hj (.inl rfl)
 |made Y Z X W =>
  have S:ku m k (.made Y Z X W)=[]:=rfl;rw[S,þ] at hQ;refine ab2 λR N=>?_;simp only[VC,Pg.d];refine ab0 (show ar (.tup [.str "made",.int Y,.int Z,.tup [ti X,ti W]]) (.int 0) s=ok (.str "made") s from rfl) ?_;refine ab0 (show aY (.str "made") (.str "mended") s=ok (.bl false) s from rfl) ?_;simp only[VC,Â,ä];subst N;simp only[VC];refine ab0 (show ar (.tup [.str "made",.int Y,.int Z,.tup [ti X,ti W]]) (.int 0) s=ok (.str "made") s from rfl) ?_;refine ab0 (show aY (.str "made") (.str "made") s=ok (.bl true) s from rfl) ?_;simp only[VC,ô];refine ab0 (show ar (.tup [.str "made",.int Y,.int Z,.tup [ti X,ti W]]) (.int 1) s=ok (.int Y) s from rfl) ?_;simp only[VC];split
  ·rename_i U
   have e1:(Y==m)=true:=U
   have P:nW m k (.made Y Z X W)=if decide (k∈X)=true then [Z] else []:=by
    unfold nW nS;simp only[beq_iff_eq] at e1;simp only[e1,Ĩ,ă];rfl
   have O:nX m k (.made Y Z X W)=if decide (k∈W)=true then [Z] else []:=by
    unfold nX nT;simp only[beq_iff_eq] at e1;simp only[e1,Ĩ,ă];rfl
   rw[P,O] at hQ;refine ab0 (show ar (.tup [.str "made",.int Y,.int Z,.tup [ti X,ti W]]) (.int 2) s=ok (.int Z) s from rfl) ?_;refine⟨by decide,?_⟩;refine ab0 (show ar (.tup [.str "made",.int Y,.int Z,.tup [ti X,ti W]]) (.int 3) s=ok (.tup [ti X,ti W]) s from rfl) ?_;refine ab0 (show ar (.tup [ti X,ti W]) (.int 0) s=ok (ti X) s from rfl) ?_;refine ab0 (qt (ns:=X)) ?_
   refine ab0 (show qZ [.bl (decide (k∈X))] s=ok (.int (if decide (k∈X) then 1 else 0)) s from rfl) ?_
   refine ab0 G8 ?_;have M:=one_le Z (decide (k∈X));have L:=one_le Z (decide (k∈W));refine ab0 (Jb (by omega)) ?_;refine ab0 (show ar (.tup [.str "made",.int Y,.int Z,.tup [ti X,ti W]]) (.int 2) s=ok (.int Z) s from rfl) ?_;refine⟨by decide,?_⟩;refine ab0 (show ar (.tup [.str "made",.int Y,.int Z,.tup [ti X,ti W]]) (.int 3) s=ok (.tup [ti X,ti W]) s from rfl) ?_;refine ab0 (show ar (.tup [ti X,ti W]) (.int 1) s=ok (ti W) s from rfl) ?_;refine ab0 (qt (ns:=W)) ?_
   refine ab0 (show qZ [.bl (decide (k∈W))] s=ok (.int (if decide (k∈W) then 1 else 0)) s from rfl) ?_
   refine ab0 G8 ?_;refine ab0 (Jb (by omega)) ?_;exact hQ s hj (.inl rfl)
  ·rename_i U
   have e1:¬ Y=m:=by simpa using U
   have P:nW m k (.made Y Z X W)=[]:=by unfold nW nS;simp[e1]
   have O:nX m k (.made Y Z X W)=[]:=by unfold nX nT;simp[e1]
   rw[P,O,þ,þ] at hQ;exact hQ s hj (.inl rfl)
def nY (sh la me:Nat->Bool) (d:Nat):Bool:=!(me d&&sh d)&&!(pr sh me d&&la d)
def ji (ps:List Pg) (m k:Int):Bool:=(Ā 31).all (nY (sN ps m k) (lN ps m k) (mN ps m k))
def Vj {a b c:List Int} {j y:Nat} {t:Bool} (hj:s[j]?=some (.lst (c.map D.int)))
  (hR:(decide ((y:Int)∈c)&&decide ((y:Int)∈a))=true\/((decide ((y:Int)∈a)||(t&&!decide ((y:Int)∈c)))&&decide ((y:Int)∈b))=true->Q (.rt (.bl false)) s)
  (hQ:(decide ((y:Int)∈c)&&decide ((y:Int)∈a))=false->((decide ((y:Int)∈a)||(t&&!decide ((y:Int)∈c)))&&decide ((y:Int)∈b))=false->Q (.nx [e0,e1,e2,some (.lst (a.map D.int)),some (.lst (b.map D.int)),some (.az j),e6,some (.bl (decide ((y:Int)∈a)||(t&&!decide ((y:Int)∈c)))),some (.int y)]) s) :
  Wp (yR [e0,e1,e2,some (.lst (a.map D.int)),some (.lst (b.map D.int)),some (.az j),e6,some (.bl t),some (.int y)] s) Q:=by
 have W:=A9 (x:=y) (HW hj);have V:=A9 (x:=y) (d:=.lst (a.map D.int)) (s:=s) (ns:=a) rfl;have S:=A9 (x:=y) (d:=.lst (b.map D.int)) (s:=s) (ns:=b) rfl;generalize P:decide ((y:Int)∈a)=Z at *;generalize O:decide ((y:Int)∈b)=N at *;generalize M:decide ((y:Int)∈c)=Y at *;unfold yR;refine ab2 λR X=>?_;simp only[gB,sC,aQ,bq,fY,cL,W.1,V.1,bo,cZ]
 have next:(Y&&Z)=false->kq R Q (.nx [e0,e1,e2,some (.lst (a.map D.int)),some (.lst (b.map D.int)),some (.az j),e6,some (.bl t),some (.int y)]) s:=λU=>by
  rw[bS];subst X;have e:(nL (DI.e2 fm (ae 8) (ae 3)) (dA (ae 7) (DI.e2 ig (ae 8) (ae 5)))) [e0,e1,e2,some (.lst (a.map D.int)),some (.lst (b.map D.int)),some (.az j),e6,some (.bl t),some (.int y)] s=ok (.bl (Z||(t&&!Y))) s:=by
   refine ab1 ?_;simp only[sQ,ot,cL,aQ,bq,V.1,W.2,bo,cZ]
   cases Z<;>cases t<;>simp
  refine ab2 λR X=>?_;rw[eJ];refine ab0 e ?_;rw[fF];simp only[ö,ø];rw[bS];subst X;simp only[gB,sC,kK,aQ,bq,je,fY,cL,S.1,bo,cZ]
  cases T:(Z||(t&&!Y)) with
  |false =>
   rw[T] at hQ;simp only[Â,ä,fx];exact hQ U rfl
  |true =>
   rw[T] at hQ hR;simp only[ô]
   cases N with
   |true=>simp only[ô,cQ,bX];exact hR (.inr rfl)
   |false=>simp only[Â,ä,fx];exact hQ U rfl
 cases Y with
 |true =>
  simp only[ô]
  cases Z with
  |true=>simp only[ô,cQ,bX,oF];exact hR (.inl rfl)
  |false=>simp only[Â,ä,fx];exact next rfl
 |false =>
  simp only[Â,ä,fx]
  exact next rfl
def yJ (sh me:Nat->Bool):Nat->Bool
 |0=>false
 |d+1=>pr sh me d
def Rm (sh me:Nat->Bool) (d:Nat):(sh d||(yJ sh me d&&!me d))=pr sh me d:=by
 cases d with
 |zero=>simp[yJ,pr]
 |succ d=>rfl
def PC (hl:ps.length<=100):Wp (vi [lD ps,.int m,.int k] s) λd s'=>d=.bl (ji ps m k)/\Kp s s':=by
 unfold vi;refine dS.symm ▸ ⟨rfl,ab2 λR Y=>?_⟩;refine ab0 (show xU 3 4 5 (af (eT ah) (af (eT ah) (af (eNew ah) ah))) _ s=ok (.nx [some (lD ps),some (.int m),some (.int k),some (.lst []),some (.lst []),some (.az s.length),none,none,none]) (s++[.lst []]) from rfl) ?_;rw[bS];subst Y;refine ab2 λR Y=>?_;rw[jM];refine ab0 (oj rfl) ?_;have N:=Kp.app s [.lst []];have M:(s++[Cell.lst []])[s.length]?=some (.lst (([]:List Int).map D.int)):=by simp
 generalize s++[Cell.lst []]=S at N M;have len:∀{T:List Pg} {f:Pg->Bool},T.length<=100->((T.filter f).map Pg.day).length<=900:=λ{T f} h=>by
  rw[É];exact à (ξ _ _) (by omega)
 refine Wp.mj (λi env s'=>∃e6:Option D,env=[some (lD ps),some (.int m),some (.int k),some (.lst ((shown (ps.take i) m k).map D.int)),some (.lst ((gC (ps.take i) m k).map D.int)),some (.az s.length),e6,none,none]/\s'[s.length]?=some (.lst ((fN (ps.take i) m k).map D.int))/\Kp s s') _ ⟨_,rfl,M,N⟩ (λi d env s' Z X=>?_) (λenv s' X=>?_)
 ·obtain⟨e6,rfl,V,W⟩:=X
  rw[í] at Z;obtain⟨p,L,rfl⟩:=aa2.mp Z;have hi:=(È.mp L).1;have J:ps.take (i+1)=ps.take i++[p]:=by rw[List.take_add_one,L];rfl
  have Q:(ps.take i).length<=100:=by rw[aau];omega
  refine⟨_,rfl,?_⟩;refine Vi V (len Q) (len Q) (len Q) λU I H=>?_;rw[J,PB,Oq,Ot];refine⟨_,rfl,I,?_⟩
  rcases H with rfl | ⟨x,rfl⟩
  ·exact W
  ·exact W.set (ab3 _) _
 obtain⟨e6,rfl,V,W⟩:=X;rw[É,List.take_length] at V |-;subst Y;refine ab2 λR Y=>?_;simp only[eJ,fF,bX,ö,ø,bS];subst Y;refine ab2 λR Y=>?_;rw[jM];refine ab0 (jR (n:=31) rfl (by decide)) ?_;refine Wp.mj (λi env U=>U=s'/\(∀d<i,nY (sN ps m k) (lN ps m k) (mN ps m k) d=true)/\∃e8,env=[some (lD ps),some (.int m),some (.int k),some (.lst ((shown ps m k).map D.int)),some (.lst ((gC ps m k).map D.int)),some (.az s.length),e6,some (.bl (yJ (sN ps m k) (mN ps m k) i)),e8]) _ ⟨rfl,λd h=>absurd h (abD _),_,rfl⟩ (λi d env U Z X=>?_) (λenv U X=>?_)
 ·obtain⟨rfl,P,e8,rfl⟩:=X
  rw[mL] at Z;split at Z
  ·rename_i hi
   cases Z;rw[abm];refine⟨_,rfl,?_⟩;have K:(decide ((i:Int)∈shown ps m k)||(yJ (sN ps m k) (mN ps m k) i&&!decide ((i:Int)∈fN ps m k)))=pr (sN ps m k) (mN ps m k) i:=Rm (sN ps m k) (mN ps m k) i;refine Vj V ?_ ?_
   ·rw[K]
    intro G;subst Y;refine⟨?_,W⟩;congr 1;symm;unfold ji;rw[List.all_eq_false];refine⟨i,ú.mpr hi,?_⟩
    rcases G with h|h
    ·have O:(mN ps m k i&&sN ps m k i)=true:=h
     unfold nY;rw[O];simp
    ·have O:(pr (sN ps m k) (mN ps m k) i&&lN ps m k i)=true:=h
     unfold nY;rw[O];simp
   ·rw[K]
    intro F E;refine⟨rfl,λd Z=>?_,_,rfl⟩;by_cases e:d=i
    ·subst e
     have C:(mN ps m k d&&sN ps m k d)=false:=F;have B:(pr (sN ps m k) (mN ps m k) d&&lN ps m k d)=false:=E;unfold nY;rw[C,B];rfl
    ·exact P d (by omega)
  ·cases Z
 ·obtain⟨rfl,P,e8,rfl⟩:=X
  subst Y;simp only[VC];refine⟨?_,W⟩;congr 1;symm;exact æ.mpr λd Z=>P d (by rw[jJ];exact ú.mp Z)
def Gm {ps:List Pg} {m k:Int}:ji ps m k=true↔wD (sN ps m k) (lN ps m k) (mN ps m k):=by
 unfold ji;rw[æ];constructor
 ·intro h d e hs Q P Z
  have O:∀x,x<=30->nY (sN ps m k) (lN ps m k) (mN ps m k) x=true:=λx U=>h x (ú.mpr (by omega));have Y:=O e P;unfold nY at Y;simp only[Æ,Ě,Bool.and_eq_false_iff] at Y
  rcases Z with Z | ⟨rfl,Z⟩
  ·apply Classical.byContradiction
   intro M;have:pr (sN ps m k) (mN ps m k) e=true:=A8.mpr ⟨d,Q,hs,λx W V=>by
    cases U:mN ps m k x with
    |false=>rfl
    |true=>exact(M ⟨x,W,V,U⟩).elim⟩
   rcases Y.2 with z|z
   ·rw[this] at z;cases z
   ·rw[Z] at z;cases z
  ·rcases Y.1 with z|z
   ·rw[Z] at z;cases z
   ·rw[hs] at z;cases z
 ·intro N d X
  have X:d<=30:=by have:=ú.mp X;omega
  unfold nY;simp only[Æ,Ě,Bool.and_eq_false_iff];constructor
  ·cases L:mN ps m k d with
   |false=>exact .inl rfl
   |true =>
    right
    cases hs:sN ps m k d with
    |false=>rfl
    |true =>
     obtain⟨x,T,S,_⟩:=N d d hs (ab3 _) X (.inr ⟨rfl,L⟩);omega
  ·cases K:pr (sN ps m k) (mN ps m k) d with
   |false=>exact .inl rfl
   |true =>
    right
    cases J:lN ps m k d with
    |false=>rfl
    |true =>
     obtain⟨e,W,V,I⟩:=A8.mp K;obtain⟨x,T,S,R⟩:=N e d V W X (.inl J);rw[I x T S] at R;cases R
end
noncomputable def yK:List Int:=(Ā 31).map λi:Nat=>(i:Int)
noncomputable abbrev ip (F:Nat->Bool):Cell:=.lst ((Ā 32).map λd=>D.bl (F d))
def NJ (hd:pq ps) (h:∀m∈m4,∀k∈k8,wD (sN ps m k) (lN ps m k) (mN ps m k)):lT ps=[]:=by
 unfold lT;rw[aaY];intro m W;rw[aaY];intro k V;rw[abF];unfold kM;rw[aaY];intro d U;rw[abF,List.filter_eq_nil_iff];intro e T Z;have hs:d∈shown ps m k:=oh.mp U;obtain⟨i,hi,rfl⟩:=ć.mp T;rw[ú] at hi;have R:=hd.of hs;unfold nU at Z;simp only[Æ,aaP,Ê,Ě] at Z;have e1:((d.toNat:Nat):Int)=d:=by omega
 have e2:(((d+(i:Int)).toNat:Nat):Int)=d+(i:Int):=by omega
 obtain⟨x,Q,P,X⟩:=h m W k V d.toNat (d+(i:Int)).toNat (by simp only[sN,e1,Ê];exact hs) (by omega) (by omega) (by
  rcases Z.1 with z | ⟨O,S⟩
  ·exact .inl (by simp only[lN,e2,Ê];exact z)
  ·exact .inr ⟨by omega,by simp only[mN,e1,Ê];exact S⟩)
 have Y:=Z.2;unfold x8 at Y;rw[List.any_eq_false] at Y;simp only[mN,Ê] at X;refine Y _ X ?_;simp only[Æ,Ê];omega
section
variable {s s':aa} {ps qs:List Pg} {p q:Pg} {a b:Nat} {bs:List (List Pg)} {env aA:Env} {st cF:abZ Fl} {d x:D} {y:aT}
def iF (ps:List Pg):Bool:=decide (ps.length<=24)&&m4.all λm=>k8.all λk=>ji ps m k
def Vk (hl:ps.length<=100):Wp (bj.vE [lD ps] s) λd s'=>d=.bl (iF ps)/\Kp s s':=by
 unfold bj.vE;refine dS.symm ▸ ⟨rfl,ab2 λR U=>?_⟩;simp only[VC];refine ab0 (show cy [lD ps] s=ok (.int ps.length) s from by show ok (D.int ((ps.map Pg.d).length:Nat)) s=_;rw[É]) ?_;simp only[VC];by_cases Q:(24:Int)<ps.length
 ·rw[Ó Q,Þ rfl]
  refine⟨?_,Kp.refl s⟩;unfold iF;rw[ç (by omega)];rfl
 ·rw[ç Q,ì Õ]
  have M:iF ps=m4.all λm=>k8.all λk=>ji ps m k:=by unfold iF;rw[Ó (by omega)];rfl
  rw[M];subst U;refine ab2 λR U=>?_;rw[jM];refine ab0 (jR (n:=4) rfl (by decide)) ?_;refine Wp.mj (λi env s'=>Kp s s'/\(∀m:Nat,m<i->∀k∈k8,ji ps m k=true)/\∃e1 e2,env=[some (lD ps),e1,e2]) _ ⟨Kp.refl s,λm h=>absurd h (abD _),_,_,rfl⟩ (λi d env s' Z X=>?_) (λenv s' X=>?_)
  ·obtain⟨Y,T,e1,e2,rfl⟩:=X
   rw[mL] at Z;split at Z
   ·rename_i hi
    cases Z;refine⟨_,rfl,?_⟩;rw[abm];unfold Fp;rw[jM];refine ab0 (jR (n:=8) rfl (by decide)) ?_;refine Wp.mj (λW env s'=>Kp s s'/\(∀k:Nat,k<W->ji ps i k=true)/\∃e2,env=[some (lD ps),some (.int (i:Int)),e2]) _ ⟨Y,λk h=>absurd h (abD _),_,rfl⟩ (λW d env L Z X=>?_) (λenv L X=>?_)
    ·obtain⟨Y,S,e2,rfl⟩:=X
     rw[mL] at Z;split at Z
     ·rename_i J
      cases Z;refine⟨_,rfl,?_⟩;rw[abm];unfold Fo;simp only[VC];refine(PC hl).mono λd I Z=>?_;obtain⟨rfl,P⟩:=Z;simp only[VC]
      cases O:ji ps i W with
      |false =>
       simp only[abP,ô,cQ,bX];subst U;refine⟨?_,Y.trans P⟩;congr 1;symm;rw[List.all_eq_false];refine⟨(i:Int),xg.mpr (by omega),?_⟩;rw[ű,List.all_eq_false];exact⟨(W:Int),xh.mpr (by omega),by rw[O];decide⟩
      |true =>
       simp only[å,Â,ä,fx];refine⟨Y.trans P,λk V=>?_,_,rfl⟩;by_cases e:k=W
       ·subst e;exact O
       ·exact S k (by omega)
     ·cases Z
    ·obtain⟨Y,S,e2,rfl⟩:=X
     refine⟨Y,λm N k V=>?_,_,_,rfl⟩;by_cases e:m=i
     ·subst e
      have H:=xh.mp V;have:=S k.toNat (by rw[jJ];omega);rw[show ((k.toNat:Nat):Int)=k by omega] at this;exact this
     ·exact T m (by omega) k V
   ·cases Z
  ·obtain⟨Y,T,e1,e2,rfl⟩:=X
   subst U;simp only[VC];refine⟨?_,Y⟩;congr 1;symm;refine æ.mpr λm N=>æ.mpr λk V=>?_;have K:=xg.mp N;have:=T m.toNat (by rw[jJ];omega) k V;rw[show ((m.toNat:Nat):Int)=m by omega] at this;exact this
def SX (h:Laid ps):iF ps=c8 ps:=by
 by_cases Z:ps.length<=24
 ·have W:=h.iR Z
  rw[ĳ];unfold iF;rw[Ó Z,ă];constructor
  ·intro hs
   have e:=NJ (Gj W) λm Y k X=>Gm.mp (æ.mp (æ.mp hs m Y) k X);unfold c8;rw[W,e];rfl
  ·intro V
   exact æ.mpr λm Y=>æ.mpr λk X=>Gm.mpr (SW V (xg.mp Y) (xh.mp X))
 ·have U:iF ps=false:=by unfold iF;rw[ç Z];rfl
  have T:c8 ps=false:=by unfold c8 iR;rw[ç Z];rfl
  rw[U,T]
def eqB (p q:Pg):Bool:=beq p.d q.d
def G9:eqB p p=true:=by
 unfold eqB
 cases p<;>simp[Pg.d,ti,beq,fG,vI]
def eqB_iff:eqB p q=true↔p=q:=by
 have Z:(ý "made"==ý "mended")=false:=by decide +kernel
 have Y:(ý "mended"==ý "made")=false:=by decide +kernel
 constructor
 ·unfold eqB
  cases p<;>cases q<;>intro h
  ·simp[Pg.d,ti,beq,fG,vI] at h
   obtain⟨rfl,rfl,rfl,rfl⟩:=h;rfl
  ·simp[Pg.d,ti,beq,fG,Z] at h
  ·simp[Pg.d,ti,beq,fG,Y] at h
  ·simp[Pg.d,ti,beq,fG] at h
   obtain⟨rfl,rfl,rfl⟩:=h;rfl
 ·intro h
  rw[h];exact G9
def Jc (p:Pg):lay p.d=true:=by
 have Z:abk "made"=true:=by decide +kernel
 have Y:abk "mended"=true:=by decide +kernel
 cases p with
 |made m d a b=>simp only[Pg.d,lay,DI.c9,ti,se,Z,Ĭ]
 |bI m d k=>simp only[Pg.d,lay,DI.c9,Y,Ĭ]
def Rn (ps:List Pg):DI.c9 (ps.map Pg.d)=true:=by
 induction ps with
 |nil=>rfl
 |cons p r ih=>simp only[á,DI.c9,Jc,ih,Ĭ]
def vc (p:Pg) (ps:List Pg):Bool:=ps.any λq=>eqB q p
def SY:vc p ps=true↔p∈ps:=by
 unfold vc;rw[ŝ];exact⟨λ⟨q,Z,Y⟩=>eqB_iff.mp Y ▸ Z,λh=>⟨p,h,G9⟩⟩
end
noncomputable abbrev sg (x:Str):List Nat:=x.cps.toList
def wF {x y:Str} (h:sg x=sg y):x=y:=Str.ext' (Array.toList_inj.mp h)
def oJ (x y:Str):sg (x++y)=sg x++sg y:=by show (x.cps++y.cps).toList=_;simp
def sU (x:Str):x.length=(sg x).length:=by show x.cps.size=_;simp
noncomputable def jl (c:Nat):List (List Nat)->List Nat
 | []=>[]
 | [x]=>x
 |x::y::r=>x++c::jl c (y::r)
theorem wG (c:Nat):∀zs:List Str,sg (ŧ ⟨#[c]⟩ zs)=jl c (zs.map sg)
 | []=>rfl
 | [x]=>rfl
 |x::y::r=>by
  show sg (x++⟨#[c]⟩++ŧ ⟨#[c]⟩ (y::r))=_;rw[oJ,oJ,wG c (y::r),Ł];rfl
theorem Jd {c:Nat}:∀{ps qs:List (List Nat)},ps≠[]->qs≠[]->(∀p∈ps,c∉p)->(∀q∈qs,c∉q)->jl c ps=jl c qs->ps=qs
 | [],_,h,_,_,_,_=>absurd rfl h
 |_::_,[],_,h,_,_,_=>absurd rfl h
 | [p],[q],_,_,_,_,e=>by rw[show p=q from e]
 | [p],q::X::r,_,_,Z,_,e=>by
  exfalso;have:c∈p:=by rw[show p=q++c::jl c (X::r) from e];simp
  exact Z p (by simp) this
 |p::W::r,[q],_,_,_,Y,e=>by
  exfalso;have:c∈q:=by rw[<- show p++c::jl c (W::r)=q from e];simp
  exact Y q (by simp) this
 |p::W::r,q::X::Q,_,_,Z,Y,e=>by
  have e:p++c::jl c (W::r)=q++c::jl c (X::Q):=e;have key:∀{a b u v:List Nat},c∉a->c∉b->a++c::u=b++c::v->a=b/\u=v:=by
   intro a
   induction a with
   |nil =>
    intro b u v _ V h
    cases b with
    |nil=>exact⟨rfl,by simpa using h⟩
    |cons y b=>simp at h;exact absurd (by simp[<- h.1]) V
   |cons x a ih =>
    intro b u v R V h
    cases b with
    |nil=>simp at h;exact absurd (by simp[h.1]) R
    |cons y b =>
     simp only[Ę,ν] at h;obtain⟨U,T⟩:=ih (λz=>R (Ï _ z)) (λz=>V (Ï _ z)) h.2;exact⟨by rw[h.1,U],T⟩
  obtain⟨U,T⟩:=key (Z p (by simp)) (Y q (by simp)) e;rw[U,Jd (by simp) (by simp) (λx S=>Z x (Ï _ S)) (λx S=>Y x (Ï _ S)) T]
def Ou {a b:List Str} (h:a.map sg=b.map sg):a=b:=(List.map_inj_right λx y e=>wF e).mp h
def zR {c:Nat} {zs:List Str} (hn:zs≠[]) (hz:∀z∈zs,c∉sg z):ĺ (ŧ ⟨#[c]⟩ zs) ⟨#[c]⟩=zs:=by
 refine Ou (Jd (c:=c) ?_ (by simpa using hn) (λp Z=>?_) (λp Z=>?_) ?_)
 ·intro e
  have:=PyProof.Rows.split_pos (ŧ ⟨#[c]⟩ zs) ⟨#[c]⟩;rw[abF] at e;rw[e] at this;simp at this
 ·obtain⟨z,Y,rfl⟩:=ć.mp Z
  exact StrLaws.split_free _ _ z Y
 ·obtain⟨z,Y,rfl⟩:=ć.mp Z
  exact hz z Y
 ·rw[<- wG,<- wG,StrLaws.join_split]
theorem qk:∀zs:List Str,sg (ŧ "" zs)=(zs.map sg).flatten
 | []=>rfl
 | [x]=>by show sg x=_;simp
 |x::y::r=>by
  show sg (x++""++ŧ "" (y::r))=_;rw[oJ,oJ,qk (y::r)];simp[show sg ""=[] from rfl]
def Ro {c:Nat} (zs:List Str):ŧ "" (zs.map λz=>z++⟨#[c]⟩)=ŧ ⟨#[c]⟩ (zs++[("":Str)]):=by
 refine wF ?_;rw[qk,wG]
 induction zs with
 |nil=>rfl
 |cons z r ih =>
  have e:(z::r++[("":Str)]).map sg=sg z::(r++[("":Str)]).map sg:=rfl;rw[e]
  have e2:∃y t,(r++[("":Str)]).map sg=y::t:=by cases r<;>exact⟨_,_,rfl⟩
  obtain⟨y,t,h⟩:=e2;rw[h] at ih |-;show _=sg z++c::jl c (y::t);rw[<- ih];simp[oJ];rfl
def PD {y:Str} {zs:List Str} (hy:y.length<=10) (hn:zs.length<=1000) (hz:∀z∈zs,z.length<=1000):JoinOk y zs=true:=by
 unfold JoinOk Builtin.Str.tooLong;rw[StrLaws.joinTotal];have Z:∀{zs:List Str},(∀z∈zs,z.length<=1000)->(zs.map (·.length)).sum<=zs.length*1000:=by
  intro zs
  induction zs with
  |nil=>intro _;simp
  |cons z r ih =>
   intro h;have a:=h z (by simp);have b:=ih λx Y=>h x (Ï _ Y);simp only[á,List.sum_cons,õ];omega
 have Z:=Z hz;have X:zs.length*y.length<=1000*10:=Nat.mul_le_mul hn hy;have W:(Ñ:Nat)=16777216:=ŕ;simp only[Ě,decide_eq_false_iff_not];omega
def Vl {c:Nat}:(!(Ĵ "0123456789" ⟨#[c]⟩ 0 (Str.length "0123456789") 1).isEmpty)=decide (48<=c/\c<=57):=by
 rw[StrLaws.found_one];rw[ĳ];simp only[Ê];have e:sg "0123456789"=[48,49,50,51,52,53,54,55,56,57]:=by decide +kernel
 show c∈sg "0123456789"↔_;rw[e];simp only[Ô,ï,or_false];omega
section
variable {s:aa} {l:List Int} {i:Int} {env:Env}
noncomputable abbrev num (i:Int):Str:=ý (toString i)
def Gn {i:Int} (h0:0<=i) (h1:i<1000):i.natAbs.log2<1920:=aaU (Nat.log2_le_self _) (by omega)
def sV (h0:0<=i) (h1:i<1000):jt [.int i] s=ok (.str (num i)) s:=by
 show (if decide (i.natAbs.log2<1920)=true then ok (D.str (toString i)) s else none)=_
 rw[Þ (Ó (Gn h0 h1))]
def XZ:∀n:Fin 8,num (n.val:Int)=⟨#[48+n.val]⟩:=by decide +kernel
def Ha (h0:0<=i) (h1:i<8):num i=⟨#[48+i.toNat]⟩:=by
 obtain⟨n,rfl⟩:=aaZ h0;exact XZ ⟨n,by omega⟩
noncomputable def mJ (l:List Int):Str:=⟨(l.map λi=>48+i.toNat).toArray⟩
def bc (l:List Int):Str:=if l=[] then "-" else mJ l
def oK:sg (mJ l)=l.map λi=>48+i.toNat:=by unfold mJ;simp
def Rp (h:∀i∈l,0<=i/\i<8):ŧ "" (l.map num)=mJ l:=by
 refine wF ?_;rw[qk,oK]
 induction l with
 |nil=>rfl
 |cons i r ih =>
  have hi:=h i (by simp);rw[á,á,ŀ,ih λj Z=>h j (Ï _ Z),Ha hi.1 hi.2];rfl
theorem strs_map:∀zs:List Str,strs? (zs.map D.str)=some zs
 | []=>rfl
 |z::zs=>by show (strs? (zs.map D.str)).map (z::·)=_;rw[strs_map zs];rfl
def J5 {y:Str} {zs:List Str} (hy:y.length<=10) (hn:zs.length<=1000) (hz:∀z∈zs,z.length<=1000):jX y (.lst (zs.map D.str)) s=ok (.str (ŧ y zs)) s:=by
 unfold jX;rw[show res (.lst (zs.map D.str)) s=.lst (zs.map D.str) from rfl];dsimp only;rw[strs_map];dsimp only;rw[Þ (PD hy hn hz)]
def xi {m:Str->D->aa->Res D} {f g:abZ D} {y:Str} {Q:D->aa->Prop} (e:f env s=ok (.str y) s):Wp (hX m f g env s) Q=Wp (g env s) λx s=>Wp (m y x s) Q:=by
 unfold hX;rw[e,dH,bR]
def HY {ea:Env} (he:cO (ae 0) ea s=ok (l.map D.int) s) (hl:l.length<=100) (h:∀i∈l,0<=i/\i<8):hX jX (eC (.str "")) (cB 1 [] (cO (ae 0)) (gN 0) dh (eB jt (af (ae 0) ah))) ea s=ok (.str (mJ l)) s:=by
 refine ab1 ?_;rw[xi rfl,mO];refine ab0 he ⟨le_size (by rw[É];omega),?_⟩;refine ab0 (comp_map D.int (λ_=>true) (λi=>D.str (num i)) l λi hi=>⟨[some (.int i)],rfl,rfl,λ_=>ab1 ?_⟩) ?_
 ·have:=h i hi
  simp only[ei,bC,bz,aQ];exact ab0 (sV this.1 (by omega)) ⟨rfl,rfl⟩
 rw[Ŗ.mpr (λ_ _=>rfl),show (l.map λi=>D.str (num i))=(l.map num).map D.str by rw[ė];rfl];refine ab0 (J5 (by decide) (by rw[É];omega) λz Z=>?_) ?_
 ·obtain⟨i,hi,rfl⟩:=ć.mp Z
  have:=h i hi;rw[Ha this.1 this.2];show 1<=1000;decide
 rw[Rp h];exact⟨rfl,rfl⟩
def wH:(mJ l).length=l.length:=by rw[sU,oK,É]
def Hb (hl:l.length<=100) (h:∀i∈l,0<=i/\i<8):rV [mD l] s=ok (.str (bc l)) s:=by
 refine ab1 ?_;unfold rV;refine dS.symm ▸ ⟨rfl,?_⟩;rw[cQ];have e:xX (hX jX (eC (.str "")) (cB 1 [] (cO (ae 0)) (gN 0) dh (eB jt (af (ae 0) ah)))) (eC (.str "-")) [some (mD l)] s=ok (.str (bc l)) s:=by
  unfold xX;rw[HY (kA rfl) hl h,dH];dsimp only;rw[Þ (Ó (by rw[wH];exact le_size (by omega))),wH];unfold bc
  cases l with
  |nil=>rfl
  |cons i r=>rfl
 exact ab0 e ⟨rfl,rfl⟩
def Gp (hl:l.length<=100) (h:∀i∈l,0<=i/\i<8):rR [mD l] s=ok (.str (bc l)) s:=by
 refine ab1 ?_;unfold rR;refine dS.symm ▸ ⟨rfl,?_⟩;show Wp (aG _ [some (mD l)] s) _;rw[cQ,mV];simp only[fY,cL,kJ,bz,aQ];refine⟨le_size (n:=0) (by decide),?_⟩;refine ab0 (show dW (mD l) (.tup []) s=ok (.bl (!l.isEmpty)) s from ?_) ?_
 ·unfold dW jj
  rw[show res (mD l) s=mD l from rfl,show res (.tup []) s=.tup [] from rfl,ì (by rw[show mB (mD l)=false from rfl];exact Õ),Þ (by
   rw[show lay (mD l)=true from se l];have:min (dep (mD l)) (dep (.tup []))<=100:=by have:dep (.tup [])=1:=rfl;omega
   rw[Ó this];rfl)]
  cases l<;>rfl
 simp only[cZ]
 cases l with
 |nil=>exact⟨_,_,rfl,rfl,rfl⟩
 |cons i r =>
  simp only[List.isEmpty_cons,abP,ô];refine ab0 (HY (kA rfl) hl h) ?_;exact⟨rfl,rfl⟩
end
section
variable {s:aa} {l h:List Int} {i:Int} {env:Env} {p:Pg} {x y:Str}
def jw (hl:x.length+y.length<=1000000):bO (.str x) (.str y) s=ok (.str (x++y)) s:=by
 show bM (if decide (x.length+y.length<=Ñ)=true then some (D.str (x++y)) else none) s=_
 rw[Þ (Ó (le_size hl))];rfl
def fy (x y:Str):(x++y).length=x.length+y.length:=Str.length_append x y
def kB:(bc l).length<=l.length+1:=by
 unfold bc;split
 ·exact Nat.le_add_left 1 _
 ·rw[wH];omega
def jm:Pg->Str
 | .made _ _ h l=>bc h++"/"++bc l
 | .bI _ _ k=>num k
def jo:Pg->Str
 | .made ..=>"made"
 | .bI ..=>"mended"
noncomputable def jx:Pg->Int
 | .made m ..=>m
 | .bI m ..=>m
def cJ (p:Pg):Str:=jo p++" "++num (jx p)++" "++num p.day++" "++jm p
def dq:Pg->Prop
 | .made m d h l=>(0<=m/\m<4)/\(0<=d/\d<31)/\ck 8 h/\ck 8 l
 | .bI m d k=>(0<=m/\m<4)/\(0<=d/\d<31)/\0<=k/\k<8
def sW (h:dw p=true):dq p:=by
 cases p with
 |made m d a b =>
  simp only[dw,kL,j9,Æ,Ê] at h;exact⟨h.1.1,h.1.2,vG h.2.1,vG h.2.2.1⟩
 |bI m d k =>
  simp only[dw,kL,j9,markB,Æ,Ê] at h;exact⟨h.1.1,h.1.2,h.2⟩
def il {ns:List Int} (h:ck 8 ns):∀i∈ns,0<=i/\i<8:=λi hi=>by have:=h.lo i hi;omega
def WC:∀n:Fin 31,(num (n.val:Int)).length<=2:=by decide +kernel
def jN (h0:0<=i) (h1:i<31):(num i).length<=2:=by
 obtain⟨n,rfl⟩:=aaZ h0;exact WC ⟨n,by omega⟩
def zS (h:dq p):(jm p).length<=20:=by
 cases p with
 |made m d a b =>
  have Z:=h.2.2.1.len;have Y:=h.2.2.2.len;have X:=kB (l:=a);have W:=kB (l:=b);show (bc a++"/"++bc b).length<=20;rw[fy,fy];show (bc a).length+1+(bc b).length<=20;omega
 |bI m d k=>exact à (jN h.2.2.1 (by have:=h.2.2.2;omega)) (by decide)
def MF {a b:List Int} (ha:ck 8 a) (hb:ck 8 b):vp [.tup [mD a,mD b]] s=ok (.str (bc a++"/"++bc b)) s:=by
 have Z:=ha.len;have Y:=hb.len;have X:=kB (l:=a);have W:=kB (l:=b);refine ab1 ?_;unfold vp;simp only[VC];refine ab0 (Hb (by omega) (il ha)) ?_;refine ab0 (jw (show (bc a).length+1<=1000000 by omega)) ?_;refine ab0 (Hb (by omega) (il hb)) ?_;refine ab0 (jw (by rw[fy];show (bc a).length+1 + _<=1000000;omega)) ⟨rfl,rfl⟩
def Mt {a b:List Int} (ha:ck 8 a) (hb:ck 8 b):rS [.tup [mD a,mD b]] s=ok (.str (bc a++"/"++bc b)) s:=by
 have Z:=ha.len;have Y:=hb.len;have X:=kB (l:=a);have W:=kB (l:=b);refine ab1 ?_;unfold rS;simp only[VC];refine ab0 (show ar (.tup [mD a,mD b]) (.int 0) s=ok (mD a) s from rfl) ?_;refine ab0 (Gp (by omega) (il ha)) ?_;refine ab0 (jw (show (bc a).length+1<=1000000 by omega)) ?_;refine ab0 (show ar (.tup [mD a,mD b]) (.int 1) s=ok (mD b) s from rfl) ?_;refine ab0 (Gp (by omega) (il hb)) ?_;refine ab0 (jw (by rw[fy];show (bc a).length+1 + _<=1000000;omega)) ⟨rfl,rfl⟩
def om {f:abZ D} {fs:List (abZ D)} {acc:Str} (e:f env s=ok (.str y) s) (hl:acc.length+y.length<=1000000):lL (f::fs) acc env s=lL fs (acc++y) env s:=by
 show aj (f env s) _=_;rw[e,dH];dsimp only;rw[Þ (Ó (by rw[fy];exact le_size hl))]
def KZ (h0:0<=i) (h1:i<1000):ju (.int i) s=ok (.str (num i)) s:=by
 show (if decide (i.natAbs.log2<1920)=true then ok (D.str (toString i)) s else none)=_
 rw[Þ (Ó (Gn h0 h1))]
def K0 (hl:x.length<=1000000):ju (.str x) s=ok (.str x) s:=Þ (Ó (le_size hl))
def zT:(jo p).length<=6:=by
 cases p
 ·show Str.length "made"<=6;decide +kernel
 ·show Str.length "mended"<=6;decide +kernel
def jT (h:dq p):0<=jx p/\jx p<4:=by cases p<;>exact h.1
def jU (h:dq p):0<=p.day/\p.day<31:=by cases p<;>exact h.2.1
def v8 (h:dq p):(cJ p).length<=50:=by
 have Z:=zT (p:=p);have Y:=jN (jT h).1 (by have:=(jT h).2;omega);have X:=jN (jU h).1 (jU h).2;have W:=zS h;unfold cJ;simp only[fy];show (jo p).length+1 + _ + 1 + _ + 1 + _<=50;omega
def Gq {a0 a1:Option D} (h:dq p):lL [e1 ju (ae 1),eC (.str " "),e1 ju (ae 2),eC (.str " "),e1 ju (ae 3),eC (.str " "),e1 ju (ae 5)] Str.empty [a0,some (.str (jo p)),some (.int (jx p)),some (.int p.day),a1,some (.str (jm p))] s=ok (.str (cJ p)) s:=by
 have Z:=zT (p:=p);have Y:=jN (jT h).1 (by have:=(jT h).2;omega);have X:=jN (jU h).1 (jU h).2;have W:=zS h;have m:=jT h;have d:=jU h;rw[om (y:=jo p) (K0 (by omega)) (by show 0 + _<=_;omega),Str.empty_append];rw[om (y:=" ") rfl (by show _ + 1<=_;omega)];rw[om (y:=num (jx p)) (KZ m.1 (by omega)) (by rw[fy];show _ + 1 + _<=_;omega)];rw[om (y:=" ") rfl (by simp only[fy];show _ + 1 + _ + 1<=_;omega)];rw[om (y:=num p.day) (KZ d.1 (by omega)) (by simp only[fy];show _ + 1 + _ + 1 + _<=_;omega)];rw[om (y:=" ") rfl (by simp only[fy];show _ + 1 + _ + 1 + _ + 1<=_;omega)];rw[om (y:=jm p) (K0 (by omega)) (by simp only[fy];show _ + 1 + _ + 1 + _ + 1 + _<=_;omega)];have V:=v8 h
 show (if decide ((cJ p).length<=Ñ)=true then ok (D.str (cJ p)) s else none)=_
 rw[Þ (Ó (le_size (by omega)))]
def Rq (h:dq p):vw [p.d] s=ok (.str (cJ p)) s:=by
 refine ab1 ?_;unfold vw;refine dS.symm ▸ ⟨rfl,ab2 λR Z=>?_⟩
 cases p with
 |made m d a b =>
  refine ab0 (show aU (ae 0) (gT [gN 1,gN 2,gN 3,gN 4]) _ s=ok (.nx [some (Pg.made m d a b).d,some (.str "made"),some (.int m),some (.int d),some (.tup [mD a,mD b]),none]) s from rfl) ?_;rw[bS];subst Z;refine ab2 λR Z=>?_;simp only[eJ,fF,mV,fY,cL,aQ,bq,bX];refine ab0 (show aY (.str "made") (.str "made") s=ok (.bl true) s from rfl) ?_;simp only[cZ,ô,wp_call,bC,bz,aQ,bq];refine ab0 (MF h.2.2.1 h.2.2.2) ?_;simp only[ö,ø];rw[bS];subst Z;rw[cQ];exact ab0 (Gq h) ⟨rfl,rfl⟩
 |bI m d k =>
  refine ab0 (show aU (ae 0) (gT [gN 1,gN 2,gN 3,gN 4]) _ s=ok (.nx [some (Pg.bI m d k).d,some (.str "mended"),some (.int m),some (.int d),some (.int k),none]) s from rfl) ?_;rw[bS];subst Z;refine ab2 λR Z=>?_;simp only[eJ,fF,mV,fY,cL,aQ,bq,bX];refine ab0 (show aY (.str "mended") (.str "made") s=ok (.bl false) s from rfl) ?_;simp only[cZ,Â,ä,ei,bC,bz,aQ,bq];refine ab0 (sV h.2.2.1 (by have:=h.2.2.2;omega)) ?_;simp only[ö,ø];rw[bS];subst Z;rw[cQ];exact ab0 (Gq h) ⟨rfl,rfl⟩
def S0 (h:dq p):wz [p.d] s=ok (.str (cJ p)) s:=by
 have S:=zT (p:=p);have Q:=jN (jT h).1 (by have:=(jT h).2;omega);have P:=jN (jU h).1 (jU h).2;have O:=zS h;have Y:=jT h;have X:=jU h
 have Z:ar p.d (.int 0) s=ok (.str (jo p)) s:=by cases p<;>rfl
 have W:ar p.d (.int 1) s=ok (.int (jx p)) s:=by cases p<;>rfl
 have V:ar p.d (.int 2) s=ok (.int p.day) s:=by cases p<;>rfl
 have U:nM (bg (e2 aY (e2 ar (ae 0) (eC (.int 0))) (eC (.str "made")))) (aD rS (af (e2 ar (ae 0) (eC (.int 3))) ah)) (eB jt (af (e2 ar (ae 0) (eC (.int 3))) ah)) [some p.d,none] s=ok (.str (jm p)) s:=by
  refine ab1 ?_;simp only[mV,fY,cL,aQ,bX];refine ab0 Z ?_
  cases p with
  |made m d a b =>
   refine ab0 (show aY (.str "made") (.str "made") s=ok (.bl true) s from rfl) ?_;simp only[cZ,ô,wp_call,bC,bz,cL,aQ,bX];refine ab0 (show ar (Pg.made m d a b).d (.int 3) s=ok (.tup [mD a,mD b]) s from rfl) ?_;exact ab0 (Mt h.2.2.1 h.2.2.2) ⟨rfl,rfl⟩
  |bI m d k =>
   refine ab0 (show aY (.str "mended") (.str "made") s=ok (.bl false) s from rfl) ?_;simp only[cZ,Â,ä,ei,bC,bz,cL,aQ,bX];refine ab0 (show ar (Pg.bI m d k).d (.int 3) s=ok (.int k) s from rfl) ?_;exact ab0 (sV h.2.2.1 (by have:=h.2.2.2;omega)) ⟨rfl,rfl⟩
 refine ab1 ?_;unfold wz;refine dS.symm ▸ ⟨rfl,ab2 λR T=>?_⟩;rw[eJ];refine ab0 U ?_;rw[fF];show kq R _ (.nx [some p.d,some (.str (jm p))]) s;rw[bS];subst T;simp only[cQ,cL,ei,bC,bz,aQ,bq,bX];refine ab0 Z (ab0 (jw (by show _ + 1<=_;omega)) ?_);refine ab0 W (ab0 (sV Y.1 (by omega)) (ab0 (jw (by simp only[fy];show _ + 1 + _<=_;omega)) ?_));refine ab0 (jw (by simp only[fy];show _ + 1 + _ + 1<=_;omega)) ?_;refine ab0 V (ab0 (sV X.1 (by omega)) (ab0 (jw (by simp only[fy];show _ + 1 + _ + 1 + _<=_;omega)) ?_));refine ab0 (jw (by simp only[fy];show _ + 1 + _ + 1 + _ + 1<=_;omega)) ?_;refine ab0 (jw (by simp only[fy];show _ + 1 + _ + 1 + _ + 1 + _<=_;omega)) ?_;exact⟨rfl,rfl⟩
end
section
variable {s:aa} {l h:List Int} {i:Int} {env:Env} {p:Pg} {x y:Str}
noncomputable def ib (c:Nat):Bool:=decide (48<=c/\c<=57)
def k9 (x:Str):Bool:=(decide (1<=x.length)&&decide (x.length<=30))&&(sg x).all ib
def X0 (hl:x.length<=1000000):cy [.str x] s=ok (.int x.length) s:=by
 show bM (l8 (.str x) s) s=_;unfold l8
 show bM (if decide (x.length<=Ñ)=true then some (D.int x.length) else none) s=_
 rw[Þ (Ó (le_size hl))];rfl
def H0 {f:abZ D} (e:f env s=ok (.str x) s):tO f env s=ok ((sg x).map λc=>D.str ⟨#[c]⟩) s:=by
 unfold tO;rw[e,dH];rfl
def H9 (hl:x.length<=1000000):rT [.str x] s=ok (.bl (k9 x)) s:=by
 refine ab1 ?_;unfold rT;refine dS.symm ▸ ⟨rfl,?_⟩;show Wp (aG _ [some (.str x)] s) _;rw[cQ,ot,A1,bX];simp only[ei,bC,bz,aQ];refine ab0 (X0 hl) ?_;simp only[sS,cZ];unfold k9;by_cases Z:1<=x.length
 ·rw[Ó (show (1:Int)<=x.length by omega),Ó Z,Þ rfl]
  simp only[bX,sS,cZ];by_cases Y:x.length<=30
  ·rw[Ó (show (x.length:Int)<=30 by omega),Ó Y,Þ rfl]
   rw[mO];refine ab0 (H0 rfl) ⟨le_size (by rw[É,<- sU];exact hl),?_⟩;refine ab0 (comp_map (λc=>D.str ⟨#[c]⟩) (λ_=>true) (λc=>D.bl (ib c)) (sg x) λc _=>⟨[some (.str ⟨#[c]⟩)],rfl,rfl,λ_=>?_⟩) ?_
   ·show ok (D.bl (!(Ĵ "0123456789" ⟨#[c]⟩ 0 (Str.length "0123456789") 1).isEmpty)) s=_
    rw[Vl];rfl
   rw[Ŗ.mpr (λ_ _=>rfl)];exact ab0 (qu ib (sg x) s) ⟨by simp,rfl⟩
  ·rw[ç (show ¬ (x.length:Int)<=30 by omega),ç Y,ì Õ]
   exact⟨rfl,rfl⟩
 ·rw[ç (show ¬ (1:Int)<=x.length by omega),ç Z,ì Õ]
  simp only[cZ,Â,ä];exact⟨rfl,rfl⟩
def yL (x:Str):Bool:=k9 x&&(decide ((sg x).head?≠some 48)||decide (x="0"))
def x9 {x y:Str}:aY (.str x) (.str y) s=ok (.bl (decide (x=y))) s:=lM
def CB {x y:Str}:dW (.str x) (.str y) s=ok (.bl (!decide (x=y))) s:=by
 have e:=x9 (x:=x) (y:=y) (s:=s);unfold aY at e;unfold dW
 cases h:jj (res (.str x) s) (res (.str y) s) with
 |none=>rw[h] at e;cases e
 |some c =>
  rw[h] at e
  injection e with e
  injection e with e1 _
  injection e1 with e1
  injection e1 with e1
  rw[e1]
def L0 {c:Nat}:((⟨#[c]⟩:Str)="0")↔c=48:=by
 have e:("0":Str)=⟨#[48]⟩:=by decide +kernel
 rw[e];constructor
 ·intro h
  have:=Ľ sg h;simpa [sg] using this
 ·rintro rfl;rfl
def zb (hl:x.length<=1000000):pW [.str x] s=ok (.bl (yL x)) s:=by
 refine ab1 ?_;unfold pW;refine dS.symm ▸ ⟨rfl,?_⟩;show Wp (aG _ [some (.str x)] s) _;rw[cQ,ot];simp only[wp_call,bC,bz,aQ];refine ab0 (H9 hl) ?_;simp only[cZ];unfold yL
 cases Y:k9 x with
 |false=>exact⟨rfl,rfl⟩
 |true =>
  rw[Þ rfl,ă,sQ];simp only[cL,aQ,bX];have X:1<=x.length:=by unfold k9 at Y;simp only[Æ,Ê] at Y;exact Y.1.1
  obtain⟨c,r,W⟩:∃c r,sg x=c::r:=by
   cases V:sg x with
   |nil=>rw[sU,V] at X;simp at X
   |cons c r=>exact⟨c,r,rfl⟩
  refine ab0 (show ar (.str x) (.int 0) s=ok (.str ⟨#[c]⟩) s from ?_) ?_
  ·show bM (if decide (x.length<=Ñ)=true then (dj (sg x) 0).map λc=>D.str ⟨#[c]⟩ else none) s=_
   rw[Þ (Ó (le_size hl)),W];have:dj (c::r) (0:Int)=some c:=by
    obtain⟨y,e1,e2⟩:=xb (xs:=c::r) (i:=0) (by decide) (by simp);rw[e1];simpa using e2.symm
   rw[this];rfl
  refine ab0 CB ?_;simp only[cZ];rw[W];by_cases Z:c=48
  ·rw[Ó (L0.mpr Z)]
   simp only[å,Â,ä];refine ab0 x9 ⟨?_,rfl⟩;rw[Z];simp
  ·rw[ç (λz=>Z (L0.mp z))]
   simp only[abP,ô];refine⟨?_,rfl⟩;simp[Z]
def dash:("-":Str)=⟨#[45]⟩:=by decide +kernel
def xx:("/":Str)=⟨#[47]⟩:=by decide +kernel
def blank:(" ":Str)=⟨#[32]⟩:=by decide +kernel
def lend:("\n":Str)=⟨#[10]⟩:=by decide +kernel
def v9 {f:abZ D} {c:Nat} {z:Str} (hz:z=⟨#[c]⟩) (e:f env s=ok (.str x) s) (hl:x.length<=1000000):hX oE f (eC (.str z)) env s=ok (.lst ((ĺ x ⟨#[c]⟩).map D.str)) s:=by
 subst hz;refine ab1 ?_;rw[xi e,bX]
 show Wp (if (!((⟨#[c]⟩:Str).length==0)&&decide (x.length+2<=Ñ))=true then ok (D.lst ((ĺ x ⟨#[c]⟩).map D.str)) s else none) _
 rw[Þ (by
  rw[Ó (show x.length+2<=Ñ by rw[ŕ];omega)];rfl),bo]
 exact⟨rfl,rfl⟩
def X1:∀n:Fin 10,aat ⟨#[48+n.val]⟩=some (n.val:Int):=by decide +kernel
def S7 {c:Nat} (h:ib c=true):nj [.str ⟨#[c]⟩] s=ok (.int ((c:Int)-48)) s:=by
 unfold ib at h;rw[Ê] at h;have e:=X1 ⟨c-48,by omega⟩;rw[show 48+(c-48)=c by omega] at e
 show (if decide ((⟨#[c]⟩:Str).length<=640)=true then (match aat ⟨#[c]⟩ with|some n=>ok (D.int n) s|none=>none) else none)=_
 rw[Þ (Ó (show (⟨#[c]⟩:Str).length<=640 from (show 1<=640 by decide))),e];show ok (D.int ((c-48:Nat):Int)) s=_;rw[show ((c-48:Nat):Int)=(c:Int)-48 by omega]
def Ba (hn:l≠[]) (h:∀i∈l,0<=i/\i<8):bc l=mJ l/\mJ l≠"-":=by
 refine⟨ì hn,λe=>?_⟩
 obtain⟨i,r,rfl⟩:∃i r,l=i::r:=by cases l with|nil=>exact absurd rfl hn|cons i r=>exact⟨i,r,rfl⟩
 have:=Ľ sg e;rw[oK,dash] at this;simp[sg] at this;have:=h i (by simp);omega
def FN (hl:l.length<=100) (h:∀i∈l,0<=i/\i<8):rX [.str (bc l)] s=ok (mD l) s:=by
 refine ab1 ?_;unfold rX;refine dS.symm ▸ ⟨rfl,ab2 λR Y=>?_⟩;show Wp (bB _ _ _ [some (.str (bc l))] s) _;simp only[gB,fY,cL,aQ,bX];refine ab0 x9 ?_;simp only[cZ];by_cases Z:l=[]
 ·subst Z
  rw[Ó (show bc []="-" from rfl),Þ rfl];simp only[cQ,kJ,bz];exact⟨le_size (n:=0) (by decide),rfl,rfl⟩
 ·obtain⟨e1,e2⟩:=Ba Z h
  rw[e1,ç e2,ì Õ,fx,bS];subst Y;rw[cQ,ei,bC,mO];refine ab0 (H0 rfl) ⟨le_size (by rw[É,oK,É];omega),?_⟩;rw[oK,ė];refine ab0 (comp_map ((λc=>D.str ⟨#[c]⟩) ∘ λi:Int=>48+i.toNat) (λ_=>true) D.int l λi hi=>⟨[some (.str ⟨#[48+i.toNat]⟩)],rfl,rfl,λ_=>ab1 ?_⟩) ?_
  ·have:=h i hi
   simp only[ei,bC,bz,aQ];refine ab0 (S7 (by unfold ib;rw[Ê];omega)) ⟨?_,rfl⟩;show D.int (((48+i.toNat:Nat):Int)-48)=_;rw[show (((48+i.toNat:Nat):Int)-48)=i by omega]
  rw[Ŗ.mpr (λ_ _=>rfl),bz];exact⟨_,_,rfl,rfl,rfl⟩
def wa {c:Nat} (hc:c<45\/c=46\/c=47) (h:∀i∈l,0<=i/\i<8):c∉sg (bc l):=by
 intro Z;by_cases Y:l=[]
 ·subst Y
  rw[show bc []="-" from rfl,dash] at Z;simp[sg] at Z;omega
 ·rw[(Ba Y h).1,oK,ć] at Z
  obtain⟨i,_,e⟩:=Z;omega
def WD {x y z:Str}:ŧ z [x,y]=x++z++y:=rfl
def Je {a b:List Int} (ha:∀i∈a,0<=i/\i<8) (hb:∀i∈b,0<=i/\i<8):ĺ (bc a++"/"++bc b) ⟨#[47]⟩=[bc a,bc b]:=by
 rw[xx,<- WD];refine zR (by simp) λz Z=>?_;simp only[Ô,ï,or_false] at Z
 rcases Z with rfl|rfl
 ·exact wa (.inr (.inr rfl)) ha
 ·exact wa (.inr (.inr rfl)) hb
def Ov {a b:List Int} (ha:ck 8 a) (hb:ck 8 b):vF [.str (bc a++"/"++bc b)] s=ok (.tup [mD a,mD b]) s:=by
 have Y:=ha.len;have X:=hb.len;have W:=kB (l:=a);have V:=kB (l:=b);refine ab1 ?_;unfold vF;refine dS.symm ▸ ⟨rfl,ab2 λR Z=>?_⟩;rw[eJ];refine ab0 (v9 xx rfl (by simp only[fy];show (bc a).length+1 + _<=_;omega)) ?_;rw[Je (il ha) (il hb)];refine⟨[some (.str (bc a++"/"++bc b)),some (.str (bc a)),some (.str (bc b))],rfl,?_⟩;rw[bS];subst Z;simp only[cQ,kJ,wp_call,bC,bz,aQ,bq];refine ab0 (FN (by omega) (il ha)) (ab0 (FN (by omega) (il hb)) ?_);exact⟨le_size (n:=2) (by decide),rfl,rfl⟩
def Jf (h:∀i∈l,0<=i/\i<8) (hl:l.length<=8):(decide (bc l="-")||k9 (bc l))=true:=by
 by_cases Z:l=[]
 ·subst Z
  rw[Ó (show bc []="-" from rfl)];rfl
 ·rw[(Ba Z h).1]
  have:k9 (mJ l)=true:=by
   unfold k9;rw[wH];have:0<l.length:=List.length_pos_iff.mpr Z;rw[Ó (show 1<=l.length by omega),Ó (show l.length<=30 by omega),oK,List.all_map,æ.mpr λi hi=>?_]
   ·rfl
   ·have:=h i hi
    show ib (48+i.toNat)=true;unfold ib;rw[Ê];omega
  rw[this,Bool.or_true]
def MG {a b:List Int} (ha:ck 8 a) (hb:ck 8 b):vh [.str (bc a++"/"++bc b)] s=ok (.bl true) s:=by
 have W:=ha.len;have V:=hb.len;have U:=kB (l:=a);have T:=kB (l:=b);refine ab1 ?_;unfold vh;refine dS.symm ▸ ⟨rfl,ab2 λR Y=>?_⟩;rw[eJ];refine ab0 (v9 xx rfl (by simp only[fy];show (bc a).length+1 + _<=_;omega)) ?_;rw[Je (il ha) (il hb),fF];show kq R _ (.nx [some (.str (bc a++"/"++bc b)),some (.lst [.str (bc a),.str (bc b)])]) s;rw[bS];subst Y;simp only[cQ,ot,cL,ei,bC,bz,aQ,bq,bX];refine ab0 (show cy [.lst [.str (bc a),.str (bc b)]] s=ok (.int 2) s from rfl) ?_;simp only[A6,cZ,ą,ô,mO];refine ab0 (oj (ds:=([bc a,bc b]:List Str).map D.str) rfl) ⟨le_size (n:=2) (by decide),?_⟩;refine ab0 (comp_map D.str (λ_=>true) (λz=>D.bl (decide (z="-")||k9 z)) [bc a,bc b] λz Z=>⟨[some (.str z)],rfl,rfl,λ_=>ab1 ?_⟩) ?_
 ·have X:z.length<=1000000:=by
   simp only[Ô,ï,or_false] at Z
   rcases Z with rfl|rfl<;>omega
  simp only[sQ,cL,aQ,bX];refine ab0 x9 ?_;simp only[cZ]
  cases decide (z="-") with
  |true=>simp only[ô];exact⟨rfl,trivial⟩
  |false =>
   simp only[Â,ä,wp_call,bC,bz,aQ];exact ab0 (H9 X) ⟨rfl,rfl⟩
 rw[Ŗ.mpr (λ_ _=>rfl)];refine ab0 (qu (λz:Str=>decide (z="-")||k9 z) [bc a,bc b] s) ⟨?_,rfl⟩;simp only[List.all_cons,List.all_nil,Jf (il ha) ha.len,Jf (il hb) hb.len,Ĭ]
end
section
variable {s:aa} {l h:List Int} {i:Int} {env:Env} {p:Pg} {x y:Str} {ps ds:List Pg}
def X2:∀n:Fin 31,yL (num (n.val:Int))=true/\(sg (num (n.val:Int))).all ib=true:=by decide +kernel
def qF (h0:0<=i) (h1:i<31):yL (num i)=true/\(sg (num i)).all ib=true:=by
 obtain⟨n,rfl⟩:=aaZ h0;exact X2 ⟨n,by omega⟩
def Au {c:Nat} (hx:(sg x).all ib=true) (hc:ib c=false):c∉sg x:=λZ=>by
 rw[æ.mp hx c Z] at hc;cases hc
def sD (h0:0<=i) (h1:i<31):nj [.str (num i)] s=ok (.int i) s:=by
 have e:aat (num i)=some i:=PySem.W.KIN.num_reads h0 (by omega);have Z:=jN h0 h1
 show (if decide ((num i).length<=640)=true then (match aat (num i) with|some n=>ok (D.int n) s|none=>none) else none)=_
 rw[Þ (Ó (show (num i).length<=640 by omega)),e]
def Av {c:Nat} {x y:Str}:c∈sg (x++y)↔c∈sg x\/c∈sg y:=by rw[oJ,ċ]
def PH {c:Nat} (h:dq p) (hc:c<45):c∉sg (jm p):=by
 cases p with
 |made m d a b =>
  intro hm;have hm:c∈sg (bc a++"/"++bc b):=hm;rw[Av,Av] at hm
  rcases hm with (hm|hm)|hm
  ·exact wa (.inl hc) (il h.2.2.1) hm
  ·rw[xx] at hm
   simp[sg] at hm;omega
  ·exact wa (.inl hc) (il h.2.2.2) hm
 |bI m d k=>exact Au (qF h.2.2.1 (by have:=h.2.2.2;omega)).2 (by unfold ib;simp;omega)
def PJ {c:Nat} (hc:c<45):c∉sg (jo p):=by
 cases p
 ·show c∉sg "made"
  rw[show sg "made"=[109,97,100,101] by decide +kernel];simp;omega
 ·show c∉sg "mended"
  rw[show sg "mended"=[109,101,110,100,101,100] by decide +kernel];simp;omega
def wordsOf (p:Pg):List Str:=[jo p,num (jx p),num p.day,jm p]
def FO {c:Nat} (h:dq p) (hc:c<45):∀z∈wordsOf p,c∉sg z:=λz Z=>by
 have m:=jT h;have d:=jU h;have Y:ib c=false:=by unfold ib;simp;omega
 simp only[wordsOf,Ô,ï,or_false] at Z
 rcases Z with rfl|rfl|rfl|rfl
 ·exact PJ hc
 ·exact Au (qF m.1 (by omega)).2 Y
 ·exact Au (qF d.1 d.2).2 Y
 ·exact PH h hc
def PK:cJ p=ŧ ⟨#[32]⟩ (wordsOf p):=by
 show jo p++" "++num (jx p)++" "++num p.day++" "++jm p=jo p++⟨#[32]⟩++(num (jx p)++⟨#[32]⟩++(num p.day++⟨#[32]⟩++jm p));rw[blank];simp only[Str.append_assoc]
def Ow (h:dq p):ĺ (cJ p) ⟨#[32]⟩=wordsOf p:=by
 rw[PK];exact zR (by unfold wordsOf;simp) (FO h (by decide))
def PL (h:dq p):10∉sg (cJ p):=by
 have w:=FO (c:=10) h (by decide);unfold cJ;rw[blank];simp only[Av,not_or];have b:10∉sg ⟨#[32]⟩:=by simp[sg]
 exact⟨⟨⟨⟨⟨⟨w _ (by simp[wordsOf]),b⟩,w _ (by simp[wordsOf])⟩,b⟩,w _ (by simp[wordsOf])⟩,b⟩,w _ (by simp[wordsOf])⟩
def MH (h:dq p):ve [.lst ((wordsOf p).map D.str)] s=ok (.bl true) s:=by
 have m:=jT h;have d:=jU h;have X:=jN m.1 (show jx p<31 by omega);have W:=jN d.1 d.2;refine ab1 ?_;unfold ve;refine dS.symm ▸ ⟨rfl,ab2 λR Z=>?_⟩;show Wp (bB _ _ _ [some (.lst ((wordsOf p).map D.str)),none,none,none,none] s) _;simp only[gB,fY,cL,ei,bC,bz,aQ,bX];refine ab0 (show cy [.lst ((wordsOf p).map D.str)] s=ok (.int 4) s from rfl) ?_;simp only[A7,ą,å,cZ,Â,ä,fx];rw[bS];subst Z;refine ab2 λR Z=>?_;refine ab0 (show aU (ae 0) (gL [gN 1,gN 2,gN 3,gN 4]) _ s=ok (.nx [some (.lst ((wordsOf p).map D.str)),some (.str (jo p)),some (.str (num (jx p))),some (.str (num p.day)),some (.str (jm p))]) s from rfl) ?_;rw[bS];subst Z;refine ab2 λR Z=>?_;simp only[gB,sP,mM,kK,wp_call,bC,bz,aQ,bq];refine ab0 (zb (by omega)) ?_;rw[(qF m.1 (by omega)).1];simp only[je,å,Â,ä];refine ab0 (zb (by omega)) ?_;rw[(qF d.1 d.2).1];simp only[je,å,Â,ä,fx];rw[bS];subst Z
 cases p with
 |made m d a b =>
  refine ab2 λR Z=>?_;simp only[gB,fY,cL,aQ,bq,bX];refine ab0 (show aY (.str "made") (.str "made") s=ok (.bl true) s from rfl) ?_;simp only[cZ,ô,cQ,wp_call,bC,bz,aQ,bq];refine ab0 (MG h.2.2.1 h.2.2.2) ?_;exact⟨rfl,rfl⟩
 |bI m d k =>
  refine ab2 λR Z=>?_;simp only[gB,fY,cL,aQ,bq,bX];refine ab0 (show aY (.str "mended") (.str "made") s=ok (.bl false) s from rfl) ?_;simp only[cZ,Â,ä,fx];rw[bS];subst Z;simp only[cQ,ot,cL,aQ,bq,bX];refine ab0 (show aY (.str "mended") (.str "mended") s=ok (.bl true) s from rfl) ?_;simp only[cZ,ô,wp_call,bC,bz,aQ,bq];have Y:=h.2.2;refine ab0 (zb (x:=num k) (by have:=jN Y.1 (show k<31 by omega);omega)) ?_;rw[(qF Y.1 (by omega)).1];exact⟨rfl,rfl⟩
def PM (h:dq p):vL [.lst ((wordsOf p).map D.str)] s=ok p.d s:=by
 have m:=jT h;have d:=jU h;refine ab1 ?_;unfold vL;refine dS.symm ▸ ⟨rfl,ab2 λR Z=>?_⟩;refine ab0 (show aU (ae 0) (gL [gN 1,gN 2,gN 3,gN 4]) _ s=ok (.nx [some (.lst ((wordsOf p).map D.str)),some (.str (jo p)),some (.str (num (jx p))),some (.str (num p.day)),some (.str (jm p)),none]) s from rfl) ?_;rw[bS];subst Z;refine ab2 λR Z=>?_
 cases p with
 |made Y X a b =>
  simp only[eJ,fF,mV,fY,cL,aQ,bq,bX];refine ab0 (show aY (.str "made") (.str "made") s=ok (.bl true) s from rfl) ?_;simp only[cZ,ô,wp_call,bC,bz,aQ,bq];refine ab0 (Ov h.2.2.1 h.2.2.2) ?_;simp only[ö,ø];rw[bS];subst Z;simp only[cQ,kJ,ei,bC,bz,aQ,bq];refine ab0 (sD m.1 (show Y < 31 by have:=h.1;omega)) (ab0 (sD d.1 d.2) ?_);exact⟨le_size (n:=4) (by decide),rfl,rfl⟩
 |bI Y X k =>
  simp only[eJ,fF,mV,fY,cL,aQ,bq,bX];refine ab0 (show aY (.str "mended") (.str "made") s=ok (.bl false) s from rfl) ?_;simp only[cZ,Â,ä,ei,bC,bz,aQ,bq];refine ab0 (sD h.2.2.1 (show k<31 by have:=h.2.2;omega)) ?_;simp only[ö,ø];rw[bS];subst Z;simp only[cQ,kJ,ei,bC,bz,aQ,bq];refine ab0 (sD m.1 (show Y < 31 by have:=h.1;omega)) (ab0 (sD d.1 d.2) ?_);exact⟨le_size (n:=4) (by decide),rfl,rfl⟩
def NK (h:dq p):vA [.str (cJ p)] s=ok p.d s:=by
 refine ab1 ?_;unfold vA;refine dS.symm ▸ ⟨rfl,ab2 λR Z=>?_⟩;rw[eJ];refine ab0 (v9 blank rfl (by have:=v8 h;omega)) ?_;rw[Ow h,fF];show kq R _ (.nx [some (.str (cJ p)),some (.lst ((wordsOf p).map D.str))]) s;rw[bS];subst Z;refine ab2 λR Z=>?_;simp only[gB,mM,kK,wp_call,bC,bz,aQ,bq];refine ab0 (MH h) ?_;simp only[je,å,Â,ä,fx];rw[bS];subst Z;simp only[cQ,wp_call,bC,bz,aQ,bq];exact ab0 (PM h) ⟨rfl,rfl⟩
def textOf (ps:List Pg):Str:=ŧ "" (ps.map λp=>cJ p++"\n")
def PN:textOf ps=ŧ ⟨#[10]⟩ (ps.map cJ++[("":Str)]):=by
 unfold textOf;rw[<- Ro,ė,lend];rfl
def Ox (h:∀p∈ps,dq p):ĺ (textOf ps) ⟨#[10]⟩=ps.map cJ++[("":Str)]:=by
 rw[PN];refine zR (by simp) λz hz=>?_
 rcases ċ.mp hz with hz|hz
 ·obtain⟨p,Z,rfl⟩:=ć.mp hz
  exact PL (h p Z)
 ·rw[Ĺ.mp hz]
  exact ï
def zr (h:dq p):(cJ p++"\n").length<=51:=by rw[fy];have:=v8 h;show _ + 1<=51;omega
def text_len (h:∀p∈ps,dq p):(textOf ps).length<=ps.length*51:=by
 rw[sU];unfold textOf;rw[qk]
 induction ps with
 |nil=>exact ab3 0
 |cons p r ih =>
  have Z:=zr (h p (by simp));rw[sU] at Z;have X:=ih λq Y=>h q (Ï _ Y);rw[á,á,ŀ,é,õ];omega
def Rr (h:dq p) {g:List D->aa->Res D} (hg:g [p.d] s=ok (.str (cJ p)) s):e2 bO (aD g (af (ae 0) ah)) (eC (.str "\n")) [some p.d] s=ok (.str (cJ p++"\n")) s:=by
 refine ab1 ?_;simp only[cL,wp_call,bC,bz,aQ,bX];refine ab0 hg (ab0 (jw (by have:=v8 h;show _ + 1<=_;omega)) ⟨rfl,rfl⟩)
def FP {g:List D->aa->Res D} {it:abZ (List D)} (hi:it env s=ok (ps.map Pg.d) s) (hl:ps.length<=100) (h:∀p∈ps,dq p) (hg:∀p,dq p->g [p.d] s=ok (.str (cJ p)) s):cB 1 [] it (gN 0) dh (e2 bO (aD g (af (ae 0) ah)) (eC (.str "\n"))) env s=ok (.lst ((ps.map λp=>cJ p++"\n").map D.str)) s:=by
 refine ab1 ?_;rw[mO];refine ab0 hi ⟨le_size (by rw[É];omega),?_⟩;refine ab0 (comp_map Pg.d (λ_=>true) (λp=>D.str (cJ p++"\n")) ps λp Z=>⟨[some p.d],rfl,rfl,λ_=>Rr (h p Z) (hg p (h p Z))⟩) ?_;rw[Ŗ.mpr (λ_ _=>rfl),ė];exact⟨rfl,rfl⟩
def Jg (hl:ps.length<=100) (h:∀p∈ps,dq p):jX "" (.lst ((ps.map λp=>cJ p++"\n").map D.str)) s=ok (.str (textOf ps)) s:=J5 (by decide) (by rw[É];omega) λz Z=>by
 obtain⟨p,Y,rfl⟩:=ć.mp Z;have:=zr (h p Y);omega
def Rt (hl:ps.length<=1000) (hf:∀p∈ps,ra p) (hb:c8 ps=true):bj.pX [bD ps] s=ok .ao s:=by
 refine ab1 ?_;unfold bj.pX;simp only[VC];refine ab0 (HR hl hf) ?_;rw[hb];simp only[VC,å,Â,ä,ņ]
def oM (hb:c8 ps=true):(∀p∈ps,dw p=true)/\ps.length<=24:=by
 unfold c8 iR at hb;simp only[Æ,Ê,æ] at hb;exact⟨hb.1.2.1,hb.1.1⟩
def Ru (hb:c8 ps=true):vz [bD ps] s=ok (.str (textOf ps)) s:=by
 obtain⟨Z,X⟩:=oM hb;refine ab1 ?_;unfold vz;refine dS.symm ▸ ⟨rfl,ab2 λR Y=>?_⟩;show Wp (kN _ [some (bD ps)] s) _;rw[vZ];refine ab0 (show qD bj.pX (af (ae 0) ah) [some (bD ps)] s=ok .ao s from Rt (by omega) (λp h=>zq (Z p h)) hb) ?_;rw[bS];subst Y;rw[cQ,xi rfl];refine ab0 (FP (ps:=ps) (kA rfl) (by omega) (λp h=>sW (Z p h)) λp h=>Rq h) ?_;exact ab0 (Jg (by omega) λp h=>sW (Z p h)) ⟨rfl,rfl⟩
def Rv {xs:List D} {x:D}:ar (.lst (xs++[x])) (.int (-1)) s=ok x s:=by
 rw[Vd (xs:=xs++[x]) (by simp),List.getLast_append_of_ne_nil _ (by simp)];rfl
def Rw {xs:List D} {x:D}:oA (.lst (xs++[x])) none (some (-1)) s=ok (.lst xs) s:=by
 show ok (D.lst (cutD (xs++[x]) none (some (-1)))) s=_;have:cutD (xs++[x]) none (some (-1))=xs:=by
  unfold cutD;have e1:HT.aP (xs++[x]).length 0 none=0:=rfl;have e2:HT.aP (xs++[x]).length (xs++[x]).length (some (-1))=xs.length:=by
   unfold HT.aP;dsimp only;rw[Þ (by decide),é];show (-1+((xs.length+1:Nat):Int)).toNat=_;omega
  rw[e1,e2,abh,Nat.sub_zero,List.take_left'];rfl
 rw[this]
def NL (hp:∀p∈ds,dw p=true) (hl:ds.length<=24) (hb:c8 (ST.dR cb ds)=true):n6 [.str (textOf ds)] s=ok (bD (ST.dR cb ds)) s:=by
 have hw:∀p∈ds,dq p:=λp h=>sW (hp p h);have X:=text_len hw;refine ab1 ?_;unfold n6;refine dS.symm ▸ ⟨rfl,ab2 λR Z=>?_⟩;show Wp (bB _ _ _ [some (.str (textOf ds)),none,none] s) _;simp only[gB,mM,kK,ei,bC,bz,aQ,bX];refine ab0 (show cm [.str (textOf ds),.ty "str"] s=ok (.bl true) s from rfl) ?_;simp only[je,å,Â,ä,fx];rw[bS];subst Z;refine ab2 λR Z=>?_;rw[eJ];refine ab0 (v9 lend rfl (by omega)) ?_;rw[Ox hw,Ļ,fF];show kq R _ (.nx [some (.str (textOf ds)),some (.lst ((ds.map cJ).map D.str++[D.str ""])),none]) s;rw[bS];subst Z;refine ab2 λR Z=>?_;simp only[gB,fY,cL,Bx,aQ,bq,bX];refine ab0 (show tw (.int 1) s=ok (.int (-1)) s from rfl) (ab0 Rv (ab0 CB ?_));rw[Ó rfl];simp only[å,cZ,Â,ä,fx];rw[bS];subst Z;refine ab2 λR Z=>?_;rw[eJ,ei,bC,ei,bC,mO];refine ab0 (oj (ds:=(ds.map cJ).map D.str) (ab1 (by
  rw[Bz,bq,aQ,A3,Aq (show e1 tw (eC (.int 1)) _ s=ok (.int (-1)) s from rfl)];exact ab0 Rw ⟨rfl,rfl⟩))) ⟨le_size (by rw[É,É];omega),?_⟩
 rw[ė];refine ab0 (comp_map (D.str ∘ cJ) (λ_=>true) Pg.d ds λp h=>⟨[some (.str (cJ p))],rfl,rfl,λ_=>ab1 (by
  simp only[wp_call,bC,bz,aQ];exact ab0 (NK (hw p h)) ⟨rfl,rfl⟩)⟩) ?_
 rw[Ŗ.mpr (λ_ _=>rfl),bz];refine ab0 (show mU [.lst (ds.map Pg.d)] s=ok (.lst ((ST.dR cb ds).map Pg.d)) s from ?_) ?_
 ·show (if (ds.map Pg.d).length<64 then bM (tH (ds.map Pg.d)) s else none)=_
  rw[É,Þ (by omega),zI];rfl
 rw[bz];refine ab0 (show ij [.lst ((ST.dR cb ds).map Pg.d)] s=ok (bD (ST.dR cb ds)) s from rfl) ?_;rw[fF];simp only[ö,ø];rw[bS];subst Z;refine ab2 λR Z=>?_;simp only[gB,mM,kK,wp_call,bC,bz,aQ,bq];obtain⟨Y,W⟩:=oM hb;refine ab0 (HR (by omega) λp h=>zq (Y p h)) ?_;rw[hb];simp only[je,å,Â,ä,fx];rw[bS];subst Z;simp only[cQ,aQ,bq];exact⟨rfl,rfl⟩
end
section
variable {s s':aa} {ps qs:List Pg} {p q:Pg} {m k:Int}
def Oy (h:ps.Perm qs):ji ps m k=ji qs m k:=by
 have e1:sN ps m k=sN qs m k:=by
  funext d;unfold sN shown;congr 1;exact propext ((h.filter _).map _).mem_iff
 have e2:lN ps m k=lN qs m k:=by
  funext d;unfold lN gC;congr 1;exact propext ((h.filter _).map _).mem_iff
 have Z:mN ps m k=mN qs m k:=by
  funext d;unfold mN fN;congr 1;exact propext ((h.filter _).map _).mem_iff
 unfold ji;rw[e1,e2,Z]
def S8 (h:ps.Perm qs):iF ps=iF qs:=by
 unfold iF;rw[h.length_eq];simp only[Oy h]
def FQ (hp:∀p∈ps,dw p=true) (hn:ps.Nodup):Laid (ST.dR cb ps):=⟨λq Z=>hp q ((ST.n9 _).mem_iff.mp Z),Ri hn⟩
def Oz (hp:∀p∈ps,dw p=true) (hn:ps.Nodup) (hb:iF ps=true):c8 (ST.dR cb ps)=true:=by
 rw[<- SX (FQ hp hn),S8 (ST.n9 ps)];exact hb
def OA {j:Nat} (h:s[j]?=some (.lst (ps.map Pg.d))):ig p.d (.az j) s=ok (.bl (!vc p ps)) s:=by
 have e:inD p.d (ps.map Pg.d)=some (vc p ps):=by
  unfold inD;have Z:=wN p;rw[Þ (by unfold m7;rw[Rn,Jc,Ó (show dep p.d<=100 by omega)];rfl),List.any_map];rfl
 unfold ig;rw[HW h];simp only[e];rfl
theorem Sf.set {k b:Nat} (h:Sf s k) (kb:b≠k) (c:Cell):Sf (s.set b c) k:=by
 obtain⟨u,v,e,r⟩:=h;exact⟨u,v,by rw[Ý kb];exact e,r⟩
def Vm {k:Nat} {n:Int} (h:Sf s k) (h0:0<=n) (h1:n<=30):Wp (bj.qq [.az k,.int n] s) λd s'=>∃ps:List Pg,d=bD ps/\c8 ps=true/\Laid ps/\Sf s' k/\Ex k s s':=by
 have b:=h.lt;unfold bj.qq;refine dS.symm ▸ ⟨rfl,ab2 λR V=>?_⟩;simp only[á,Ő,Ò,Nat.reduceSub,Ę,Ķ,wA,bC,bz,A0,cL,qE,bX,wp_call,aQ,bq];refine⟨le_size (n:=0) (by decide),le_size (n:=3) (by decide),?_⟩;refine(jS ((Kp.app s _).sf h) (by decide) (by decide)).mono λd s1 Z=>?_;obtain⟨r,rfl,A,w,g1,H⟩:=Z;obtain⟨d,Z,e⟩:=BH (ds:=[.int 31,.int 6,.int 12]) (s:=s1) A w;refine ab0 e ?_;have U:∃y:Int,d=.int y/\0<y/\y<=31:=by
  simp only[Ô,ï,or_false] at Z
  rcases Z with rfl|rfl|rfl
  ·exact⟨31,rfl,by decide,by decide⟩
  ·exact⟨6,rfl,by decide,by decide⟩
  ·exact⟨12,rfl,by decide,by decide⟩
 obtain⟨y,rfl,v,y1⟩:=U;refine⟨_,_,rfl,?_⟩;simp only[ö,ø,bS];have P:s.length≠k:=by omega
 have u:s1[s.length]?=some (.lst (([]:List Pg).map Pg.d)):=H.get (by simp) P;have t:Ex k s s1:=(Ex.app k s _).trans H;subst V;refine ab2 λR V=>?_;rw[jM];refine ab0 (HJ (n:=n.toNat) (s1:=s1) (i:=n) (ab1 (by simp only[VC,ņ])) (by omega) (by omega)) ?_;refine Wp.mj (λi env s'=>∃(ps:List Pg) (O N:Option D),env=[some (.az k),some (.int n),some (.az s.length),some (.int y),O,N]/\ps.length<=i/\(∀p∈ps,dw p=true)/\ps.Nodup/\iF ps=true/\s'[s.length]?=some (.lst (ps.map Pg.d))/\Sf s' k/\Ex k s s') _ ⟨[],_,_,rfl,ab3 _,λ_ z=>(ï z).elim,.nil,by decide +kernel,u,g1,t⟩ (λi d env s' Z M=>?_) (λenv s' M=>?_)
 ·obtain⟨ps,O,N,rfl,L,Y,X,T,K,g2,J⟩:=M
  rw[mL] at Z;split at Z
  ·rename_i hi
   cases Z;refine⟨_,rfl,?_⟩;unfold GX;refine ab2 λR V=>?_;simp only[eJ,fF,wp_call,bC,bz,aQ,bq,ö,ø];refine(Vh g2 v y1).mono λd W Z=>?_;obtain⟨p,rfl,o,g3,G⟩:=Z;have S:=G.get K P;have F:=J.trans G;rw[bS];subst V;simp only[gB,sC,fY,cL,aQ,bq,OA S,bo,cZ]
   cases E:vc p ps with
   |true =>
    simp only[å,Â,ä,fx];exact⟨ps,_,_,rfl,by omega,Y,X,T,S,g3,F⟩
   |false =>
    have m:p∉ps:=λz=>by rw[SY.mpr z] at E;cases E
    simp only[abP,ô,kK,wp_call,bC,bz,cL,qE,aQ,bq];refine⟨le_size (n:=1) (by decide),?_⟩;refine ab0 (show bO (.az s.length) (.lst [p.d]) W=ok (lD (ps++[p])) W from ?_) ?_
    ·unfold bO
     have e:res (.az s.length) W=.lst (ps.map Pg.d):=by unfold res;simp only[S]
     rw[e];have l:l7 (ps.map Pg.d) [p.d]=true:=Ó (le_size (by rw[É,õ,đ];omega))
     show bM (if l7 (ps.map Pg.d) [p.d]=true then some (D.lst (ps.map Pg.d++[p.d])) else none) W=_
     rw[Þ l];show ok (D.lst (ps.map Pg.d++[p.d])) W=ok (D.lst ((ps++[p]).map Pg.d)) W;rw[Ļ];rfl
    ·refine(Vk (by rw[é,õ,đ];omega)).mono λd j Z=>?_
     obtain⟨rfl,Q⟩:=Z;have I:=Q.get S;have C:=Q.sf g3;have B:Ex k s j:=F.trans ⟨Q.1,λi hi _=>Q.2 i hi⟩;simp only[je]
     cases g:iF (ps++[p]) with
     |true =>
      simp only[ô,vZ,A2,aQ,bq];obtain⟨a1,a2⟩:=HX (x:=p.d) I (by rw[É];omega);refine⟨a1,?_⟩;refine ab0 a2 ?_;refine⟨ps++[p],_,_,rfl,by rw[é];exact Nat.succ_le_succ L,λq f=>?_,?_,g,?_,Sf.set C P _,B.hi (ab3 _) _⟩
      ·rcases ċ.mp f with z|z
       ·exact Y q z
       ·rw[Ĺ.mp z];exact o
      ·rw[aa9]
       exact⟨X,by simp,λx c y U e=>m (by rw[Ĺ] at U;rw[<- U,<- e];exact c)⟩
      ·rw[ê (È.mp I).1,Ļ]
       rfl
     |false =>
      simp only[Â,ä,fx];exact⟨ps,_,_,rfl,by omega,Y,X,T,I,C,B⟩
  ·cases Z
 ·obtain⟨ps,O,N,rfl,L,Y,X,T,K,g2,J⟩:=M
  rw[jJ] at L;subst V;rw[bS];simp only[cQ,ei,bC,bz,aQ,bq];refine ab0 (show mU [.az s.length] s'=ok (.lst ((ST.dR cb ps).map Pg.d)) s' from ?_) ?_
  ·unfold mU
   have e:res (.az s.length) s'=.lst (ps.map Pg.d):=by unfold res;simp only[K]
   simp only[e];rw[Þ (by rw[É];omega),zI];rfl
  ·refine ab0 (show ij [.lst ((ST.dR cb ps).map Pg.d)] s'=ok (bD (ST.dR cb ps)) s' from rfl) ?_
   exact⟨_,rfl,Oz Y X T,FQ Y X,g2,J⟩
end
section
variable {s s':aa} {e0 e1 Ee e3 e4 e5 e6 e7 e8 e9 cY:Option D} {ps qs ds:List Pg} {p q:Pg} {k j:Nat} {Q:Fl->aa->Prop}
theorem Hc:∀{ps:List Pg},oV ps=true->ps.Pairwise λa b=>cb.lt a b=true
 | [],_=>.nil
 | [a],_=>by simp
 |a::b::r,h=>by
  unfold oV at h;simp only[abE,abh,ě,List.all_cons,Æ] at h;have ih:=Hc (ps:=b::r) (by unfold oV;exact h.2);refine ó.mpr ⟨λx hx=>?_,ih⟩
  rcases Ô.mp hx with rfl|hx
  ·exact h.1
  ·exact cb.tr _ _ _ h.1 ((ó.mp ih).1 x hx)
def S9 (hb:c8 ps=true):Laid ps:=by
 have h:=hb;unfold c8 iR at h;simp only[Æ,Ê] at h;exact⟨(oM hb).1,Hc h.1.2.2⟩
def OB (h:Laid ps):ST.dR cb ps=ps:=ST.zi (ST.n9 ps) (ST.sm ps) (h.up.imp λ{a b} Z=>by
 show cb.lt b a=false
 cases Y:cb.lt b a with
 |false=>rfl
 |true =>
  have:=cb.tr _ _ _ Z Y;rw[cb.yz] at this;cases this)
def Ta {n:Nat} (hf:ra p):bj.fV (n+4) [p.d,p.d] s=ok (.bl true) s:=by
 have Y:∀(l:List Int),l.length<=1000->bj.fV (n+2) [ti l,ti l] s=ok (.bl true) s:=λl X=>qj (by rw[É];exact X) λd Z=>by
  obtain⟨i,_,rfl⟩:=ć.mp Z;exact qi
 cases p with
 |made m y h l =>
  refine qj (show 4<=1000 by decide) λd Z=>?_;simp only[Ô,ï,or_false] at Z
  rcases Z with rfl|rfl|rfl|rfl
  ·exact zQ
  ·exact qi
  ·exact qi
  ·refine qj (show 2<=1000 by decide) λd Z=>?_
   simp only[Ô,ï,or_false] at Z
   rcases Z with rfl|rfl
   ·exact Y h hf.1
   ·exact Y l hf.2
 |bI m y c =>
  refine qj (show 4<=1000 by decide) λd Z=>?_;simp only[Ô,ï,or_false] at Z
  rcases Z with rfl|rfl|rfl|rfl
  ·exact zQ
  ·exact qi
  ·exact qi
  ·exact qi
def Gr {n:Nat} (hb:c8 ps=true):bj.fV (n+5) [bD ps,bD ps] s=ok (.bl true) s:=by
 obtain⟨Z,X⟩:=oM hb;refine qj (by rw[É];omega) λd Y=>?_;obtain⟨p,h,rfl⟩:=ć.mp Y;exact Ta (zq (Z p h))
abbrev dP (ps:List Pg):List D:=(ps.map λp=>cJ p++"\n").map D.str
def Hd (hb:c8 ps=true) (hd:ds.Perm ps):n6 [.str (textOf ds)] s=ok (bD ps) s:=by
 obtain⟨Z,Y⟩:=oM hb;have e:ST.dR cb ds=ps:=(ST.Qv hd).trans (OB (S9 hb));have:=NL (s:=s) (ds:=ds) (λp h=>Z p (hd.mem_iff.mp h)) (by rw[hd.length_eq];exact Y) (by rw[e];exact hb);rw[e] at this;exact this
def Rx (hb:c8 ps=true) (hQ:∀e7,Q (.nx [e0,e1,Ee,e3,some (bD ps),some (.lst (dP ps)),e6,e7,e8,e9,cY]) s) :
  Wp (AW [e0,e1,Ee,e3,some (bD ps),some (.lst (dP ps)),e6,e7,e8,e9,cY] s) Q:=by
 obtain⟨Z,X⟩:=oM hb;unfold AW;refine ab2 λR Y=>?_;simp only[eJ,fF,wp_call,bC,bz,aQ,bq,ö,ø];refine ab0 (Ru hb) ?_;rw[bS];subst Y;rw[gB,sP,fY,cL];simp only[aQ,bq];rw[xi rfl];simp only[aQ,bq];refine ab0 (Jg (by omega) λp h=>sW (Z p h)) (ab0 CB ?_);rw[Ó rfl];simp only[å,cZ,Â,ä,sP,mM,kK,ei,bC,bz,aQ,bq,bX];refine ab0 (show cm [.str (textOf ps),.ty "str"] s=ok (.bl true) s from rfl) ?_;simp only[je,å,Â,ä,wp_call,bC,bz,aQ,bq];refine ab0 (Hd hb (List.Perm.refl _)) ?_;refine ab0 (Gr (n:=3) hb) ?_;simp only[je,å,Â,ä,fx];exact hQ _
def PQ:textOf ds++(cJ q++"\n")=textOf (ds++[q]):=by
 refine wF ?_;unfold textOf;rw[oJ,qk,qk];simp
theorem zt {α β:Type} (f:α->β):∀(l:List α) (i:Nat),(l.map f).eraseIdx i=(l.eraseIdx i).map f
 | [],i=>rfl
 |x::l,0=>rfl
 |x::l,i+1=>by
  show f x::(l.map f).eraseIdx i=f x::(l.eraseIdx i).map f;rw[zt f l i]
theorem pZ {α:Type}:∀{qs:List α} {r:Nat} {q:α},qs[r]?=some q->(q::qs.eraseIdx r).Perm qs
 | [],r,q,h=>by simp at h
 |x::qs,0,q,h=>by simp at h;subst h;exact List.Perm.refl _
 |x::qs,r+1,q,h=>by
  have:=pZ (qs:=qs) (r:=r) (q:=q) (by simpa using h);exact(List.Perm.swap x q _).trans (this.cons x)
def Ry (st:Sf s k) (hj:s[j]?=some (.lst (dP qs))) (jk:j≠k) (hq:∀p∈qs,dq p) (hd:∀p∈ds,dq p) (ln:0<qs.length) (lq:qs.length<=24) (ld:ds.length<=24)
  (hQ:∀q r s',qs[r]?=some q->s'[j]?=some (.lst (dP (qs.eraseIdx r)))->Sf s' k->(∀i c,i≠j->i≠k->s[i]?=some c->s'[i]?=some c)->Q (.nx [e0,e1,some (.az k),e3,e4,e5,e6,e7,some (.az j),some (.str (textOf (ds++[q]))),cY]) s') :
  Wp (AX [e0,e1,some (.az k),e3,e4,e5,e6,e7,some (.az j),some (.str (textOf ds)),cY] s) Q:=by
 unfold AX;rw[eJ,cL];simp only[aQ,bq];have len:cy [.az j] s=ok (.int qs.length) s:=by
  show bM (l8 (.az j) s) s=_;have:l8 (.az j) s=some (.int qs.length):=by
   unfold l8 res;simp only[hj,É]
  rw[this];rfl
 obtain⟨d,Z,U,r,rfl,Y,L,T,X⟩:=jS st (m:=qs.length) (by omega) (by omega);have W:=X.get hj jk;obtain⟨q,a1,a2⟩:=xb (xs:=qs) Y (by omega);have S:xR (ae 8) (aD bj.cH (af (ae 2) (af (eB cy (af (ae 8) ah)) ah))) [e0,e1,some (.az k),e3,e4,e5,e6,e7,some (.az j),some (.str (textOf ds)),cY] s=ok (.str (cJ q++"\n")) (Z.set j (.lst (dP (qs.eraseIdx r.toNat)))):=by
  unfold xR;rw[show ae 8 [e0,e1,some (.az k),e3,e4,e5,e6,e7,some (.az j),some (.str (textOf ds)),cY] s=ok (.az j) s from rfl,dH,Þ (show kU (.az j) s=true by simp only[kU,hj])];have R:aD bj.cH (af (ae 2) (af (eB cy (af (ae 8) ah)) ah)) [e0,e1,some (.az k),e3,e4,e5,e6,e7,some (.az j),some (.str (textOf ds)),cY] s=ok (.int r) Z:=by
   refine ab1 ?_;simp only[wp_call,bC,bz,ei,aQ,bq];exact ab0 len (ab0 U ⟨rfl,rfl⟩)
  rw[R,dH];unfold xQ;dsimp only;rw[W];dsimp only;have V:(dP qs).length=qs.length:=by simp[dP]
  have P:dY (dP qs).length r=some r.toNat:=by rw[V];unfold dY;rw[Þ Y,Þ (by omega)]
  rw[P];dsimp only;have g1:(dP qs)[r.toNat]?=some (.str (cJ q++"\n")):=by unfold dP;rw[í,í,a2];rfl
  rw[g1];dsimp only;rw[Þ (Ó (by rw[V];exact aaU lq (by decide)))];have O:(dP qs).eraseIdx r.toNat=dP (qs.eraseIdx r.toNat):=by
   unfold dP;rw[zt,zt]
  rw[O]
 refine ab0 S ?_;have K:=text_len hd;have J:=zr (hq q (Ŧ a2));refine ab0 (jw (by omega)) ?_;rw[PQ,fF];simp only[ö,ø];refine hQ q r.toNat _ a2 (ê (È.mp W).1) (Sf.set T jk _) λi c hi N M=>?_;rw[Ý (Ź hi)];exact X.get M N
def Vn {caps:List Nat} {env:Env} {ds:List D} {fb:abZ D} {r:D} (h0:s[0]?=some (.tb "law")) (ht:m9 env caps=some ds) (h:ik .ao (fb (ds.map some)) [.ao] s=ok r s'):uj "law" caps fb ik env s=ok r s':=by
 unfold uj;rw[ht];dsimp only;rw[h0];dsimp only;rw[Þ (Ó rfl),h];rfl
def PR (hb:c8 ps=true):bj.fV 8 [.tup [.str "told",bD ps],.tup [.str "told",bD ps]] s=ok (.bl true) s:=qj (show 2<=1000 by decide) λd Z=>by
 simp only[Ô,ï,or_false] at Z
 rcases Z with rfl|rfl
 ·exact zQ
 ·exact Gr (n:=2) hb
def Rz {xs:List D}:wO [.lst xs] s=ok (.az s.length) (s++[.lst xs]):=rfl
def PU (h0:s[0]?=some (.tb "law")) (k0:(0:Nat)≠k) (st:Sf s k) (hb:c8 ps=true)
  (hQ:∀e5 e6 e7 e8 e9 cY s',s'[0]?=some (.tb "law")->Sf s' k->Q (.nx [e0,e1,some (.az k),e3,some (bD ps),e5,e6,e7,e8,e9,cY]) s') :
  Wp (AY [e0,e1,some (.az k),e3,some (bD ps),e5,e6,e7,e8,e9,cY] s) Q:=by
 obtain⟨L,G⟩:=oM hb;have hw:∀p∈ps,dq p:=λp h=>sW (L p h);have F:0<s.length:=(È.mp h0).1;unfold AY;refine ab2 λR Z=>?_;rw[eJ];refine ab0 (FP (ps:=ps) (kA rfl) (by omega) hw λp h=>S0 h) ?_;rw[fF];simp only[ö,ø];rw[bS];subst Z;refine ab2 λR Z=>?_;rw[jM];refine ab0 (jR (n:=2) rfl (by decide)) ?_;refine Wp.mj (λ_ env s'=>s'=s/\∃e6 e7,env=[e0,e1,some (.az k),e3,some (bD ps),some (.lst (dP ps)),e6,e7,e8,e9,cY]) _ ⟨rfl,_,_,rfl⟩ (λt d env s' W Y=>?_) (λenv s' Y=>?_)
 ·obtain⟨rfl,e6,e7,rfl⟩:=Y
  refine⟨_,rfl,?_⟩;exact Rx hb λ_=>⟨rfl,_,_,rfl⟩
 obtain⟨rfl,e6,e7,rfl⟩:=Y;subst Z;rw[bS];refine ab2 λR Z=>?_;simp only[eJ,kJ,ei,bC,bz,aQ,bq];refine ab0 Rz ?_;simp only[bX];refine⟨le_size (n:=2) (by decide),?_⟩;simp only[By,zL,Ap,ö,ø];rw[bS];subst Z;have P:s'.length≠k:=by have:=st.lt;omega
 have O:s'.length≠0:=by omega
 have g1:=(Kp.app s' [.lst (dP ps)]).get h0;have N:=(Kp.app s' [.lst (dP ps)]).sf st;have V:(s'++[Cell.lst (dP ps)])[s'.length]?=some (.lst (dP ps)):=by simp
 generalize s'++[Cell.lst (dP ps)]=S at g1 N V;generalize s'.length=j at P V O;refine ab2 λR Z=>?_;rw[jM];refine ab0 (HJ (n:=ps.length) (s1:=S) (i:=(ps.length:Int)) (ab1 (by
  simp only[bC,ei,bz,aQ,bq];refine ab0 (show cy [.lst (dP ps)] S=ok (.int ps.length) S from ?_) ⟨rfl,rfl⟩;show ok (D.int ((dP ps).length:Nat)) S=_;simp[dP])) rfl (by omega)) ?_
 refine Wp.mj (λi env X=>i<=ps.length->∃qs ds cY,(ds++qs).Perm ps/\ds.length=i/\X[0]?=some (.tb "law")/\Sf X k/\X[j]?=some (.lst (dP qs))/\env=[e0,e1,some (.az k),e3,some (bD ps),some (.lst (dP ps)),e6,e7,some (.az j),some (.str (textOf ds)),cY]) _ (λ_=>⟨ps,[],_,by simp,rfl,g1,N,V,rfl⟩) (λi d env X W Y=>?_) (λenv X Y=>?_)
 ·rw[mL] at W
  split at W
  ·rename_i hi
   cases W;obtain⟨qs,ds,cY,pm,ld,g2,U,M,rfl⟩:=Y (by omega);have T:=pm.length_eq;rw[é] at T;refine⟨_,rfl,?_⟩;refine Ry U M P (λp h=>hw p (pm.mem_iff.mp (Î _ h))) (λp h=>hw p (pm.mem_iff.mp (ā _ h))) (by omega) (by omega) (by omega) λq r E K J I keep _=>⟨qs.eraseIdx r,ds++[q],_,?_,by rw[é,ld];rfl,keep 0 _ (Ź O) k0 g2,I,J,rfl⟩;rw[Ł];exact((pZ K).append_left ds).trans pm
  ·cases W
 obtain⟨qs,ds,cY,pm,ld,g2,U,M,rfl⟩:=Y (by rw[jJ];exact ab3 _);rw[jJ] at ld;have T:=pm.length_eq;rw[é] at T;have H:qs=[]:=List.eq_nil_of_length_eq_zero (by omega);subst H;rw[þ] at pm;subst Z;rw[bS,gB,mM,kK,wp_call,bC];refine ab0 (Vn g2 (ds:=[.str (textOf ds)]) rfl (A4 (show (qD n6 (af (ae 0) ah)) [some (.str (textOf ds))] X=_ from Hd hb pm))) ?_;simp only[bC,bz,kJ,bX,aQ,bq];refine⟨le_size (n:=2) (by decide),?_⟩;refine ab0 (PR hb) ?_;simp only[je,å,Â,ä,fx];exact hQ _ _ _ _ _ _ _ g2 U
noncomputable def oW:List Pg:=[.made 3 30 [0,1,2,3,4,5,6,7] [],.bI 2 7 7]
def PV:c8 oW=true:=by decide +kernel
def RA:c8 []=true:=by decide +kernel
def PX {ns:List Int} {i:Int} (hi:0<=i) (h0:s[0]?=some (.tb "law")) (hQ:∀e2 e3 e4 e5 e6 e7 e8 e9 cY s',s'[0]?=some (.tb "law")->Q (.nx [some (.bJ ns),some (.int i),e2,e3,e4,e5,e6,e7,e8,e9,cY]) s') :
  Wp (AZ [some (.bJ ns),some (.int i),Ee,e3,e4,e5,e6,e7,e8,e9,cY] s) Q:=by
 have M:0<s.length:=(È.mp h0).1;unfold AZ;refine ab2 λR X=>?_;simp only[eJ,fF,wp_call,bC,bz,aQ,bq,ö,ø];refine(SR hi).mono λd s1 Z=>?_;obtain⟨rfl,W,P,rfl⟩:=Z;have Y:(0:Nat)≠s.length:=by omega
 have g1:(s++[P])[0]?=some (.tb "law"):=by rw[Ü M];exact h0
 generalize s++[P]=V at W g1;generalize s.length=k at W Y;rw[bS];subst X;refine ab2 λR X=>?_;rw[eJ];refine ab0 (show cD _ _ V=ok (bD oW) V from rfl) ?_;rw[fF];simp only[ö,ø];rw[bS];subst X;rw[jM];have hit:Wp (cO (eT (af (aD bj.qq (af (ae 2) (af (aD bj.cH (af (ae 2) (af (eC (.int 30)) ah))) ah))) (af (cD ah) (af (ae 3) ah)))) [some (.bJ ns),some (.int i),some (.az k),some (bD oW),e4,e5,e6,e7,e8,e9,cY] V) λO s'=>∃ps,O=[bD ps,bD [],bD oW]/\c8 ps=true/\s'[0]?=some (.tb "law")/\Sf s' k:=by
  obtain⟨d,L,K,n,rfl,J,z,U,I⟩:=jS W (m:=30) (by decide) (by decide);obtain⟨d,H,G,ps,rfl,T,_,F,E⟩:=Vm U J (by omega);refine ab0 (oj (s1:=H) (ds:=[bD ps,bD [],bD oW]) (ab1 ?_)) ⟨ps,rfl,T,E.get (I.get g1 Y) Y,F⟩;simp only[qE,wp_call,bC,bz,kJ,aQ,bq,bX];refine ab0 K (ab0 G ?_);exact⟨le_size (n:=0) (by decide),le_size (n:=3) (by decide),rfl,rfl⟩
 refine hit.mono λO L D=>?_;obtain⟨ps,rfl,T,g2,U⟩:=D;refine Wp.mj (λ_ env s'=>s'[0]?=some (.tb "law")/\Sf s' k/\∃e4 e5 e6 e7 e8 e9 cY,env=[some (.bJ ns),some (.int i),some (.az k),some (bD oW),e4,e5,e6,e7,e8,e9,cY]) _ ⟨g2,U,_,_,_,_,_,_,_,rfl⟩ (λt d env s' Z S=>?_) (λenv s' S=>?_)
 ·obtain⟨g,N,e4,e5,e6,e7,e8,e9,cY,rfl⟩:=S
  have Z:∃qs,d=bD qs/\c8 qs=true:=by
   have:=Ŧ Z;simp only[Ô,ï,or_false] at this
   rcases this with rfl|rfl|rfl
   ·exact⟨ps,rfl,T⟩
   ·exact⟨[],rfl,RA⟩
   ·exact⟨oW,rfl,PV⟩
  obtain⟨qs,rfl,C⟩:=Z;refine⟨_,rfl,?_⟩;exact PU g Y N C λ_ _ _ _ _ _ s' B A=>⟨B,A,_,_,_,_,_,_,_,rfl⟩
 obtain⟨g,N,e4,e5,e6,e7,e8,e9,cY,rfl⟩:=S;exact hQ _ _ _ _ _ _ _ _ _ _ g
end
def RB (ns:List Int) (hn:ns.length<=63):∃s,bj.xt [.bJ ns] [.tb "law"]=some (.ok (.bl true),s):=by
 suffices h:Wp (bj.xt [.bJ ns] [.tb "law"]) λd _=>d=.bl true by
  obtain⟨d,s,e,rfl⟩:=h;exact⟨s,e⟩
 unfold bj.xt;refine dS.symm ▸ ⟨rfl,ab2 λR N=>?_⟩;rw[jM];have P:∃n:Nat,dM (af (eB qK (af (eC (.int 1)) (af (eB tD (af (eB cy (af (ae 0) ah)) (af (eC (.int 3)) ah))) ah))) ah) [some (.bJ ns),none,none,none,none,none,none,none,none,none,none] [.tb "law"]=ok (cj 0 n) [.tb "law"]:=by
  have e:∃n:Nat,n<=1000/\(af (eB qK (af (eC (.int 1)) (af (eB tD (af (eB cy (af (ae 0) ah)) (af (eC (.int 3)) ah))) ah))) ah) [some (.bJ ns),none,none,none,none,none,none,none,none,none,none] [.tb "law"]=ok [.int n] [.tb "law"]:=by
   refine⟨(if (if (3:Int)<ns.length then (3:Int) else ns.length) > 1 then (if (3:Int)<ns.length then (3:Int) else ns.length) else 1).toNat,by split<;>split<;>omega,?_⟩
   rw[Int.toNat_of_nonneg (by split<;>split<;>omega)]
   rfl
  obtain⟨n,K,M⟩:=e;exact⟨n,jR M (by omega)⟩
 obtain⟨n,P⟩:=P;refine ab0 P ?_;refine Wp.mj (λi env s=>s[0]?=some (.tb "law")/\∃e1 e2 Z Y X W V U T S,env=[some (.bJ ns),e1,e2,Z,Y,X,W,V,U,T,S]) _ ⟨rfl,_,_,_,_,_,_,_,_,_,_,rfl⟩ (λi d env s Q O=>?_) (λenv s O=>?_)
 ·obtain⟨g,e1,e2,Z,Y,X,W,V,U,T,S,rfl⟩:=O
  rw[mL] at Q;split at Q
  ·cases Q
   refine⟨_,rfl,?_⟩;rw[abm];exact PX (by omega) g λe2 Z Y X W V U T S J L=>⟨L,_,_,_,_,_,_,_,_,_,_,rfl⟩
  ·cases Q
 ·obtain⟨g,e1,e2,Z,Y,X,W,V,U,T,S,rfl⟩:=O
  subst N;simp only[VC]
end DI
end
namespace DI.bj
open PySem L2 DI
noncomputable def WE:List Str:=["NoMarks","NoSheet","NoPage","NoBook","NoMould","NoDay","NoSort","NoNumber","NoSheets","NoRun","NoLaying","NoHeap","NoCount","Clash","NoDeed","NoText","NoRow","TooMany","Lacking"]
def Df (K:Ē) (x:Str) (st:abM):Prop:=∃(f:Ú) (Z:Å) (Y:Option Ú) (X:Array (Option Å)) (kV W pm:Å) (an:Option Ú) (cd V:Å),è K Ö x=some (some (.ref f))/\K.lookup f=some ⟨Z,Y,.func (ŏ x x (oq st) (ie st) (cG st) .none kV W pm an cd V),X⟩/\aae K cd x=true/\ı K (.ref f)=true
def WG {K:Ē} {x:Str} {st:abM} {f:Ú} {oc:Å} {od:Option Ú} {sl:Array (Option Å)} {kV dc pm:Å} {an:Option Ú} {cd ct:Å} (a:è K Ö x=some (some (.ref f))) (l:K.lookup f=some ⟨oc,od,.func (ŏ x x (oq st) (ie st) (cG st) .none kV dc pm an cd ct),sl⟩) (c:aae K cd x=true) (k:ı K (.ref f)=true):Df K x st:=⟨f,oc,od,sl,kV,dc,pm,an,cd,ct,a,l,c,k⟩
def oX {K:Ē} {x:Str} {i:Int} {t:Tok} (e:è K Ö x=some (some (.int i t))):∃t,è K Ö x=some (some (.int i t)):=⟨t,e⟩
def J6 {K:Ē} {x y:Str} {t:Tok} (e:è K Ö x=some (some (.str y t))):∃t,è K Ö x=some (some (.str y t)):=⟨t,e⟩
def bH {K:Ē} {h:Ī} {mg:Str->Option Å} {x:Str} {st:abM} {ps:List Str} (X:K.In h) (G:h.Ns Ö mg) (D:Df K x st) (hb:∀(kV doc pm:Å) (an:Option Ú) (aS ct:Å) (us:List Å),us.length=ps.length->bindArgs (ŏ x x (oq st) (ie st) (cG st) .none kV doc pm an aS ct) ⟨us,[]⟩=pure (ps.zip us)):∃f fd,Gd K mg x st ps f fd:=by
 obtain⟨f,Z,Y,W,kV,V,pm,an,cd,ct,a,l,c,k⟩:=D;have F:=Ih (st:=st) l c k;exact⟨f,_,ĭ X G a,F,F.binds hb⟩
def cx {P:List Å->Prop} (h:∀a0:Å,P [a0]) (us:List Å) (hl:us.length=1):P us:=by
 cases us with
 |nil=>simp at hl
 |cons a0 Z =>
 cases Z with
 |cons _ _=>simp at hl
 |nil =>
 exact h a0
def nk {P:List Å->Prop} (h:∀a0 a1:Å,P [a0,a1]) (us:List Å) (hl:us.length=2):P us:=by
 cases us with
 |nil=>simp at hl
 |cons a0 Z =>
 cases Z with
 |nil=>simp at hl
 |cons a1 Y =>
 cases Y with
 |cons _ _=>simp at hl
 |nil =>
 exact h a0 a1
def xy {P:List Å->Prop} (h:∀a0 a1 a2:Å,P [a0,a1,a2]) (us:List Å) (hl:us.length=3):P us:=by
 cases us with
 |nil=>simp at hl
 |cons a0 Z =>
 cases Z with
 |nil=>simp at hl
 |cons a1 Y =>
 cases Y with
 |nil=>simp at hl
 |cons a2 X =>
 cases X with
 |cons _ _=>simp at hl
 |nil =>
 exact h a0 a1 a2
def WH {P:List Å->Prop} (h:∀a0 a1 a2 a3:Å,P [a0,a1,a2,a3]) (us:List Å) (hl:us.length=4):P us:=by
 cases us with
 |nil=>simp at hl
 |cons a0 Z =>
 cases Z with
 |nil=>simp at hl
 |cons a1 Y =>
 cases Y with
 |nil=>simp at hl
 |cons a2 X =>
 cases X with
 |nil=>simp at hl
 |cons a3 W =>
 cases W with
 |cons _ _=>simp at hl
 |nil =>
 exact h a0 a1 a2 a3
def all_mk {P:â} {w:Ą} {K:Ē} {h:Ī} {mg:Str->Option Å} {fa:Ú} (X:K.In h) (G:h.Ns Ö mg) (ZK:mg "law"=some (.ref fa))
  (d0:Df K "_law_cell_at" (top 65))
  (d1:Df K "_law_state" (top 66))
  (d2:Df K "_law_take" (top 67))
  (d3:Df K "_law_sheet" (top 68))
  (d4:Df K "_law_page" (top 69))
  (d5:Df K  acg (top 70))
  (d6:Df K "_law_is_book" (top 71))
  (d7:Df K "_law_book" (top 72))
  (d8:Df K "is_rising" (top 30))
  (d9:Df K "is_number" (top 25))
  (Eg:Df K "is_below" (top 26))
  (Eh:Df K "is_mark" (top 27))
  (Ei:Df K "are_marks" (top 35))
  (Ej:Df K "are_apart" (top 37))
  (Ek:Df K "is_sheet" (top 36))
  (El:Df K "is_mould" (top 28))
  (Em:Df K "is_day" (top 29))
  (En:Df K "is_page" (top 38))
  (Eo:Df K "are_laid" (top 39))
  (Ep:Df K "days_seen" (top 44))
  (Er:Df K "days_mended" (top 45))
  (Es:Df K "is_any_behind" (top 43))
  (Et:Df K "clashes" (top 42))
  (Eu:Df K "faults_of" (top 41))
  (Ew:Df K "is_book" (top 40))
  (Ey:Df K "need_book" (top 46))
  (Ez:Df K "marks_text" (top 53))
  (EA:Df K "sheet_text" (top 54))
  (EB:Df K "page_text" (top 55))
  (EC:Df K "book_text" (top 51))
  (ED:Df K "_law_same" (top 75))
  (yK:Df K  ach (top 76))
  (EE:Df K  aci (top 77))
  (EF:Df K "_law_line" (top 78))
  (EG:Df K "_law_classes" (top 73))
  (EH:Df K "marks_of" (top 63))
  (EI:Df K "sheet_of" (top 62))
  (EJ:Df K "page_of" (top 61))
  (EK:Df K "are_figures" (top 60))
  (EL:Df K "is_sheet_word" (top 59))
  (EM:Df K "is_number_word" (top 58))
  (EN:Df K "are_page_words" (top 57))
  (EO:Df K "read_page" (top 56))
  (ER:Df K "read_book" (top 52))
  (ES:Df K "_law_met" (top 74))
  (zu:∃t,è K Ö "NOTHING"=some (some (.str "-" t)))
  (zv:∃t,è K Ö "FIGURES"=some (some (.str "0123456789" t)))
  (dl:Df K "law" (top 79))
  (Aw:∃t,è K Ö "MARKS"=some (some (.int (8) t)))
  (zU:∃t,è K Ö "MOULDS"=some (some (.int (4) t)))
  (Bb:∃t,è K Ö "DAYS"=some (some (.int (31) t)))
  (Ax:∃t,è K Ö "PAGES"=some (some (.int (24) t)))
  (BJ:∃t,è K Ö "HAS"=some (some (.int (0) t)))
  (Ay:∃t,è K Ö "LACKS"=some (some (.int (1) t)))
  (zw:∃t,è K Ö "LONGEST"=some (some (.int (30) t)))
  (yT:è K Ö "ValueError"=some none)
  (BK:è K Ö "all"=some none)
  (BL:è K Ö "any"=some none)
  (Bc:è K Ö "bool"=some none)
  (BM:è K Ö "int"=some none)
  (yU:è K Ö "isinstance"=some none)
  (BN:è K Ö "len"=some none)
  (Bd:è K Ö "list"=some none)
  (BO:è K Ö "max"=some none)
  (BP:è K Ö "min"=some none)
  (Az:è K Ö "range"=some none)
  (BQ:è K Ö "set"=some none)
  (zV:è K Ö "sorted"=some none)
  (BR:è K Ö "str"=some none)
  (AA:è K Ö "tuple"=some none)
  (BS:è K Ö "zip"=some none)
  (xf:kI K bx WE "MouldError"=true) (tf:AV K "law"=true)
  : ∃(c T:Ú) (fd:ĝ),abW K "law"=some (c,T)/\K.lookup T=none/\(∀(s:Ä) (v:Å),BindsTo s fd ⟨[v],[]⟩ [(ab6,v)])/\∀base:Ī,K.In base->base.Ns Ö mg->base.BuiltinsAt mg T->cR P w K mg base dg 12 fa fd [ab6] (wX K T):=by
 have L:=bH (ps:=[ab6,"_law_k"]) X G d0 λ_ _ _ _ _ _=>nk λ_ _=>rfl;have g1:=bH (ps:=[ab6,"_law_k"]) X G d1 λ_ _ _ _ _ _=>nk λ_ _=>rfl;have g2:=bH (ps:=[ab5,acb]) X G d2 λ_ _ _ _ _ _=>nk λ_ _=>rfl;have g3:=bH (ps:=[ab5]) X G d3 λ_ _ _ _ _ _=>cx λ_=>rfl;have J:=bH (ps:=[ab5,"_law_days"]) X G d4 λ_ _ _ _ _ _=>nk λ_ _=>rfl;have I:=bH (ps:=[ab8,ace,ab7]) X G d5 λ_ _ _ _ _ _=>xy λ_ _ _=>rfl;have H:=bH (ps:=[ab8]) X G d6 λ_ _ _ _ _ _=>cx λ_=>rfl;have E:=bH (ps:=[ab5,acb]) X G d7 λ_ _ _ _ _ _=>nk λ_ _=>rfl;have D:=bH (ps:=["things"]) X G d8 λ_ _ _ _ _ _=>cx λ_=>rfl;have C:=bH (ps:=["thing"]) X G d9 λ_ _ _ _ _ _=>cx λ_=>rfl;have B:=bH (ps:=["thing","many"]) X G Eg λ_ _ _ _ _ _=>nk λ_ _=>rfl;have A:=bH (ps:=["thing"]) X G Eh λ_ _ _ _ _ _=>cx λ_=>rfl;have z:=bH (ps:=["thing"]) X G Ei λ_ _ _ _ _ _=>cx λ_=>rfl;have y:=bH (ps:=["marks","others"]) X G Ej λ_ _ _ _ _ _=>nk λ_ _=>rfl;have x:=bH (ps:=["thing"]) X G Ek λ_ _ _ _ _ _=>cx λ_=>rfl;have u:=bH (ps:=["thing"]) X G El λ_ _ _ _ _ _=>cx λ_=>rfl;have r:=bH (ps:=["thing"]) X G Em λ_ _ _ _ _ _=>cx λ_=>rfl;have q:=bH (ps:=["thing"]) X G En λ_ _ _ _ _ _=>cx λ_=>rfl;have p:=bH (ps:=["thing"]) X G Eo λ_ _ _ _ _ _=>cx λ_=>rfl;have o:=bH (ps:=["pages","mould","mark","half"]) X G Ep λ_ _ _ _ _ _=>WH λ_ _ _ _=>rfl;have n:=bH (ps:=["pages","mould","mark"]) X G Er λ_ _ _ _ _ _=>xy λ_ _ _=>rfl;have m:=bH (ps:=["days","day","later"]) X G Es λ_ _ _ _ _ _=>xy λ_ _ _=>rfl;have j:=bH (ps:=["pages","mould","mark"]) X G Et λ_ _ _ _ _ _=>xy λ_ _ _=>rfl;have i:=bH (ps:=["pages"]) X G Eu λ_ _ _ _ _ _=>cx λ_=>rfl;have g:=bH (ps:=["thing"]) X G Ew λ_ _ _ _ _ _=>cx λ_=>rfl;have d:=bH (ps:=["thing"]) X G Ey λ_ _ _ _ _ _=>cx λ_=>rfl;have b:=bH (ps:=["marks"]) X G Ez λ_ _ _ _ _ _=>cx λ_=>rfl;have Z2:=bH (ps:=["sheet"]) X G EA λ_ _ _ _ _ _=>cx λ_=>rfl;have Z3:=bH (ps:=["page"]) X G EB λ_ _ _ _ _ _=>cx λ_=>rfl;have Z4:=bH (ps:=["book"]) X G EC λ_ _ _ _ _ _=>cx λ_=>rfl;have Z5:=bH (ps:=[ab9,acd]) X G ED λ_ _ _ _ _ _=>nk λ_ _=>rfl;have Z6:=bH (ps:=["_law_marks"]) X G yK λ_ _ _ _ _ _=>cx λ_=>rfl;have Z7:=bH (ps:=["_law_sheet_here"]) X G EE λ_ _ _ _ _ _=>cx λ_=>rfl;have Z8:=bH (ps:=[aca]) X G EF λ_ _ _ _ _ _=>cx λ_=>rfl;have Z9:=bH (ps:=["_law_e"]) X G EG λ_ _ _ _ _ _=>cx λ_=>rfl;have Z:=bH (ps:=["word"]) X G EH λ_ _ _ _ _ _=>cx λ_=>rfl;have Y:=bH (ps:=["word"]) X G EI λ_ _ _ _ _ _=>cx λ_=>rfl;have W:=bH (ps:=["words"]) X G EJ λ_ _ _ _ _ _=>cx λ_=>rfl;have V:=bH (ps:=["word"]) X G EK λ_ _ _ _ _ _=>cx λ_=>rfl;have U:=bH (ps:=["word"]) X G EL λ_ _ _ _ _ _=>cx λ_=>rfl;have S:=bH (ps:=["word"]) X G EM λ_ _ _ _ _ _=>cx λ_=>rfl;have R:=bH (ps:=["words"]) X G EN λ_ _ _ _ _ _=>cx λ_=>rfl;have Q:=bH (ps:=["line"]) X G EO λ_ _ _ _ _ _=>cx λ_=>rfl;have O:=bH (ps:=["text"]) X G ER λ_ _ _ _ _ _=>cx λ_=>rfl;have N:=bH (ps:=["_law_call"]) X G ES λ_ _ _ _ _ _=>cx λ_=>rfl;have v5:∃t,mg "MARKS"=some (.int (8) t):=by obtain⟨t,e⟩:=Aw;exact⟨t,ĭ X G e⟩
 have vN:∃t,mg "MOULDS"=some (.int (4) t):=by obtain⟨t,e⟩:=zU;exact⟨t,ĭ X G e⟩
 have wC:∃t,mg "DAYS"=some (.int (31) t):=by obtain⟨t,e⟩:=Bb;exact⟨t,ĭ X G e⟩
 have zM:∃t,mg "PAGES"=some (.int (24) t):=by obtain⟨t,e⟩:=Ax;exact⟨t,ĭ X G e⟩
 have A5:∃t,mg "HAS"=some (.int (0) t):=by obtain⟨t,e⟩:=BJ;exact⟨t,ĭ X G e⟩
 have zN:∃t,mg "LACKS"=some (.int (1) t):=by obtain⟨t,e⟩:=Ay;exact⟨t,ĭ X G e⟩
 have ze:∃t,mg "LONGEST"=some (.int (30) t):=by obtain⟨t,e⟩:=zw;exact⟨t,ĭ X G e⟩
 have Nf:=ÿ X G yT;have WI:=ÿ X G BK;have WJ:=ÿ X G BL;have Vo:=ÿ X G Bc;have WK:=ÿ X G BM;have Ng:=ÿ X G yU;have WL:=ÿ X G BN;have Vp:=ÿ X G Bd;have WM:=ÿ X G BO;have WN:=ÿ X G BP;have Tb:=ÿ X G Az;have WO:=ÿ X G BQ;have RC:=ÿ X G zV;have WQ:=ÿ X G BR;have Tc:=ÿ X G AA;have WR:=ÿ X G BS;have rY:∃t,mg "NOTHING"=some (.str "-" t):=by obtain⟨t,e⟩:=zu;exact⟨t,ĭ X G e⟩
 have zf:∃t,mg "FIGURES"=some (.str "0123456789" t):=by obtain⟨t,e⟩:=zv;exact⟨t,ĭ X G e⟩
 obtain⟨f,oc,od,sl,kV,dc,pm,an,cd,ct,a,l,c,k⟩:=dl;have e:=ZK.symm.trans (ĭ X G a);cases e;have F:=Ih (st:=(top 79)) l c k;have GL:Gd K mg "law" (top 79) [ab6] _ _:=⟨ĭ X G a,F,F.binds λ_ _ _ _ _ _=>cx λ_=>rfl⟩;obtain⟨c0,T0,M,hC,hT⟩:=SA tf;exact⟨c0,T0,_,M,hT,λs v=>.of_eq rfl,λbase _ _ hB=>Sz (Va ⟨Nf,WI,WJ,Vo,WK,Ng,WL,Vp,WM,WN,Tb,WO,RC,WQ,Tc,WR,fH X G xf (by decide +kernel),fH X G xf (by decide +kernel),fH X G xf (by decide +kernel),fH X G xf (by decide +kernel),fH X G xf (by decide +kernel),fH X G xf (by decide +kernel),fH X G xf (by decide +kernel),fH X G xf (by decide +kernel),fH X G xf (by decide +kernel),fH X G xf (by decide +kernel),fH X G xf (by decide +kernel),fH X G xf (by decide +kernel),fH X G xf (by decide +kernel),fH X G xf (by decide +kernel),fH X G xf (by decide +kernel),fH X G xf (by decide +kernel),fH X G xf (by decide +kernel),fH X G xf (by decide +kernel),fH X G xf (by decide +kernel),Wr xf,KN X G xf (by decide +kernel),KN X G xf (by decide +kernel),XR X G xf,v5,vN,wC,zM,A5,zN,ze,rY,zf,L,g1,g2,g3,J,I,H,E,D,C,B,A,z,y,x,u,r,q,p,o,n,m,j,i,g,d,b,Z2,Z3,Z4,Z5,Z6,Z7,Z8,Z9,Z,Y,W,V,U,S,R,Q,O,N⟩ M hC hB GL a) M RB⟩
def walk {l:PySem.W.OpenLaw} {q:â} {loose:List Str} {XP:(Str->Option Å)->Ī->Prop} {YP:Ą->Ī->Prop} {d:DefRec} {K:Params->Ē} (hn:l.most=some 63) (uJ:d.params.defaults=[]) (hd:(PyProof.Rows.recsOf q).find? (λe=>e.name==d.name)=some d)
  (hY:∀(w:Ą) (h:Ī),YP w h->(K w.params).In h)
  (F:∀(w:Ą) (mg:Str->Option Å) (fa:Ú) (h:Ī),(K w.params).In h->h.Ns Ö mg->mg d.name=some (.ref fa) ->
   ∃(c T:Ú) (fd:ĝ),abW (K w.params) d.name=some (c,T)/\(K w.params).lookup T=none/\(∀(s:Ä) (u:Å),BindsTo s fd ⟨[u],[]⟩ [(ab6,u)])/\∀base:Ī,(K w.params).In base->base.Ns Ö mg->base.BuiltinsAt mg T->cR l.prog w (K w.params) mg base dg 12 fa fd [ab6] (wX (K w.params) T)) :
  PySem.W.WalkO q loose XP YP l.row.toRowW d [] (λf vs=>PySem.call f vs) :=
 L2.UZ (n:=63) (k:=12) (x:= ab6) (CX:=λ_=>dg) (sp:=λw=>wX (K w.params)) hn (by decide) uJ ⟨rfl,by decide,by decide,rfl⟩ hY hd F (λ_ _ _ a Z Y X V=>⟨a,Z,rfl,V,Y,X,λ_=>rfl⟩) λ_ _ _ _ _ z=>z
end DI.bj
open PySem PySem.W PyProof.Rows
namespace PySem.W.Fast
def te13048286358512099152:=trivial
def te17508922733846150491:=trivial
def te10785557487999113988:=trivial
def te8403559534865787773:=trivial
def te15500001179271910561:=trivial
def te4678103353419205127:=trivial
end PySem.W.Fast
set_option maxRecDepth 100000 in
set_option maxHeartbeats 0 in
theorem PySem.Challenge.cw_twinmoulds_k49_books_as_texts_holds : PySem.Challenge.rw_twinmoulds_k49_books_as_texts.Holds := by
 w_on;o_law;k_head;(case hw=>w_witness2)
 k_fill
 refine DI.bj.walk (l:=PySem.Challenge.rw_twinmoulds_k49_books_as_texts) rfl rfl rfl (λw h Y=>PySem.W.km_in_of Y) ?F
 case F =>
  intro w V U h Z G X;refine' DI.bj.all_mk Z G X ?d0 ?d1 ?d2 ?d3 ?d4 ?d5 ?d6 ?d7 ?d8 ?d9 ?Eg ?Eh ?Ei ?Ej ?Ek ?El ?Em ?En ?Eo ?Ep ?Er ?Es ?Et ?Eu ?Ew ?Ey ?Ez ?EA ?EB ?EC ?ED ?yK ?EE ?EF ?EG ?EH ?EI ?EJ ?EK ?EL ?EM ?EN ?EO ?ER ?ES ?zu ?zv ?dl ?Aw ?zU ?Bb ?Ax ?BJ ?Ay ?zw ?yT ?BK ?BL ?Bc ?BM ?yU ?BN ?Bd ?BO ?BP ?Az ?BQ ?zV ?BR ?AA ?BS ?xf ?tf
  (case d0|d1|d2|d3|d4|d5|d6|d7|d8|d9|Eg|Eh|Ei|Ej|Ek|El|Em|En|Eo|Ep|Er|Es|Et|Eu|Ew|Ey|Ez|EA|EB|EC|ED|yK|EE|EF|EG|EH|EI|EJ|EK|EL|EM|EN|EO|ER|ES|dl=>refine' DI.bj.WG ?a ?l ?c ?k;(case a=>k_is);(case l=>k_is);(case c=>k_is);(case k=>k_is))
  (case Aw=>refine' DI.bj.oX ?e;(case e=>k_is))
  (case zU=>refine' DI.bj.oX ?e;(case e=>k_is))
  (case Bb=>refine' DI.bj.oX ?e;(case e=>k_is))
  (case Ax=>refine' DI.bj.oX ?e;(case e=>k_is))
  (case BJ=>refine' DI.bj.oX ?e;(case e=>k_is))
  (case Ay=>refine' DI.bj.oX ?e;(case e=>k_is))
  (case zw=>refine' DI.bj.oX ?e;(case e=>k_is))
  (case yT|BK|BL|Bc|BM|yU|BN|Bd|BO|BP|Az|BQ|zV|BR|AA|BS=>k_is)
  (case zu=>refine' DI.bj.J6 ?e;(case e=>k_is))
  (case zv=>refine' DI.bj.J6 ?e;(case e=>k_is))
  (case xf=>kernel_rfl)
  (case tf=>kernel_rfl)
